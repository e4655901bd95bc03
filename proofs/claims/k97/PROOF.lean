import PyProof.Rows.All
import Wide.All
import OpenK.AllK
import Wide.FinOn
import HandS.ForMost
import HandS.Zip
import HandS.TupAny
import KE.KRevSl
import KE.GoesNew
import KE.KDictZip
import HandS.Walk
import HandS.Conv
import HandS.ForExc
import HandS.ExcInit
import HandS.ExcIs
import HandS.ExcField
import KE.KExcInit
import HandS.Defaults
import HandS.ExcValue
import HandS.SetFor
import HandS.IsInst
import HandS.Flow
import HandS.Style
import PySem.Challenge.RW_countedsteps_k97_errors_and_values
set_option Elab.async false
set_option linter.all false
set_option maxRecDepth 100000
set_option maxHeartbeats 2000000
/-! Rules that the hand layer lacks: the reversed slice, enumerate of a tuple, tuple(zip(..)) -/
namespace CS
open PySem PySem.Spec PyProof.Rows L2
/-! ### x[::-1] -/
theorem adj_back (m : Nat) : Builtin.Slice.sliceAdjust none none (-1) (m : Int) = ((m : Int) - 1, -1) := by
  simp [Builtin.Slice.sliceAdjust]
theorem plc_back (m : Nat) : Builtin.Slice.slicePlaces ((m : Int) - 1) (-1) (-1) = m := by
  unfold Builtin.Slice.slicePlaces
  simp
  omega
theorem fm_same {α β : Type} {f g : α → Option β} : ∀ {l : List α}, (∀ a ∈ l, f a = g a) → l.filterMap f = l.filterMap g
  | [], _ => rfl
  | a :: l, h => by
    have e1 := h a (List.mem_cons_self ..)
    have e2 := fm_same (l := l) fun b hb => h b (List.mem_cons_of_mem _ hb)
    simp only [List.filterMap_cons, e1, e2]
theorem pick_back (its : Array Value) : ((List.range its.size).filterMap fun (j : Nat) => its[((its.size : Int) - 1 + (j : Int) * (-1)).toNat]?) = its.toList.reverse := by
  have q1 : (List.range its.size).filterMap (fun (j : Nat) => its[((its.size : Int) - 1 + (j : Int) * (-1)).toNat]?) = ((List.range its.size).map (fun j => its.size - 1 - j)).filterMap (its[·]?) := by
    rw [List.filterMap_map]
    refine fm_same fun j hj => ?_
    have hj' := List.mem_range.mp hj
    have e : ((its.size : Int) - 1 + (j : Int) * (-1)).toNat = its.size - 1 - j := by omega
    show its[((its.size : Int) - 1 + (j : Int) * (-1)).toNat]? = its[its.size - 1 - j]?
    rw [e]
  rw [q1, PySem.W.krv_range, List.filterMap_reverse, PySem.W.krv_all]
section
variable {prog : Program} {w : World} {A : Around} {E : Value → Shared → Prop} {s : Shared}
theorem app_back {sl : Addr} {k : Tok} {m : Nat} {Q : Int × Int × Nat → Shared → Prop} (hsl : s.heap.IsSliceOf sl .none .none (.int (-1) k)) (hq : Q ((m : Int) - 1, -1, m) s) :
    wpAny (model prog w) A (Builtin.Slice.sliceApplied (.ref sl) (pure (m : Int))) Q E s := by
  obtain ⟨ob, hob, hcl, hdt⟩ := id hsl
  unfold Builtin.Slice.sliceApplied Builtin.Slice.sliceFields
  refine wpAny_bind (wpAny_bind (wpAny_field hob hdt (x := .none) rfl (wpAny_bind (wpAny_field hob hdt (x := .none) rfl (wpAny_bind (wpAny_field hob hdt (x := .int (-1) k) rfl (wpAny_pure ?_)))))))
  refine wpAny_bind (PyProof.Rows.slicePart_int ?_)
  show wpAny _ _ (if ((-1 : Int) == 0) = true then _ else _) _ _ s
  rw [if_neg (by decide)]
  refine wpAny_bind (PyProof.Rows.slicePart_none (wpAny_bind (PyProof.Rows.slicePart_none (wpAny_bind (wpAny_pure ?_)))))
  show wpAny _ _ (match Builtin.Slice.sliceAdjust none none (-1) (m : Int) with | (lo, hi) => pure (lo, (-1 : Int), Builtin.Slice.slicePlaces lo hi (-1))) _ _ s
  rw [adj_back]
  show wpAny _ _ (pure ((m : Int) - 1, (-1 : Int), Builtin.Slice.slicePlaces ((m : Int) - 1) (-1) (-1))) _ _ s
  rw [plc_back]
  exact wpAny_pure hq
theorem tup_back {t sl : Addr} {its : Array Value} {k : Tok} {Q : Value → Shared → Prop} (ht : IsTup s.heap t its) (hsl : s.heap.IsSliceOf sl .none .none (.int (-1) k))
    (hq : Q (.ref s.heap.objs.size) { s with heap := s.heap.push { cls := .type "tuple", data := .seq its.toList.reverse.toArray } }) (hfit : its.size ≤ sizeLine) : wpAny (model prog w) A (getItem (.ref t) (.ref sl)) Q E s := by
  obtain ⟨ob, hob, hcl, hdt⟩ := id hsl
  have hty : s.TypeIs (.ref sl) "slice" := ⟨ob, hob, hcl⟩
  have hfit2 : sizeOk (.seq its.toList.reverse.toArray) := by
    show its.toList.reverse.toArray.size ≤ sizeLine
    rw [List.size_toArray, List.length_reverse, Array.length_toList]
    exact hfit
  unfold getItem
  try with_reducible refine wpAny_holding ?_
  first | refine wpAny_bind (wpAny_pure ?_) | skip
  refine wpAny_bind (wpAny_sequenceKey ht.typeIs (by decide) ?_)
  refine wpAny_bind (wpAny_callSpecial?_slot (name := Str.ofString "__getitem__") ht.typeIs PyProof.Rows.slot_tuple_getitem (wpAny_call_entry PyProof.Rows.slot_tuple_getitem ht.typeIs entry_tuple_getitem ?_ (args_tuple_getitem _ _)))
  show wpAny _ _ (Builtin.Tuple.tupleItemsOf (.ref t) >>= _) _ _ s
  refine wpAny_bind (tupleItemsOf_ ht (wpAny_bind (wpAny_typeOf hty ?_)))
  rw [if_pos (by decide)]
  refine wpAny_bind (app_back hsl ?_)
  have nope : ¬ ((((its.size : Nat) : Int) - 1 == 0 && (-1 : Int) == 1 && its.size == its.size) = true) := by
    intro q
    rw [Bool.and_eq_true, Bool.and_eq_true] at q
    exact absurd (eq_of_beq q.1.2) (by decide)
  show wpAny _ _ (if (((its.size : Nat) : Int) - 1 == 0 && (-1 : Int) == 1 && its.size == its.size) = true then _ else _) _ _ s
  rw [if_neg nope, pick_back]
  first
    | exact wpAny_bind (m := Builtin.Tuple.tupleExact _) (wpAny_newObj_type (wpAny_pure ⟨_, rfl, wpAny_pure hq⟩) hfit2)
    | exact wpAny_bind (m := Builtin.Tuple.tupleExact _) (wpAny_newObj_type (wpAny_bind (wpAny_pure (wpAny_pure ⟨_, rfl, wpAny_pure hq⟩))) hfit2)
    | exact wpAny_bind (wpAny_bind (m := Builtin.Tuple.tupleExact _) (wpAny_newObj_type (wpAny_pure (wpAny_pure ⟨_, rfl, wpAny_pure hq⟩)) hfit2))
    | exact wpAny_bind (wpAny_bind (m := Builtin.Tuple.tupleExact _) (wpAny_newObj_type (wpAny_pure ⟨_, rfl, wpAny_pure hq⟩) hfit2))
end
section
variable {X : Cx} {e st : Expr} {te ts : TE} {p2 pos : Pos}
/-- x[::-1], x a list or a tuple: a new one, turned -/
def tBack (K : PySem.W.Frag) (te ts : TE) : TE := fun σ H Q => te σ H fun x H1 => ts σ H1 fun y H2 => y = .int (-1) ∧ ∃ a xs, x = .ref a ∧ ((SqT K H2 a xs ∧ ∀ p, H2 p = none → Q (.ref p) (upd H2 p (.tup xs.reverse))) ∨ (SqL K H2 a xs ∧ ∀ p, H2 p = none → Q (.ref p) (upd H2 p (.lst xs.reverse))))
theorem vals_rev {xs : List V} {us : List Value} (h : Vals xs us) : Vals xs.reverse us.reverse := by
  induction h with
  | nil => exact .nil
  | cons r t ih =>
    rw [List.reverse_cons, List.reverse_cons]
    exact ih.append (.cons r .nil)
theorem pe_back (he : PE X e te) (hst : PE X st ts) : PE X (.Subscript e (.Slice none none (some st) p2) pos) (tBack X.K te ts) := by
  refine ⟨fun pins s0 σ H0 Q0 I0 hw => ?_⟩
  refine Subscript_ (thn (he.run pins s0 σ H0 _ I0 hw) fun v s1 ⟨x, H1, I1, r1, q1⟩ => ?_)
  refine wpAny_Slice ?_
  rw [evalPart_none]
  refine wpAny_pure (wpAny_pure ?_)
  rw [evalPart_some]
  refine thn (hst.run pins s1 σ H1 _ I1 q1) fun vs s3 ⟨y, H3, I3, r3, q3⟩ => ?_
  obtain ⟨rfl, a, xs, rfl, q⟩ := q3
  obtain ⟨tk, rfl⟩ := r3
  have I4 : Inv X pins σ H3 { s3 with heap := s3.heap.push { cls := .type "slice", data := .fields #[.none, .none, .int (-1) tk] } } := I3.kept (t' := s3.toks) fun b ob z => Heap.get?_push_of_some _ z
  cases r1
  rcases q with ⟨hx, q⟩ | ⟨hx, q⟩
  · obtain ⟨its, rv, pt, hz⟩ := I4.tuple hx
    refine tail_any (ops := [.ref a, .ref s3.heap.objs.size]) pt.typeIs PyProof.Rows.slot_tuple_getitem.lookup (tup_back pt (Heap.IsSliceOf.new ..) ?_ (by rw [List.size_toArray, ← rv.length]; exact hz)) (by with_unfolding_all rfl)
    refine ⟨.ref _, _, I4.laid (t' := s3.toks) (o := .tup xs.reverse) (fun b ob z => Heap.get?_push_of_some _ z) (Nat.le_refl _) ?_, rfl, q _ (I4.hok.fresh (Nat.le_refl _))⟩
    exact ⟨by rw [List.length_reverse]; exact hz, _, vals_rev rv, IsTup.new _ _⟩
  · obtain ⟨its, rv, pt, hz⟩ := I4.list hx
    refine tail_any (ops := [.ref a, .ref s3.heap.objs.size]) pt.isList.typeIs slot_list_getitem.lookup (wpAny_getItem_list_slice pt.isList (Heap.IsSliceOf.new ..) .none .none (.int (-1) tk) (by decide) ?_ (by rw [List.size_toArray, ← rv.length]; exact hz)) (by with_unfolding_all rfl)
    rw [PySem.W.krv_pick]
    refine ⟨.ref _, _, I4.laid (t' := s3.toks) (o := .lst xs.reverse) (fun b ob z => Heap.get?_push_of_some _ z) (Nat.le_refl _) ?_, rfl, q _ (I4.hok.fresh (Nat.le_refl _))⟩
    exact ⟨by rw [List.length_reverse]; exact hz, _, 0, vals_rev rv, Heap.get?_push_size _ rfl⟩
end
end CS
namespace CS
open PySem PySem.Spec PyProof.Rows L2
/-! ### enumerate(x) of anything whose iterator is known -/
theorem enumB_new {v : Value} {ob : Obj} {Hh : Heap → Prop} (B : Begins v ob Hh) :
    Meets (Builtin.«enumerate.__new__» ⟨[.type "enumerate", v], []⟩) (fun _ R s => Hh s.heap ∧ R (.ok (.ret (.ref (s.heap.push ob).objs.size)))
      { s with heap := (s.heap.push ob).push { cls := .type "enumerate", data := .fields #[.none, .bool false, .ref s.heap.objs.size, rawInt 0, .none, .none] } }) :=
  .of_wp fun prog w A R s hst => by
    obtain ⟨hp, gn, dr, tk, os⟩ := s; obtain ⟨hh, hR⟩ := hst
    have subE := sub_enumerate
    have itr : ∀ {A' : Around} {E : Value → Shared → Prop} {Q : Value → Shared → Prop}, Q (.ref hp.objs.size) ⟨hp.push ob, gn, dr, tk, os⟩ → wpAny (model prog w) A' (pyIter v) Q E ⟨hp, gn, dr, tk, os⟩ :=
      fun q => B.iter prog w _ _ ⟨hp, gn, dr, tk, os⟩ _ hh q
    wp_walk using itr
    refine wpAny_stack_any fun st => wpAny_pure ?_
    split
    · rename_i c _ _ _ _ _
      cases (c == Value.type "enumerate")
      · wp_walk using itr
        exact ⟨_, rfl, hR⟩
      · wp_walk using itr
        exact ⟨_, rfl, hR⟩
    · wp_walk using itr
      exact ⟨_, rfl, hR⟩
section
variable {prog : Program} {w : World} {A : Around} {E : Value → Shared → Prop} {s : Shared}
theorem enumB_call {v : Value} {ob : Obj} {Hh : Heap → Prop} {Q : Value → Shared → Prop} (B : Begins v ob Hh) (hh : Hh s.heap)
    (hq : ∀ h', IsEnum h' (s.heap.objs.size + 1) s.heap.objs.size 0 .none → h'.get? s.heap.objs.size = some ob → h'.objs.size = s.heap.objs.size + 2 →
      (∀ c u, s.heap.get? c = some u → h'.get? c = some u) → Q (.ref (s.heap.objs.size + 1)) { s with heap := h' }) :
    wpAny (model prog w) A (call (.type "enumerate") [v]) Q E s := by
  refine callType_new F.called_enumerate (by decide) (F.typeCall_enumerate_1 _) (F.newCall_enumerate_1 _) (fun obj => F.args_object_init_2 obj _) F.entry_enumerate_new (enumB_new B) ⟨hh, ?_⟩
  have sz1 : (s.heap.push ob).objs.size = s.heap.objs.size + 1 := Heap.size_push ..
  show _ ∧ _
  rw [sz1]
  have at1 : IsEnum ((s.heap.push ob).push { cls := .type "enumerate", data := .fields #[.none, .bool false, .ref s.heap.objs.size, rawInt 0, .none, .none] }) (s.heap.objs.size + 1) s.heap.objs.size 0 .none := by
    have q := Heap.get?_push_size (s.heap.push ob) (o := { cls := .type "enumerate", data := .fields #[.none, .bool false, .ref s.heap.objs.size, rawInt 0, .none, .none] }) rfl
    rw [sz1] at q
    exact q
  exact ⟨⟨_, at1, rfl⟩, hq _ at1 (Heap.get?_push_of_some _ (Heap.get?_push_size _ B.free)) (by rw [Heap.size_push, sz1]) fun c u z => Heap.get?_push_of_some _ (Heap.get?_push_of_some _ z)⟩
end
/-- the pairs (0, x), (1, y), .. of the tuple at a -/
def IteT (K : PySem.W.Frag) (a : Addr) : It :=
  ⟨fun i H => ∃ (xs : List V) (x : V), SqT K H a xs ∧ xs[i]? = some x, fun i H v H' => ∃ (T : Addr) (x : V), v = .ref T ∧ H T = none ∧ H' = upd H T (.tup [.int (i : Nat), x]) ∧ ∀ ys, SqT K H a ys → ys[i]? = some x,
   fun i H => ∃ ys : List V, SqT K H a ys ∧ ys.length ≤ i⟩
theorem turn_enumT {P : Program} {w : World} {K : PySem.W.Frag} {elts : List Expr} {kk : Nat} {tpos : Pos} (a e it : Addr) :
    Turn P w K (.Tuple elts kk tpos) (IteT K a) [e, it] e (fun i h => (∃ old, IsEnum h e it ((i : Nat) : Int) old) ∧ h.IsTupleIter it a i ∧ e ≠ it) where
  mem := by simp
  obj := fun i h st b hb => by
    obtain ⟨⟨old, he⟩, ⟨ob, ho, _, hd⟩, _⟩ := st
    have hb' : b = e ∨ b = it := by simpa using hb
    rcases hb' with rfl | rfl
    · exact ⟨_, he, fun v q => nomatch q⟩
    · exact ⟨ob, ho, fun v q => by rw [hd] at q; cases q⟩
  keep := fun i h h' st kp => by
    obtain ⟨⟨old, he⟩, hi, hne⟩ := st
    exact ⟨⟨old, kp e (by simp) _ he⟩, hi.at fun u q => kp it (by simp) u q, hne⟩
  item := by
    intro X eP ew eK cm i pins s σ H E I fpo st gg
    subst eP ew eK
    obtain ⟨⟨old, he⟩, hit, hne⟩ := st
    obtain ⟨xs, x, hsq, hx⟩ := gg
    obtain ⟨its, rv, pt, _⟩ := I.tuple hsq
    obtain ⟨u, hu, ru⟩ := rv.get hx
    have hel : e < s.heap.objs.size := Heap.lt_size he
    have hil : it < s.heap.objs.size := by obtain ⟨_, q, _⟩ := hit; exact Heap.lt_size q
    have eT : e ≠ a := fun z => by
      obtain ⟨ot, hot, hct, _⟩ := pt
      rw [← z, he] at hot
      cases hot
      exact absurd (Value.type.inj hct) (by decide)
    have iT : a ≠ it := fun z => by
      obtain ⟨oi, hoi, hci, _⟩ := hit
      obtain ⟨ot, hot, hct, _⟩ := pt
      rw [z, hoi] at hot
      cases hot
      rw [hci] at hct
      exact absurd (Value.type.inj hct) (by decide)
    have D := Draws.tuple (prog := X.prog) (w := X.w) (A := X.A.in1) (I.ok.hd cm) it a iT its.toArray
    have hlt : i < its.toArray.size := by
      have q := (List.getElem?_eq_some_iff.mp hu).1
      simpa using q
    refine wpAny_pyNext_enum_itemD D he ⟨hit, pt⟩ hlt hne (by simp [hne, eT]) fun y h' tk hP ho sn hT hsz hk => ?_
    have ey : y = u := by
      have q : its[i]? = some y := by simpa using hP
      rw [hu] at q
      exact (Option.some.inj q).symm
    subst ey
    refine ⟨_, rfl, wpAny_letOwnedTupleGo_enum (s := { s with heap := h', toks := tk + 1 }) ho fun h2 he2 sb => ?_⟩
    have hT2 : h2.get? s.heap.objs.size = some { cls := .type "tuple", data := .seq #[.int i tk, y] } := (sb.2 _ (Nat.ne_of_gt hel)).trans hT
    have nw : ObjOk X.prog X.w (upd H s.heap.objs.size (.tup [.int (i : Nat), x])) h2 s.heap.objs.size (.tup [.int (i : Nat), x]) :=
      ⟨by show 2 ≤ sizeLine; decide, [.int i tk, y], .cons ⟨_, rfl⟩ (.cons ru .nil), ⟨_, hT2, rfl, _, rfl⟩⟩
    have I1 : Inv X pins σ (upd H s.heap.objs.size (.tup [.int (i : Nat), x])) { s with heap := h2, toks := tk + 1 } :=
      I.turnedNew (ch := [e, it]) (fun b ob hb q => (sb.2 b (fun z => hb (by simp [z]))).trans (hk b ob (fun z => hb (by simp [z])) (fun z => hb (by simp [z])) q)) fpo (Nat.le_refl _) nw
    refine ⟨.ref s.heap.objs.size, _, I1, rfl, ⟨_, x, rfl, I.hok.fresh (Nat.le_refl _), rfl, fun ys hy => by rw [I.tuple_inj hy hsq]; exact hx⟩, ⟨⟨y, ?_⟩, sn.1.at fun u q => (sb.2 it (Ne.symm hne)).trans q, hne⟩, fun b hb => ?_⟩
    · have e1 : ((i + 1 : Nat) : Int) = (i : Int) + 1 := by omega
      rw [e1]
      exact he2
    · have hb' : b < s.heap.objs.size := by
        have z : b = e ∨ b = it := by simpa using hb
        rcases z with z | z
        · rw [z]; exact hel
        · rw [z]; exact hil
      rw [upd_ne (Nat.ne_of_lt hb')]
      exact (fpo b hb).1
  done := by
    intro X eP ew eK cm i pins s σ H E I fpo st gg
    subst eP ew eK
    obtain ⟨⟨old, he⟩, hit, hne⟩ := st
    obtain ⟨ys, hsq, hle⟩ := gg
    obtain ⟨its, rv, pt, _⟩ := I.tuple hsq
    obtain ⟨f0, f1, f2, f3, f4, f5⟩ := fpo it (by simp)
    have iT : a ≠ it := fun z => by
      obtain ⟨oi, hoi, hci, _⟩ := hit
      obtain ⟨ot, hot, hct, _⟩ := pt
      rw [z, hoi] at hot
      cases hot
      rw [hci] at hct
      exact absurd (Value.type.inj hct) (by decide)
    have hlen := rv.length
    have hnone : its.toArray[i]? = none := by simp; omega
    have hty : s.TypeIs (.ref e) "enumerate" := ⟨_, he, rfl⟩
    unfold pyNext
    refine wpAny_bind (wpAny_attempt (wpAny_callSpecial?_slot (name := Str.ofString "__next__") hty F.slot_enumerate_next (wpAny_call_entry F.slot_enumerate_next hty F.entry_enumerate_next ?_ (F.args_enumerate_next_1 _))))
    show wpAny _ _ (field (.ref e) 2 >>= _) _ _ _
    refine wpAny_bind (wpAny_field he rfl (x := .ref it) rfl (wpAny_bind (RZ.nextOf_tuple_end (I.ok.hd cm) hit pt hnone fun h' xx hk hx' => ?_)))
    obtain ⟨ob, ho, hcl⟩ := hx'
    refine wpAny_bind (wpAny_isInstance (T := "StopIteration") (b := true) ⟨ob, ho, hcl⟩ isSubtype_stop ?_)
    exact wpAny_pure ⟨rfl, I.turned (t' := s.toks) (fun b u hb q => hk b u hb q) f0 f1 f3 f4 f5⟩
  self := fun A i s Q E st hq => by
    obtain ⟨⟨_, he⟩, _⟩ := st
    exact wpAny_pyIter_enum he hq
def iEnumT (K : PySem.W.Frag) (ta : TA) : TI := fun σ H R => ta σ H fun vs H1 => ∃ (a : Addr) (xs : List V), vs = [.ref a] ∧ ((SqT K H1 a xs ∧ R (IteT K a) H1) ∨ (SqL K H1 a xs ∧ R (Ite K a) H1))
theorem pi_enumT {X : Cx} {e : Expr} {ta : TA} {p pos tpos : Pos} {elts : List Expr} {kk : Nat} (gE : Gl X "enumerate") (mE : X.mg "enumerate" = none) (ha : PA X [e] ta) (hs : starEach [e] X.env = [(false, eval e X.env)] := by rfl) :
    PI X (.Tuple elts kk tpos) (.Call (.Name "enumerate" p) [e] [] pos) (iEnumT X.K ta) := by
  refine ⟨fun pins s0 σ H0 R I0 hw => ?_⟩
  refine Call_ (ld_blt I0 gE mE boot_enumerate (PyProof.Rows.callWith_type1 (thn (ha.run pos pins s0 σ H0 _ I0 hw) fun us s1 ⟨vs, H1, I1, r1, q1⟩ => ?_) hs rfl))
  obtain ⟨a, xs, rfl, q⟩ := q1
  obtain ⟨u, rfl, rx⟩ := vals1 r1
  cases rx
  have fr : ∀ b, b ∈ [s1.heap.objs.size + 1, s1.heap.objs.size] → FpOk X pins H1 b := fun b hb => by
    have z : b = s1.heap.objs.size + 1 ∨ b = s1.heap.objs.size := by simpa using hb
    have hle : s1.heap.objs.size ≤ b := by omega
    exact I1.fpOk hle (I1.hok.fresh hle)
  rcases q with ⟨hq, q⟩ | ⟨hq, q⟩
  · obtain ⟨its, rv, pt, _⟩ := I1.tuple hq
    refine enumB_call (begins_tuple a its.toArray) pt fun h' he ho hsz hk => wpAny_pyIter_enum he ?_
    exact ⟨s1.heap.objs.size + 1, [s1.heap.objs.size + 1, s1.heap.objs.size], _, _, H1, rfl, I1.kept (t' := s1.toks) hk, turn_enumT a _ _, ⟨⟨_, he⟩, ⟨_, ho, rfl, rfl⟩, Nat.succ_ne_self _⟩, fr, q⟩
  · obtain ⟨its, rv, pt, _⟩ := I1.list hq
    refine enumB_call (begins_list a its.toArray) pt.isList fun h' he ho hsz hk => wpAny_pyIter_enum he ?_
    exact ⟨s1.heap.objs.size + 1, [s1.heap.objs.size + 1, s1.heap.objs.size], _, _, H1, rfl, I1.kept (t' := s1.toks) hk, turn_enum a _ _, ⟨⟨_, he⟩, ⟨_, ho, rfl, rfl⟩, Nat.succ_ne_self _⟩, fr, q⟩
theorem walk_enumT {K : PySem.W.Frag} {a : Addr} {xs : List V} : Walk (IteT K a) xs.length (fun H => SqT K H a xs) (YPair (fun i => some (.int (i : Nat))) (fun i => xs[i]?)) := by
  refine ⟨fun i _ hi q => ⟨xs, xs[i], q, by simp [hi]⟩, fun _ q => ⟨xs, q, Nat.le_refl _⟩, fun i H v H' _ q y => ?_⟩
  obtain ⟨T, x, e1, e2, e3, e4⟩ := y
  exact ⟨T, .int (i : Nat), x, e1, e2, e3, rfl, e4 xs q⟩
end CS
namespace CS
open PySem PySem.Spec PyProof.Rows L2

section
variable {prog : Program} {w : World} {A : Around} {E : Value → Shared → Prop} {s : Shared} {z TI TO T i1 i2 : Addr} {fp1 fp2 : List Addr} {n1 n2 i : Nat} {P1 P2 : Nat → Value → Prop} {St1 St2 : Nat → Heap → Prop} {f : Bool} {oT : Obj}
/-- one more of a zip whose tuple is still held by somebody -/
theorem held_item {Q : Value → Shared → Prop} (S : ZipSep2 z TI TO i1 i2 fp1 fp2) (D1 : Draws prog w A i1 fp1 n1 P1 St1) (D2 : Draws prog w A i2 fp2 n2 P2 St2)
    (hz : IsZipHeld s.heap z TI TO T f) (hT : s.heap.get? T = some oT) (hTI : IsTupOf2 s.heap TI (.ref i1) (.ref i2)) (st1 : St1 i s.heap) (st2 : St2 i s.heap) (lt1 : i < n1) (lt2 : i < n2)
    (hq : ∀ x y h' tk, P1 i x → P2 i y → IsZipHeld h' z TI TO T true → St1 (i + 1) h' → St2 (i + 1) h' → IsTupOf2 h' s.heap.objs.size x y → h'.objs.size = s.heap.objs.size + 1 →
      (∀ c u, c ≠ z → c ≠ i1 → c ≠ i2 → s.heap.get? c = some u → h'.get? c = some u) → Q (.ref s.heap.objs.size) { s with heap := h', toks := tk }) :
    wpAny (model prog w) A (Builtin.«zip.__next__» ⟨[.ref z], []⟩) (fun fin s' => ∃ v, fin = .done (.ret v) ∧ Q v s') E s := by
  obtain ⟨hp, gn, dr, tk0, os⟩ := s
  show wpAny _ _ (field (.ref z) 2 >>= _) _ _ _
  refine wpAny_bind (wpAny_field hz rfl (x := .bool false) rfl ?_)
  show wpAny _ _ (field (.ref z) 3 >>= _) _ _ _
  refine wpAny_bind (wpAny_field hz rfl (x := .ref TI) rfl (wpAny_bind (wpAny_seqItems hTI rfl ?_)))
  show wpAny _ _ (Builtin.SmallTypes.ownedTupleIsFree (.ref z) >>= _) _ _ _
  refine wpAny_bind (wpAny_tupleHeld_zip hz hT fun g1 hz1 hs1 => ?_)
  replace hs1 : Heap.SameBut z hp g1 := hs1
  simp only [Bool.false_eq_true, if_false]
  refine wpAny_bind ?_
  rw [← Array.forIn_toList]
  simp only [List.forIn_cons, List.forIn_nil]
  refine wpAny_bind (wpAny_bind (wpAny_holding ?_))
  show wpAny _ _ (Builtin.SmallTypes.nextOf (.ref i1) >>= _) _ _ ⟨g1, gn, dr, tk0, os⟩
  refine wpAny_bind (D1.item i _ _ _ lt1 (D1.over st1 hs1 S.zf1) fun x g2 tk1 hx sn1 hs2 => wpAny_pure (wpAny_pure ?_))
  replace hs2 : Heap.SameBut i1 g1 g2 := hs2
  refine wpAny_bind (wpAny_bind (wpAny_holding ?_))
  show wpAny _ _ (Builtin.SmallTypes.nextOf (.ref i2) >>= _) _ _ ⟨g2, gn, dr, tk1, os⟩
  refine wpAny_bind (D2.item i _ _ _ lt2 (D2.over (D2.over st2 hs1 S.zf2) hs2 S.sep1_2) fun y g3 tk2 hy sn2 hs3 => wpAny_pure (wpAny_pure (wpAny_pure ?_)))
  replace hs3 : Heap.SameBut i2 g2 g3 := hs3
  show wpAny _ _ (newTuple [x, y] >>= _) _ _ ⟨g3, gn, dr, tk2, os⟩
  refine wpAny_bind (wpAny_newTuple ?_)
  have esz : g3.objs.size = hp.objs.size := by rw [hs3.1, hs2.1, hs1.1]
  have hz3 : IsZipHeld g3 z TI TO T true := hs3.extBut _ _ S.zi2 (hs2.extBut _ _ S.zi1 hz1)
  have kept : ∀ c u, c ≠ z → c ≠ i1 → c ≠ i2 → hp.get? c = some u → g3.get? c = some u := fun c u c1 c2 c3 q => hs3.extBut _ _ c3 (hs2.extBut _ _ c2 (hs1.extBut _ _ c1 q))
  have j1 : St1 (i + 1) g3 := D1.over sn1 hs3 S.sep2_1
  refine wpAny_pure ⟨_, rfl, ?_⟩
  show Q (.ref g3.objs.size) _
  have tp : IsTupOf2 (g3.push { cls := .type "tuple", data := .seq #[x, y] }) g3.objs.size x y := Heap.get?_push_size _ rfl
  have sz4 : (g3.push { cls := .type "tuple", data := .seq #[x, y] }).objs.size = g3.objs.size + 1 := Heap.size_push ..
  rw [esz] at tp sz4 ⊢
  exact hq x y _ tk2 hx hy (Heap.get?_push_of_some _ hz3) (D1.frame _ _ _ j1 fun b _ u q => Heap.get?_push_of_some _ q) (D2.frame _ _ _ sn2 fun b _ u q => Heap.get?_push_of_some _ q) tp sz4 fun c u c1 c2 c3 q => Heap.get?_push_of_some _ (kept c u c1 c2 c3 q)
theorem held_end {Q : Fin → Shared → Prop} (S : ZipSep2 z TI TO i1 i2 fp1 fp2) (D1 : Draws prog w A i1 fp1 n1 P1 St1) (D2 : Draws prog w A i2 fp2 n2 P2 St2)
    (hz : IsZipHeld s.heap z TI TO T f) (hT : s.heap.get? T = some oT) (hTI : IsTupOf2 s.heap TI (.ref i1) (.ref i2)) (st1 : St1 i s.heap) (st2 : St2 i s.heap) (le1 : i ≤ n1) (le2 : i ≤ n2) (fin : i = n1 ∨ i = n2)
    (he : ∀ h' tk e, (∀ c u, c ≠ z → c ≠ i1 → c ≠ i2 → s.heap.get? c = some u → h'.get? c = some u) → (∃ u, h'.get? e = some u ∧ u.cls = .type "StopIteration") → E (.ref e) { s with heap := h', toks := tk }) :
    wpAny (model prog w) A (Builtin.«zip.__next__» ⟨[.ref z], []⟩) Q E s := by
  obtain ⟨hp, gn, dr, tk0, os⟩ := s
  show wpAny _ _ (field (.ref z) 2 >>= _) _ _ _
  refine wpAny_bind (wpAny_field hz rfl (x := .bool false) rfl ?_)
  show wpAny _ _ (field (.ref z) 3 >>= _) _ _ _
  refine wpAny_bind (wpAny_field hz rfl (x := .ref TI) rfl (wpAny_bind (wpAny_seqItems hTI rfl ?_)))
  show wpAny _ _ (Builtin.SmallTypes.ownedTupleIsFree (.ref z) >>= _) _ _ _
  refine wpAny_bind (wpAny_tupleHeld_zip hz hT fun g1 hz1 hs1 => ?_)
  replace hs1 : Heap.SameBut z hp g1 := hs1
  simp only [Bool.false_eq_true, if_false]
  refine wpAny_bind ?_
  rw [← Array.forIn_toList]
  simp only [List.forIn_cons, List.forIn_nil]
  refine wpAny_bind (wpAny_bind (wpAny_holding ?_))
  show wpAny _ _ (Builtin.SmallTypes.nextOf (.ref i1) >>= _) _ _ ⟨g1, gn, dr, tk0, os⟩
  by_cases lt1 : i < n1
  · refine wpAny_bind (D1.item i _ _ _ lt1 (D1.over st1 hs1 S.zf1) fun x g2 tk1 hx sn1 hs2 => wpAny_pure (wpAny_pure ?_))
    replace hs2 : Heap.SameBut i1 g1 g2 := hs2
    have ei : i = n2 := by omega
    refine wpAny_bind (wpAny_bind (wpAny_holding ?_))
    show wpAny _ _ (Builtin.SmallTypes.nextOf (.ref i2) >>= _) _ _ ⟨g2, gn, dr, tk1, os⟩
    refine wpAny_bind (D2.done ⟨g2, gn, dr, tk1, os⟩ _ _ (by rw [← ei]; exact D2.over (D2.over st2 hs1 S.zf2) hs2 S.sep1_2) fun q e hq hE => ?_)
    replace hq : Heap.ExtBut i2 g2 q := hq
    exact he q tk1 e (fun c u c1 c2 c3 r => hq _ _ c3 (hs2.extBut _ _ c2 (hs1.extBut _ _ c1 r))) hE
  · have ei : i = n1 := by omega
    refine wpAny_bind (D1.done ⟨g1, gn, dr, tk0, os⟩ _ _ (by rw [← ei]; exact D1.over st1 hs1 S.zf1) fun q e hq hE => ?_)
    replace hq : Heap.ExtBut i1 g1 q := hq
    exact he q tk0 e (fun c u c1 c2 c3 r => hq _ _ c2 (hs1.extBut _ _ c1 r)) hE
/-- where a zip stands ahead of its i-th turn, if what it gave is kept -/
def ZAt (z TI TO i1 i2 : Addr) (S : Addr) (St1 St2 : Nat → Heap → Prop) (i : Nat) (h : Heap) : Prop :=
  IsTupOf2 h TI (.ref i1) (.ref i2) ∧ St1 i h ∧ St2 i h ∧ ((IsZip h z TI TO .none ∧ ∃ a b, IsTupOf2 h TO a b) ∨ ∃ T f oT, IsZipHeld h z TI TO T f ∧ h.get? T = some oT ∧ T ≠ z ∧ T ≠ i1 ∧ T ≠ i2 ∧ T ≠ S)
theorem z_item {S0 : Addr} {Q : Option Value → Shared → Prop} (S : ZipSep2 z TI TO i1 i2 fp1 fp2) (D1 : Draws prog w A.in1 i1 fp1 n1 P1 St1) (D2 : Draws prog w A.in1 i2 fp2 n2 P2 St2)
    (hz : ZAt z TI TO i1 i2 S0 St1 St2 i s.heap) (hS : S0 < s.heap.objs.size) (lt1 : i < n1) (lt2 : i < n2)
    (hq : ∀ x y h' tk, P1 i x → P2 i y → ZAt z TI TO i1 i2 S0 St1 St2 (i + 1) h' → IsTupOf2 h' s.heap.objs.size x y → h'.objs.size = s.heap.objs.size + 1 →
      (∀ c u, c ≠ z → c ≠ TO → c ≠ i1 → c ≠ i2 → s.heap.get? c = some u → h'.get? c = some u) → Q (some (.ref s.heap.objs.size)) { s with heap := h', toks := tk }) :
    wpAny (model prog w) A (pyNext (.ref z)) Q E s := by
  obtain ⟨hTI, st1, st2, q⟩ := hz
  have lti1 : i1 < s.heap.objs.size := by obtain ⟨_, q⟩ := D1.live _ _ st1; exact Heap.lt_size q
  have lti2 : i2 < s.heap.objs.size := by obtain ⟨_, q⟩ := D2.live _ _ st2; exact Heap.lt_size q
  rcases q with ⟨hz, a, b, hTO⟩ | ⟨T, f, oT, hz, hT, t1, t2, t3, t4⟩
  · have ltz : z < s.heap.objs.size := Heap.lt_size hz
    refine wpAny_pyNext_zipD2_item S D1 D2 hz hTI hTO st1 st2 lt1 lt2 fun x y h' tk p1 p2 b1 b2 d1 d2 b5 b6 b7 => hq x y h' tk p1 p2 ⟨b7 _ _ S.TIz S.TITO S.TIi1 S.TIi2 hTI, d1, d2, .inr ⟨s.heap.objs.size, false, _, b1, b5, ?_⟩⟩ b5 b6 b7
    exact ⟨Nat.ne_of_gt ltz, Nat.ne_of_gt lti1, Nat.ne_of_gt lti2, Nat.ne_of_gt hS⟩
  · have hty : s.TypeIs (.ref z) "zip" := ⟨_, hz, rfl⟩
    unfold pyNext
    exact wpAny_bind (wpAny_attempt (wpAny_callSpecial?_slot (name := Str.ofString "__next__") hty F.slot_zip_next (wpAny_call_entry F.slot_zip_next hty F.entry_zip_next
      (held_item S D1 D2 hz hT hTI st1 st2 lt1 lt2 fun x y h' tk p1 p2 b1 d1 d2 b5 b6 b7 => wpAny_pure (hq x y h' tk p1 p2
        ⟨b7 _ _ S.TIz S.TIi1 S.TIi2 hTI, d1, d2, .inr ⟨T, true, oT, b1, b7 _ _ t1 t2 t3 hT, t1, t2, t3, t4⟩⟩ b5 b6 fun c u c1 _ c3 c4 q => b7 c u c1 c3 c4 q)) (F.args_zip_next_1 _))))
theorem z_end {S0 : Addr} {Q : Option Value → Shared → Prop} (S : ZipSep2 z TI TO i1 i2 fp1 fp2) (D1 : Draws prog w A.in1 i1 fp1 n1 P1 St1) (D2 : Draws prog w A.in1 i2 fp2 n2 P2 St2)
    (hz : ZAt z TI TO i1 i2 S0 St1 St2 i s.heap) (le1 : i ≤ n1) (le2 : i ≤ n2) (fin : i = n1 ∨ i = n2)
    (hq : ∀ h' tk, (∀ c u, c ≠ z → c ≠ TO → c ≠ i1 → c ≠ i2 → s.heap.get? c = some u → h'.get? c = some u) → Q none { s with heap := h', toks := tk }) : wpAny (model prog w) A (pyNext (.ref z)) Q E s := by
  obtain ⟨hTI, st1, st2, q⟩ := hz
  rcases q with ⟨hz, a, b, hTO⟩ | ⟨T, f, oT, hz, hT, t1, t2, t3, t4⟩
  · exact wpAny_pyNext_zipD2_end S D1 D2 hz hTI hTO st1 st2 le1 le2 fin hq
  · have hty : s.TypeIs (.ref z) "zip" := ⟨_, hz, rfl⟩
    unfold pyNext
    refine wpAny_bind (wpAny_attempt (wpAny_callSpecial?_slot (name := Str.ofString "__next__") hty F.slot_zip_next (wpAny_call_entry F.slot_zip_next hty F.entry_zip_next
      (held_end S D1 D2 hz hT hTI st1 st2 le1 le2 fin fun h' tk e hk hE => ?_) (F.args_zip_next_1 _))))
    obtain ⟨u, hu, hcl⟩ := hE
    exact wpAny_bind (wpAny_isInstance (T := "StopIteration") (b := true) ⟨u, hu, hcl⟩ isSubtype_stop (wpAny_pure (hq _ _ fun c v c1 _ c3 c4 q => hk c v c1 c3 c4 q)))
theorem ZAt.through {S0 : Addr} {h h' : Heap} (S : ZipSep2 z TI TO i1 i2 fp1 fp2) (D1 : Draws prog w A i1 fp1 n1 P1 St1) (D2 : Draws prog w A i2 fp2 n2 P2 St2) (n1' : S0 ∉ fp1) (n2' : S0 ∉ fp2) (nT : TI ≠ S0) (nz : z ≠ S0) (nO : TO ≠ S0)
    (hz : ZAt z TI TO i1 i2 S0 St1 St2 i h) (k : ∀ c u, c ≠ S0 → h.get? c = some u → h'.get? c = some u) : ZAt z TI TO i1 i2 S0 St1 St2 i h' := by
  obtain ⟨hTI, st1, st2, q⟩ := hz
  refine ⟨k _ _ nT hTI, D1.frame _ _ _ st1 fun b hb u e => k _ _ (fun z => n1' (z ▸ hb)) e, D2.frame _ _ _ st2 fun b hb u e => k _ _ (fun z => n2' (z ▸ hb)) e, ?_⟩
  rcases q with ⟨hz, a, b, hTO⟩ | ⟨T, f, oT, hz, hT, t1, t2, t3, t4⟩
  · exact .inl ⟨k _ _ nz hz, a, b, k _ _ nO hTO⟩
  · exact .inr ⟨T, f, oT, k _ _ nz hz, k _ _ t4 hT, t1, t2, t3, t4⟩
end
end CS
namespace CS
open PySem PySem.Spec PyProof.Rows L2
theorem zip_nolen : typeLookup (.type "zip") "__len__" = pure none := am_miss_of_fast (by decide +kernel)
theorem zip_nohint : typeLookup (.type "zip") "__length_hint__" = pure none := am_miss_of_fast (by decide +kernel)
/-- the j-th address of as holds the pair of the j-th of xs and the j-th of ys -/
def PairsAt (xs ys : List V) (as : List Addr) (H : Hp) : Prop := ∀ (j : Nat) (a : Addr) (x y : V), as[j]? = some a → xs[j]? = some x → ys[j]? = some y → H a = some (.tup [x, y])
section
variable {X : Cx} {pins : List (Addr × Obj)} {σ : L2.St} {s : Shared} {A : Around} {z TI TO i1 i2 S0 : Addr} {fp1 fp2 : List Addr} {St1 St2 : Nat → Heap → Prop} {xs ys : List V} {its1 its2 : List Value} {n1 n2 n : Nat} {H0 : Hp}
/-- what the loop that collects a zip has reached -/
structure ZGot (X : Cx) (pins : List (Addr × Obj)) (σ : L2.St) (s : Shared) (z TO i1 i2 S0 : Addr) (xs ys : List V) (H0 : Hp) (i : Nat) (h : Heap) (tk : Nat) (Hc : Hp) (acc : Array Value) (c : Nat) (as : List Addr) : Prop where
  inv : Inv X pins σ Hc { s with heap := h, toks := tk }
  lst : h.get? S0 = some { cls := .type "list", dict := none, data := .seq acc c, slots := #[] }
  acc : acc.toList = as.map Value.ref
  len : as.length = i
  fp : ∀ b ∈ [z, TO, i1, i2, S0], FpOk X pins Hc b
  same : Same H0 Hc
  good : PairsAt xs ys as Hc
theorem z_loop {R : Result → Shared → Prop} (S : ZipSep2 z TI TO i1 i2 fp1 fp2) (rx : Vals xs its1) (ry : Vals ys its2)
    (D1 : Draws X.prog X.w A.in1.in1 i1 fp1 xs.length (fun j v => its1[j]? = some v) St1) (D2 : Draws X.prog X.w A.in1.in1 i2 fp2 ys.length (fun j v => its2[j]? = some v) St2)
    (sf1 : S0 ∉ fp1) (sf2 : S0 ∉ fp2) (nT : TI ≠ S0) (nz : z ≠ S0) (nO : TO ≠ S0) (hn : n = min xs.length ys.length) (hfit : n ≤ sizeLine) (res : Value)
    (hR : ∀ h tk Hc acc c as, ZGot X pins σ s z TO i1 i2 S0 xs ys H0 n h tk Hc acc c as → R (.ok (.ret res)) { s with heap := h, toks := tk }) :
    ∀ (k i : Nat) (h : Heap) (tk : Nat) (Hc : Hp) (acc : Array Value) (c : Nat) (as : List Addr), n - i = k → i ≤ n → ZGot X pins σ s z TO i1 i2 S0 xs ys H0 i h tk Hc acc c as → ZAt z TI TO i1 i2 S0 St1 St2 i h → (∀ b ∈ [z, TO, i1, i2, S0], b < h.objs.size) →
    codeAny (model X.prog X.w) A (.builtin "list.extend.loop" ⟨[.ref S0, .ref z, res], []⟩) R { s with heap := h, toks := tk } := by
  intro k
  induction k with
  | zero =>
    intro i h tk Hc acc c as ek hi G zat low
    have ein : i = n := by omega
    subst ein
    refine codeAny_builtin F.entry_extend_loop ?_
    rw [Around.under_plainId F.plain_extend_loop _]
    show wpAny _ A.in1 (pyNext (.ref z) >>= _) _ _ _
    refine wpAny_bind (z_end S D1 D2 zat (by omega) (by omega) (by omega) fun h' tk' hk => ?_)
    have hS : z ≠ S0 ∧ i1 ≠ S0 ∧ i2 ≠ S0 := ⟨nz, fun q => sf1 (q ▸ S.mem1), fun q => sf2 (q ▸ S.mem2)⟩
    refine wpAny_pure (hR h' tk' Hc acc c as ⟨?_, hk _ _ nz.symm nO.symm hS.2.1.symm hS.2.2.symm G.lst, G.acc, G.len, G.fp, G.same, G.good⟩)
    exact G.inv.turnedL (s := { s with heap := h, toks := tk }) (t' := tk') (ch := [z, TO, i1, i2, S0]) (fun b u hb q => hk b u (fun e => hb (by simp [e])) (fun e => hb (by simp [e])) (fun e => hb (by simp [e])) (fun e => hb (by simp [e])) q) G.fp
  | succ k ih =>
    intro i h tk Hc acc c as ek hi G zat low
    have hS : z ≠ S0 ∧ i1 ≠ S0 ∧ i2 ≠ S0 := ⟨nz, fun q => sf1 (q ▸ S.mem1), fun q => sf2 (q ▸ S.mem2)⟩
    have hSlt : S0 < h.objs.size := Heap.lt_size G.lst
    refine codeAny_builtin F.entry_extend_loop ?_
    rw [Around.under_plainId F.plain_extend_loop _]
    show wpAny _ A.in1 (pyNext (.ref z) >>= _) _ _ _
    refine wpAny_bind (z_item (s := { s with heap := h, toks := tk }) S D1 D2 zat hSlt (by omega) (by omega) fun u v h' tk' hu hv zat' tp hsz hk => ?_)
    obtain ⟨x, hx, rxu⟩ : ∃ x, xs[i]? = some x ∧ RelV x u := by
      have hlt : i < xs.length := by omega
      obtain ⟨u', e1, e2⟩ := rx.get (List.getElem?_eq_getElem hlt)
      rw [e1] at hu
      cases hu
      exact ⟨_, List.getElem?_eq_getElem hlt, e2⟩
    obtain ⟨y, hy, ryv⟩ : ∃ y, ys[i]? = some y ∧ RelV y v := by
      have hlt : i < ys.length := by omega
      obtain ⟨u', e1, e2⟩ := ry.get (List.getElem?_eq_getElem hlt)
      rw [e1] at hv
      cases hv
      exact ⟨_, List.getElem?_eq_getElem hlt, e2⟩
    have hS' := hk _ _ nz.symm nO.symm hS.2.1.symm hS.2.2.symm G.lst
    have hT0 : Hc h.objs.size = none := G.inv.hok.fresh (Nat.le_refl _)
    have nw : ObjOk X.prog X.w (upd Hc h.objs.size (.tup [x, y])) h' h.objs.size (.tup [x, y]) := ⟨by show 2 ≤ sizeLine; decide, [u, v], .cons rxu (.cons ryv .nil), ⟨_, tp, rfl, _, rfl⟩⟩
    have I1 : Inv X pins σ (upd Hc h.objs.size (.tup [x, y])) { s with heap := h', toks := tk' } :=
      G.inv.turnedNew (s := { s with heap := h, toks := tk }) (t' := tk') (ch := [z, TO, i1, i2, S0]) (fun b q hb e => hk b q (fun e => hb (by simp [e])) (fun e => hb (by simp [e])) (fun e => hb (by simp [e])) (fun e => hb (by simp [e])) e) G.fp (Nat.le_refl _) nw
    have fp2' : ∀ b ∈ [z, TO, i1, i2, S0], FpOk X pins (upd Hc h.objs.size (.tup [x, y])) b := fun b hb => by
      obtain ⟨f0, fr⟩ := G.fp b hb
      refine ⟨?_, fr⟩
      have hlt : b ≠ h.objs.size := Nat.ne_of_lt (low b hb)
      rw [upd_ne hlt]
      exact f0
    show wpAny _ A.in1 (updateSeq S0 (·.push (.ref h.objs.size)) >>= _) _ _ _
    have esz : acc.size = i := by rw [← Array.length_toList, G.acc, List.length_map, G.len]
    refine wpAny_bind (wpAny_updateSeq (s := { s with heap := h', toks := tk' }) hS' rfl (wpAny_pure ⟨plainId_quiet F.plain_extend_loop _, ?_⟩) (by rw [esz]; omega) (by show (acc.push _).size ≤ sizeLine + 1; rw [Array.size_push, esz]; omega))
    have oth : ∀ b q, b ≠ S0 → h'.get? b = some q → (h'.update S0 (Obj.mapSeq (·.push (Value.ref h.objs.size)))).get? b = some q := fun b q hb e => (Heap.get?_update_other _ _ (Ne.symm hb)).trans e
    refine ih (i + 1) _ tk' (upd Hc h.objs.size (.tup [x, y])) (acc.push (.ref h.objs.size)) _ (as ++ [h.objs.size]) (by omega) (by omega) ⟨?_, Heap.get?_update_self _ hS' rfl, ?_, ?_, fp2', ?_, ?_⟩ (ZAt.through S D1 D2 sf1 sf2 nT nz nO zat' oth) (fun b hb => by
      have q := low b hb
      rw [(Heap.SameBut.update h' S0 _).1, hsz]
      exact Nat.lt_succ_of_lt q)
    · exact I1.turnedL (s := { s with heap := h', toks := tk' }) (t' := tk') (ch := [z, TO, i1, i2, S0]) (fun b q hb e => oth b q (fun e => hb (by simp [e])) e) fp2'
    · rw [Array.toList_push, G.acc, List.map_append]
      rfl
    · rw [List.length_append, G.len]
      rfl
    · exact fun b q e => by rw [upd_ne (ne_of_none (G.same b q e) hT0)]; exact G.same b q e
    · intro j a x' y' ha hx' hy'
      by_cases hj : j < i
      · have ha' : as[j]? = some a := by rw [List.getElem?_append_left (by rw [G.len]; exact hj)] at ha; exact ha
        have q := G.good j a x' y' ha' hx' hy'
        rw [upd_ne (ne_of_none q hT0)]
        exact q
      · have ej : j = i := by
          have q := (List.getElem?_eq_some_iff.mp ha).1
          rw [List.length_append, G.len, List.length_singleton] at q
          omega
        subst ej
        rw [List.getElem?_append_right (by rw [G.len]; exact Nat.le_refl _), G.len, Nat.sub_self] at ha
        have ea : h.objs.size = a := Option.some.inj ha
        rw [hx] at hx'
        rw [hy] at hy'
        cases hx'
        cases hy'
        rw [← ea]
        exact upd_same
/-- collecting a zip -/
theorem z_collect {Q : List Value → Shared → Prop} {E : Value → Shared → Prop} (S : ZipSep2 z TI TO i1 i2 fp1 fp2) (rx : Vals xs its1) (ry : Vals ys its2)
    (D1 : Draws X.prog X.w A.in1.in1 i1 fp1 xs.length (fun j v => its1[j]? = some v) St1) (D2 : Draws X.prog X.w A.in1.in1 i2 fp2 ys.length (fun j v => its2[j]? = some v) St2)
    (hn : n = min xs.length ys.length) (hfit : n ≤ sizeLine) (I : Inv X pins σ H0 s) (hz : IsZip s.heap z TI TO .none) (hTI : IsTupOf2 s.heap TI (.ref i1) (.ref i2)) (hTO : ∃ a b, IsTupOf2 s.heap TO a b) (st1 : St1 0 s.heap) (st2 : St2 0 s.heap)
    (l1 : ∀ b ∈ fp1, b < s.heap.objs.size) (l2 : ∀ b ∈ fp2, b < s.heap.objs.size) (fp0 : ∀ b ∈ [z, TO, i1, i2], FpOk X pins H0 b)
    (hq : ∀ h tk Hc as, Inv X pins σ Hc { s with heap := h, toks := tk } → as.length = n → Same H0 Hc → PairsAt xs ys as Hc → Q (as.map Value.ref) { s with heap := h, toks := tk }) :
    wpAny (model X.prog X.w) A (collect (.ref z)) Q E s := by
  have zl : z < s.heap.objs.size := Heap.lt_size hz
  have Tl : TI < s.heap.objs.size := Heap.lt_size hTI
  have Ol : TO < s.heap.objs.size := by obtain ⟨_, _, q⟩ := hTO; exact Heap.lt_size q
  have nm : ∀ {l : List Addr}, (∀ b ∈ l, b < s.heap.objs.size) → s.heap.objs.size ∉ l := fun h q => Nat.lt_irrefl _ (h _ q)
  unfold collect
  refine wpAny_bind (wpAny_runValue (codeAny_builtin F.entry_proto_collect ?_))
  rw [Around.under_plainId F.plain_proto_collect _]
  show wpAny _ A.in1 (newList [] >>= fun l => again (.builtin "list.__iadd__" ⟨[l, .ref z], []⟩)) _ _ s
  refine wpAny_bind (wpAny_newObj_type (wpAny_pure ⟨plainId_quiet F.plain_list_iadd _, codeAny_builtin F.entry_list_iadd ?_⟩))
  rw [Around.under_plainId F.plain_list_iadd _]
  have up : ∀ b u, s.heap.get? b = some u → (s.heap.push { cls := .type "list", data := .seq ([] : List Value).toArray }).get? b = some u := fun b u e => Heap.get?_push_of_some _ e
  have hL : (s.heap.push { cls := .type "list", data := .seq ([] : List Value).toArray }).get? s.heap.objs.size = some { cls := .type "list", data := .seq #[] } := Heap.get?_push_size _ rfl
  have zty : ({ s with heap := s.heap.push { cls := .type "list", data := .seq ([] : List Value).toArray } } : Shared).TypeIs (.ref z) "zip" := ⟨_, up _ _ hz, rfl⟩
  have e1 : Builtin.List.listSameRef (.ref s.heap.objs.size) (.ref z) = false := by simp [Builtin.List.listSameRef, Nat.ne_of_gt zl]
  have e2 : (Value.type "zip" == Value.type "list") = false := by decide
  have e3 : (Value.type "zip" == Value.type "tuple") = false := by decide
  show wpAny _ A.in1 (Builtin.List.listExtendWith (.ref s.heap.objs.size) (.ref z) (.ref s.heap.objs.size)) _ _ _
  unfold Builtin.List.listExtendWith
  refine wpAny_bind (wpAny_typeOf zty ?_)
  simp only [e1, e2, e3, Bool.or_false, Bool.false_eq_true, if_false]
  refine wpAny_bind (wpAny_pyIter_zip (up _ _ hz) (wpAny_bind (wpAny_holding ?_)))
  unfold Builtin.List.listLengthHint
  refine wpAny_bind (wpAny_specialOf zty zip_nolen ?_)
  show wpAny _ A.in1 (specialOf (Value.ref z) (Str.ofString "__length_hint__") >>= _) _ _ _
  refine wpAny_bind (wpAny_specialOf zty zip_nohint (wpAny_pure ?_))
  show wpAny _ A.in1 (rule "list.extend.makes-room" >>= fun _ => Builtin.List.listTouch (.ref s.heap.objs.size) >>= fun _ =>
    again (.builtin "list.extend.loop" ⟨[.ref s.heap.objs.size, .ref z, .ref s.heap.objs.size], []⟩)) _ _ _
  refine wpAny_bind (wpAny_rule (wpAny_bind ?_))
  show wpAny _ A.in1 (updateSeq s.heap.objs.size (·.push .none) >>= fun _ => updateSeq s.heap.objs.size (·.pop)) _ _ _
  refine wpAny_bind (wpAny_updateSeq hL rfl ?_)
  have hL2 := Heap.get?_update_self (Obj.mapSeq (·.push Value.none)) hL rfl
  refine wpAny_updateSeq hL2 rfl ?_
  have hL3 := Heap.get?_update_self (Obj.mapSeq (·.pop)) hL2 rfl
  have oth : ∀ b u, b ≠ s.heap.objs.size → (s.heap.push { cls := .type "list", data := .seq ([] : List Value).toArray }).get? b = some u →
      (((s.heap.push { cls := .type "list", data := .seq ([] : List Value).toArray }).update s.heap.objs.size (Obj.mapSeq (·.push Value.none))).update s.heap.objs.size (Obj.mapSeq (·.pop))).get? b = some u :=
    fun b u hb e => (Heap.get?_update_other _ _ (Ne.symm hb)).trans ((Heap.get?_update_other _ _ (Ne.symm hb)).trans e)
  have old : ∀ b u, s.heap.get? b = some u → (((s.heap.push { cls := .type "list", data := .seq ([] : List Value).toArray }).update s.heap.objs.size (Obj.mapSeq (·.push Value.none))).update s.heap.objs.size (Obj.mapSeq (·.pop))).get? b = some u :=
    fun b u e => oth b u (Nat.ne_of_lt (Heap.lt_size e)) (up b u e)
  have esz : (((s.heap.push { cls := .type "list", data := .seq ([] : List Value).toArray }).update s.heap.objs.size (Obj.mapSeq (·.push Value.none))).update s.heap.objs.size (Obj.mapSeq (·.pop))).objs.size = s.heap.objs.size + 1 := by
    rw [(Heap.SameBut.update _ _ _).1, (Heap.SameBut.update _ _ _).1, Heap.size_push]
  refine wpAny_pure ⟨plainId_quiet F.plain_extend_loop _, z_loop (X := X) (pins := pins) (σ := σ) (s := s) (xs := xs) (ys := ys) (H0 := H0) S rx ry D1 D2 (nm l1) (nm l2) (Nat.ne_of_lt Tl) (Nat.ne_of_lt zl) (Nat.ne_of_lt Ol) hn hfit _
    (fun h tk Hc acc c as G => ?_) n 0 _ s.toks H0 #[] _ [] (Nat.sub_zero _) (Nat.zero_le _) ⟨I.kept (t' := s.toks) old, hL3, rfl, rfl, fun b hb => ?_, fun _ _ e => e, fun j a x y ha => by cases ha⟩ ⟨old _ _ hTI, D1.frame _ _ _ st1 fun b _ u e => old b u e, D2.frame _ _ _ st2 fun b _ u e => old b u e, .inl ⟨old _ _ hz, ?_⟩⟩ fun b hb => ?_⟩
  · show wpAny _ A (load s.heap.objs.size >>= _) _ _ _
    refine wpAny_bind (wpAny_load G.lst (wpAny_pure ?_))
    show Q acc.toList _
    rw [G.acc]
    exact hq h tk Hc as G.inv G.len G.same G.good
  · by_cases e : b = s.heap.objs.size
    · rw [e]
      exact I.fpOk (Nat.le_refl _) (I.hok.fresh (Nat.le_refl _))
    · exact fp0 b (by
        have q : b = z ∨ b = TO ∨ b = i1 ∨ b = i2 ∨ b = s.heap.objs.size := by simpa using hb
        rcases q with q | q | q | q | q
        · simp [q]
        · simp [q]
        · simp [q]
        · simp [q]
        · exact absurd q e)
  · obtain ⟨a, b, q⟩ := hTO
    exact ⟨a, b, old _ _ q⟩
  · rw [esz]
    have q : b = z ∨ b = TO ∨ b = i1 ∨ b = i2 ∨ b = s.heap.objs.size := by simpa using hb
    rcases q with q | q | q | q | q
    · rw [q]; exact Nat.lt_succ_of_lt zl
    · rw [q]; exact Nat.lt_succ_of_lt Ol
    · rw [q]; exact Nat.lt_succ_of_lt (l1 _ S.mem1)
    · rw [q]; exact Nat.lt_succ_of_lt (l2 _ S.mem2)
    · rw [q]; exact Nat.lt_succ_self _
end
end CS
namespace CS
open PySem PySem.Spec PyProof.Rows L2
section
variable {prog : Program} {w : World} {A : Around} {E : Value → Shared → Prop} {s : Shared}
/-- what collecting an object gives, as lists of values -/
def Coll (prog : Program) (w : World) (A : Around) (s : Shared) (z : Addr) (G : Heap → Nat → List Value → Prop) : Prop :=
  ∀ (E : Value → Shared → Prop) (Q : List Value → Shared → Prop), (∀ h tk vs, G h tk vs → Q vs { s with heap := h, toks := tk }) → wpAny (model prog w) A (collect (.ref z)) Q E s
theorem tupcoll_code {Q₁ : Value → Shared → Prop} {z : Addr} {G : Heap → Nat → List Value → Prop} (hT : s.TypeIs (.ref z) "zip") (C : Coll prog w A.in1 s z G) (hfit : ∀ h tk vs, G h tk vs → vs.length ≤ sizeLine)
    (hq : ∀ h tk vs, G h tk vs → Q₁ (.ref h.objs.size) { s with heap := h.push { cls := .type "tuple", data := .seq vs.toArray }, toks := tk }) :
    codeAny (model prog w) A (.call (.builtin "tuple.__new__") ⟨[.type "tuple", .ref z], []⟩) (wants Q₁ E) s := by
  refine codeAny_of_tree ?_
  show wpAny _ A.in1 (do checkBuiltinCall "tuple.__new__" ⟨[.type "tuple", .ref z], []⟩; again (.builtin "tuple.__new__" ⟨[.type "tuple", .ref z], []⟩)) _ _ s
  refine wpAny_bind (wpAny_of_eq (F.newCall_tuple_1 _) (wpAny_pure ⟨plainId_quiet F.plain_tuple_new _, codeAny_builtin F.entry_tuple_new ?_⟩))
  rw [Around.under_plainId F.plain_tuple_new _]
  have q1 := sub_tuple_self
  have q2 := init_tuple_lookup
  have q3 := madeHere_tuple
  have cc : ∀ {E : Value → Shared → Prop} {Q : List Value → Shared → Prop}, (∀ h tk vs, G h tk vs → Q vs { s with heap := h, toks := tk }) → wpAny (model prog w) A.in1 (collect (.ref z)) Q E s := fun h => C _ _ h
  wp_walk using wpAny_typeOf hT, cc
  intro h tk vs g
  show wpAny _ _ (Builtin.Tuple.tupleExact vs.toArray >>= fun v => ret v) _ _ _
  unfold Builtin.Tuple.tupleExact
  refine wpAny_bind (wpAny_newObj_type (wpAny_pure ?_) (by show vs.toArray.size ≤ sizeLine; rw [List.size_toArray]; exact hfit h tk vs g))
  exact hq h tk vs g
theorem tupcoll_call {Q : Value → Shared → Prop} {z : Addr} {G : Heap → Nat → List Value → Prop} (hT : s.TypeIs (.ref z) "zip") (C : Coll prog w A.in1.in1 s z G) (hfit : ∀ h tk vs, G h tk vs → vs.length ≤ sizeLine)
    (hq : ∀ h tk vs, G h tk vs → Q (.ref h.objs.size) { s with heap := h.push { cls := .type "tuple", data := .seq vs.toArray }, toks := tk }) :
    wpAny (model prog w) A (call (.type "tuple") [.ref z]) Q E s := by
  refine callType_codes (Q₁ := fun obj s₁ => s₁.TypeIs obj "tuple" ∧ Q obj s₁) F.called_tuple (F.typeCall_tuple_1 _) F.entry_object_init (tupcoll_code (A := A.in1) hT C hfit fun h tk vs g => ⟨⟨_, Heap.get?_push_size _ rfl, rfl⟩, hq h tk vs g⟩) fun obj s₁ h₁ => ?_
  exact ⟨h₁.1, F.args_object_init_2 obj _, object_init_meets F.called_tuple.init.lookup F.called_tuple.made (by decide) prog w A.in1 _ s₁ ⟨h₁.1, rfl, h₁.2⟩⟩
end
section
variable {X : Cx}
/-- tuple(zip(x, y)), x and y both lists or both tuples: a new tuple of new pairs -/
def tTupZip (K : PySem.W.Frag) (ta : TA) : TE := fun σ H Q => ta σ H fun vs H1 => ∃ (a b : Addr) (xs ys : List V), vs = [.ref a, .ref b] ∧ ((SqT K H1 a xs ∧ SqT K H1 b ys) ∨ (SqL K H1 a xs ∧ SqL K H1 b ys)) ∧
  ∀ (Hc : Hp) (p : Addr) (as : List Addr), Same H1 Hc → as.length = min xs.length ys.length → PairsAt xs ys as Hc → Hc p = none → Q (.ref p) (upd Hc p (.tup (as.map V.ref)))
theorem lt_of_tuple {s : Shared} {a : Addr} {its : Array Value} (p : IsTup s.heap a its) : a < s.heap.objs.size := by
  obtain ⟨u, hu, _⟩ := p
  exact Heap.lt_size hu
theorem lt_of_plain {s : Shared} {a : Addr} {its : Array Value} (p : PlainL s.heap a its) : a < s.heap.objs.size := p.lt
theorem pe_tupZip {e e2 : Expr} {ta : TA} {p p2 pos q2 : Pos} (gT : Gl X "tuple") (mT : X.mg "tuple" = none) (gZ : Gl X "zip") (mZ : X.mg "zip" = none) (ha : PA X [e, e2] ta) (hc : X.calm = true := by rfl)
    (na : starEach [.Call (.Name "zip" p2) [e, e2] [] q2] X.env = (false, eval (.Call (.Name "zip" p2) [e, e2] [] q2) X.env) :: starEach [] X.env := by rfl)
    (hs : starEach [e, e2] X.env = (false, eval e X.env) :: starEach [e2] X.env := by rfl) (hpl : (backTo q2 (starEach [e2] X.env)).any (·.1) = false := by rfl) :
    PE X (.Call (.Name "tuple" p) [.Call (.Name "zip" p2) [e, e2] [] q2] [] pos) (tTupZip X.K ta) := by
  refine ⟨fun pins s0 σ H0 Q I0 hw => ?_⟩
  refine Call_ (ld_blt I0 gT mT boot_tuple (PyProof.Rows.callWith_type1 (PyProof.Rows.args_cons ?_ na) na))
  refine Call_ (ld_blt I0 gZ mZ PyProof.Rows.boot_zip (PyProof.Rows.callWith_type1 (thn (ha.run q2 pins s0 σ H0 _ I0 hw) fun us s1 ⟨vs, H1, I1, r1, q1⟩ => ?_) hs hpl))
  obtain ⟨a, b, xs, ys, rfl, hsq, q⟩ := q1
  obtain ⟨u1, u2, rfl, ra, rb⟩ := vals2 r1
  cases ra
  cases rb
  have hh : X.A.handled = none := I1.ok.hd hc
  have key : ∀ (o1 o2 : Obj) (F1 F2 : Heap → Prop) (its1 its2 : List Value) (St1 St2 : Nat → Heap → Prop), Begins (.ref a) o1 F1 → Begins (.ref b) o2 F2 → F1 s1.heap → F2 s1.heap → Vals xs its1 → Vals ys its2 → xs.length ≤ sizeLine → a < s1.heap.objs.size → b < s1.heap.objs.size →
      Draws X.prog X.w X.A.in1.in1.in1.in1 s1.heap.objs.size [s1.heap.objs.size, a] xs.length (fun j v => its1[j]? = some v) St1 → Draws X.prog X.w X.A.in1.in1.in1.in1 (s1.heap.objs.size + 1) [s1.heap.objs.size + 1, b] ys.length (fun j v => its2[j]? = some v) St2 →
      (∀ h', h'.get? s1.heap.objs.size = some o1 → (∀ c u, s1.heap.get? c = some u → h'.get? c = some u) → St1 0 h') → (∀ h', h'.get? (s1.heap.objs.size + 1) = some o2 → (∀ c u, s1.heap.get? c = some u → h'.get? c = some u) → St2 0 h') →
      wpAny (model X.prog X.w) X.A (call (.type "zip") [.ref a, .ref b]) (fun v s' => wpAny (model X.prog X.w) X.A (spliced (backTo pos (starEach [] X.env))) (fun vs s'' => wpAny (model X.prog X.w) X.A (call (.type "tuple") (v :: vs)) (EP X pins σ Q) X.xe s'') X.xe s') X.xe s1 := by
    intro o1 o2 F1 F2 its1 its2 St1 St2 B1 B2 f1 f2 rx ry hz al bl D1 D2 k1 k2
    refine zip_begins2 B1 B2 f1 f2 fun h' hzp hTI hTO g1 g2 hsz hk => ?_
    refine PyProof.Rows.args_nil ?_
    have I2 : Inv X pins σ H1 { s1 with heap := h' } := I1.kept (t' := s1.toks) hk
    have S := zip_sep2 (N := s1.heap.objs.size) (fp1 := [a]) (fp2 := [b]) (fun c hc => by rw [List.mem_singleton.mp hc]; exact al) (fun c hc => by rw [List.mem_singleton.mp hc]; exact bl)
    refine tupcoll_call (s := { s1 with heap := h' }) (G := fun h tk vs => ∃ Hc as, vs = as.map Value.ref ∧ Inv X pins σ Hc { s1 with heap := h, toks := tk } ∧ as.length = min xs.length ys.length ∧ Same H1 Hc ∧ PairsAt xs ys as Hc) ⟨_, hzp, rfl⟩
      (fun E' Q' hQ' => z_collect (A := X.A.in1.in1) (s := { s1 with heap := h' }) (pins := pins) (σ := σ) (n := min xs.length ys.length) S rx ry D1 D2 rfl (by omega) I2 hzp hTI ⟨_, _, hTO⟩ (k1 h' g1 hk) (k2 h' g2 hk) ?_ ?_ ?_ fun h tk Hc as J l sm pr => hQ' h tk _ ⟨Hc, as, rfl, J, l, sm, pr⟩)
      ?_ ?_
    · intro c hc
      have hc' : c = s1.heap.objs.size ∨ c = a := by simpa using hc
      show c < h'.objs.size
      rw [hsz]
      rcases hc' with e | e
      · rw [e]; exact Nat.lt_add_of_pos_right (by decide)
      · rw [e]; exact Nat.lt_of_lt_of_le al (Nat.le_add_right _ _)
    · intro c hc
      have hc' : c = s1.heap.objs.size + 1 ∨ c = b := by simpa using hc
      show c < h'.objs.size
      rw [hsz]
      rcases hc' with e | e
      · rw [e]; exact Nat.add_lt_add_left (by decide) _
      · rw [e]; exact Nat.lt_of_lt_of_le bl (Nat.le_add_right _ _)
    · intro c hc
      have hle : s1.heap.objs.size ≤ c := by
        have hc' : c = s1.heap.objs.size + 4 ∨ c = s1.heap.objs.size + 3 ∨ c = s1.heap.objs.size ∨ c = s1.heap.objs.size + 1 := by simpa using hc
        rcases hc' with e | e | e | e
        · rw [e]; exact Nat.le_add_right _ _
        · rw [e]; exact Nat.le_add_right _ _
        · rw [e]; exact Nat.le_refl _
        · rw [e]; exact Nat.le_add_right _ _
      exact I1.fpOk hle (I1.hok.fresh hle)
    · rintro h tk vs ⟨Hc, as, rfl, _, l, _, _⟩
      rw [List.length_map, l]
      omega
    · rintro h tk vs ⟨Hc, as, rfl, J, l, sm, pr⟩
      have rvs : Vals (as.map V.ref) (as.map Value.ref) := by
        clear l pr
        induction as with
        | nil => exact .nil
        | cons x t ih => exact .cons rfl ih
      refine ⟨.ref h.objs.size, upd Hc h.objs.size (.tup (as.map V.ref)), J.laid (s := { s1 with heap := h, toks := tk }) (t' := tk) (fun c u e => Heap.get?_push_of_some _ e) (Nat.le_refl _) ?_, rfl, q Hc _ as sm l pr (J.hok.fresh (Nat.le_refl _))⟩
      exact ⟨by rw [List.length_map, l]; omega, _, rvs, IsTup.new _ _⟩
  rcases hsq with ⟨hx, hy⟩ | ⟨hx, hy⟩
  · obtain ⟨its1, rx, px, hzx⟩ := I1.tuple hx
    obtain ⟨its2, ry, py, hzy⟩ := I1.tuple hy
    have ax := lt_of_tuple px
    have ay := lt_of_tuple py
    have D1 := Draws.tuple (prog := X.prog) (w := X.w) (A := X.A.in1.in1.in1.in1) hh s1.heap.objs.size a (Nat.ne_of_lt ax) its1.toArray
    have D2 := Draws.tuple (prog := X.prog) (w := X.w) (A := X.A.in1.in1.in1.in1) hh (s1.heap.objs.size + 1) b (Nat.ne_of_lt (Nat.lt_succ_of_lt ay)) its2.toArray
    have e1 : its1.toArray.size = xs.length := by rw [List.size_toArray]; exact rx.length.symm
    have e2 : its2.toArray.size = ys.length := by rw [List.size_toArray]; exact ry.length.symm
    rw [e1] at D1
    rw [e2] at D2
    simp only [List.getElem?_toArray] at D1 D2
    exact key _ _ _ _ its1 its2 _ _ (begins_tuple a its1.toArray) (begins_tuple b its2.toArray) px py rx ry hzx ax ay D1 D2 (fun h' g k => ⟨⟨_, g, rfl, rfl⟩, (show s1.heap.IsTuple a its1.toArray from px).at fun u e => k _ u e⟩) (fun h' g k => ⟨⟨_, g, rfl, rfl⟩, (show s1.heap.IsTuple b its2.toArray from py).at fun u e => k _ u e⟩)
  · obtain ⟨its1, rx, px, hzx⟩ := I1.list hx
    obtain ⟨its2, ry, py, hzy⟩ := I1.list hy
    have ax := lt_of_plain px
    have ay := lt_of_plain py
    have D1 := Draws.list (prog := X.prog) (w := X.w) (A := X.A.in1.in1.in1.in1) hh s1.heap.objs.size a (Nat.ne_of_lt ax) its1.toArray
    have D2 := Draws.list (prog := X.prog) (w := X.w) (A := X.A.in1.in1.in1.in1) hh (s1.heap.objs.size + 1) b (Nat.ne_of_lt (Nat.lt_succ_of_lt ay)) its2.toArray
    have e1 : its1.toArray.size = xs.length := by rw [List.size_toArray]; exact rx.length.symm
    have e2 : its2.toArray.size = ys.length := by rw [List.size_toArray]; exact ry.length.symm
    rw [e1] at D1
    rw [e2] at D2
    simp only [List.getElem?_toArray] at D1 D2
    exact key _ _ _ _ its1 its2 _ _ (begins_list a its1.toArray) (begins_list b its2.toArray) px.isList py.isList rx ry hzx ax ay D1 D2 (fun h' g k => ⟨⟨_, g, rfl, rfl⟩, px.isList.at fun u e => k _ u e⟩) (fun h' g k => ⟨⟨_, g, rfl, rfl⟩, py.isList.at fun u e => k _ u e⟩)
end
end CS
/-! an error that is caught and used behind its except clause: it is tracked like any other object -/
namespace CS
open PySem PySem.Spec PyProof.Rows L2
/-- at a: an error of the class cls, its dict at d -/
def XO (cls : Value) (d : Option Addr) (a : Addr) : HO := .ext fun h => ∃ (ob : Obj) (ws : Array Value), h.get? a = some ob ∧ Zc cls d ob ∧ ob.data = .fields ws
theorem xo_put {P : Program} {w : World} {H : Hp} {h : Heap} {a : Addr} {cls : Value} {d : Option Addr} {ob : Obj} {ws : Array Value} (e : h.get? a = some ob) (z : Zc cls d ob) (q : ob.data = .fields ws) : ObjOk P w H h a (XO cls d a) :=
  ⟨⟨ob, ws, e, z, q⟩, ⟨ob, e⟩, fun _ _ hx hk => by
    obtain ⟨u, v, p, r⟩ := hx
    exact ⟨u, v, hk u p, r⟩⟩
theorem xo_take {P : Program} {w : World} {H : Hp} {h : Heap} {a : Addr} {cls : Value} {d : Option Addr} (hk : HOk P w H h) (e : H a = some (XO cls d a)) : ∃ (ob : Obj) (ws : Array Value), h.get? a = some ob ∧ Zc cls d ob ∧ ob.data = .fields ws := by
  have x : ObjOk P w H h a (.ext fun h => ∃ (ob : Obj) (ws : Array Value), h.get? a = some ob ∧ Zc cls d ob ∧ ob.data = .fields ws) := hk a _ e
  exact x.1
section
variable {X : Cx} {pins : List (Addr × Obj)} {σ : L2.St} {H : Hp} {s : Shared} {a : Addr} {ob : Obj} {cls : Value} {d : Option Addr} {ws : Array Value}
/-- an error that is pinned may be tracked, if it is new -/
theorem track (I : Inv X pins σ H s) (he : s.heap.get? a = some ob) (na : H a = none) (nl : a ≠ X.env.locals) (nf : a ∉ X.fs) (hz : Zc cls d ob) (hd : ob.data = .fields ws) (n0 : X.s_0.heap.get? a = none) (np : ∀ p ∈ X.pn ++ pins, p.1 ≠ a) : Inv X pins σ (upd H a (XO cls d a)) s := by
  have away : ∀ {b : Addr} {o : HO}, H b = some o → b ≠ a := fun hb z => by
    rw [z, na] at hb
    cases hb
  have old : ∀ {b : Addr} {o : Obj}, X.s_0.heap.get? b = some o → b ≠ a := fun hb z => by
    rw [z, n0] at hb
    cases hb
  refine ⟨I.ok, I.os, I.bare, ⟨I.base.keep, I.base.slot, ?_, I.base.there, ?_, ?_, ?_⟩, I.loc, I.cell, ?_, ?_, ?_, ?_, I.len⟩
  · intro b o hb hn hx
    rw [upd_ne (old hb)]
    exact I.base.free b o hb hn hx
  · intro b xs hb
    have z := I.base.tups b xs hb
    rw [upd_ne (away z)]
    exact z
  · intro b o u hb
    have z := I.base.frzs b o u hb
    rw [upd_ne (away z)]
    exact z
  · intro b ps hb
    obtain ⟨more, z⟩ := I.base.tbls b ps hb
    refine ⟨more, ?_⟩
    rw [upd_ne (away z)]
    exact z
  · rw [upd_ne (Ne.symm nl)]
    exact I.free
  · intro x c hc
    obtain ⟨v, o, ho, hv⟩ := I.cell x c hc
    rw [upd_ne fun z => ?_]
    · exact I.freeC x c hc
    · rw [z, he] at ho
      cases ho
      rw [hd] at hv
      cases hv
  · intro p hp
    obtain ⟨q1, q2, q3⟩ := I.pin p hp
    refine ⟨q1, ?_, q3⟩
    rw [upd_ne (np p hp)]
    exact q2
  · intro b u hb
    by_cases c : b = a
    · subst c
      rw [upd_same] at hb
      cases hb
      exact xo_put he hz hd
    · rw [upd_ne c] at hb
      exact (I.hok b u hb).stay (fun _ _ _ r => r) (fun c2 r => by rw [upd_ne (away r)]; exact r) (fun c2 xs r => by rw [upd_ne (away r)]; exact r)
end
/-- what 'except C as n' wishes of an error of the body, which the suite then holds -/
def wHold (K : PySem.W.Frag) (c : Value) (i : Nat) (ts : TS) (Wout : WX) (D : Ends) : WX := fun cls d σ H => ∃ y, PySem.W.exmOne K cls c = some y ∧
  (y = true → ∀ a, H a = none → ts { nx := fun σ1 H1 => D.nx (σ1.set i none) H1, rt := D.rt, bk := fun σ1 H1 => D.bk (σ1.set i none) H1, ct := fun σ1 H1 => D.ct (σ1.set i none) H1 } (σ.set i (some (.ref a))) (upd H a (XO cls d a))) ∧ (y = false → Wout cls d σ H)
theorem again {X : Cx} {pins : List (Addr × Obj)} {σ : L2.St} {H : Hp} {s : Shared} {a : Addr} (I : Inv X pins σ H s) : Inv (X.suite a (X.pn ++ pins)) [] σ H s :=
  ⟨I.ok.suite _ _, I.os, I.bare, I.base, I.loc, I.cell, I.free, I.freeC, fun p hp => I.pin p (by rw [List.append_nil] at hp; exact hp), I.hok, I.len⟩
theorem behind {X : Cx} {pins : List (Addr × Obj)} {σ : L2.St} {H : Hp} {s : Shared} {a : Addr} (I : Inv (X.suite a (X.pn ++ pins)) [] σ H s) (ok : X.Ok) : Inv X pins σ H s :=
  ⟨ok, I.os, I.bare, I.base, I.loc, I.cell, I.free, I.freeC, fun p hp => I.pin p (by rw [List.append_nil]; exact hp), I.hok, I.len⟩
theorem ps_try_hold {X : Cx} {x n : Str} {c : Value} {i : Nat} {body suite : List Stmt} {b1 : Stmt} {np pos pos' : Pos} {tb : WX → TS} {ts : TS} {Wout : WX} (hs : X.stack = X.env :: X.outer) (hf : X.env.frame = some X.env.locals) (hex : X.ex = []) (hN : X.N.Nodup) (hi : X.N[i]? = some n)
    (hln : X.env.kindOf n = some .local) (hc : Names X x c) (tk : Takes X Wout)
    (hb : ∀ (W : WX) (pn : List (Addr × Obj)) (xe : Value → Shared → Prop), Takes (X.tr pn xe) W → PassesOwn (model X.prog X.w) X.A X.env xe → PSs (X.tr pn xe) body (tb W))
    (hsu : ∀ (a : Addr) (pn : List (Addr × Obj)), PSs (X.suite a pn) (b1 :: suite) ts) :
    PS X (.Try body [.ExceptHandler (some (.Name x np)) (some n) (b1 :: suite) pos'] [] [] pos) (fun D σ H => tb (wHold X.K c i ts Wout D) D σ H) := by
  constructor
  intro pins s σ H D I h
  have okX := I.ok
  have frX : X.A.frames = some (X.env :: X.outer) := okX.frames.trans (by rw [hs])
  refine wpAny_Try_except (wpAny_mono ((hb (wHold X.K c i ts Wout D) (X.pn ++ pins) (fun e t1 => wpAny (model X.prog X.w) X.A (noteFrame e X.env) (fun _ t2 => wpAny (model X.prog X.w) X.A (setFlight e none) (fun _ t3 =>
    wpAny (model X.prog X.w) X.A (handleBy e X.env [.ExceptHandler (some (.Name x np)) (some n) (b1 :: suite) pos']) (SP X pins D) X.xe t3) X.xe t2) X.xe t1) (fun u t thrown => ?_) PassesOwn.looking).run [] s σ H D (I.toTry _) h) (fun f t ended => ?_) fun _ _ z => z)
  · obtain ⟨a, B, sI, pI, σI, HI, cls, d, rfl, inI, nb, up, sky, na, os, ag, y, hy, yes, no⟩ := thrown
    have J := inI.ofTry okX
    show wpAny (model X.prog X.w) X.A (noteFrame (.ref a) X.env) _ _ _
    refine Sky.land Zc.steady frX hf (B := B) (Z := Zc cls d) (by rw [← hs]; exact sky) fun h3 fl up3 => ?_
    have J3 : Inv X pins σI HI { t with heap := h3 } := J.landed nb fl.1 (up.trans up3) os ag
    obtain ⟨ob, vs, gob, zob, dob⟩ := fl.there
    have nfs : a ∉ frs (X.env :: X.outer) := fun hm => by
      obtain ⟨_, o2, g2, notF⟩ := fl.2.2.1.mem hm
      rw [gob] at g2
      cases g2
      exact notF _ dob
    have nl : a ≠ X.env.locals := fun z => nfs (List.mem_filterMap.mpr ⟨X.env, List.mem_cons_self, by rw [hf, z]⟩)
    have nf : a ∉ X.fs := fun hm => by
      obtain ⟨e, he, q⟩ := List.mem_filterMap.mp hm
      exact nfs (List.mem_filterMap.mpr ⟨e, List.mem_cons_of_mem _ he, q⟩)
    have nI : sI.heap.get? a = none := by
      cases q : sI.heap.get? a with
      | none => rfl
      | some o =>
        have z := nb a o q (by rw [hs]; exact nfs)
        rw [fl.2.1] at z
        cases z
    have n0 : X.s_0.heap.get? a = none := by
      cases q : X.s_0.heap.get? a with
      | none => rfl
      | some o =>
        obtain ⟨o2, z⟩ := J.base.there a o q (by rw [hex]; exact fun z => nomatch z)
        rw [nI] at z
        cases z
    have np' : ∀ p ∈ X.pn ++ pins, p.1 ≠ a := fun p hp z => by
      have q := (J.pin p hp).1
      rw [z, nI] at q
      cases q
    have S3 := J3.suite gob dob na nl nf
    refine wpAny_handleBy_cons (codeAny_handlers_test ?_) (by intro q; cases q)
    have asks : PySem.W.Looks (model X.prog X.w) h3 (typeOf (.ref a)) cls := fun _ _ _ _ k q => wpAny_typeOf_ref (k _ _ gob) (by rw [zob.1]; exact q)
    have named : ∀ {Q : Value → Shared → Prop} {E : Value → Shared → Prop}, Q c { t with heap := h3 } → wpAny (model X.prog X.w) (X.A.mark (some (.ref a))) (eval (.Name x np) X.env) Q E { t with heap := h3 } := by
      intro Q E q
      obtain ⟨hg, hdb, hm | ⟨hm, hv, hnn⟩⟩ := hc
      · exact ld_glob (X := X.suite a ((a, ob) :: (X.pn ++ pins))) S3 hg hm q hdb
      · exact ld_blt (X := X.suite a ((a, ob) :: (X.pn ++ pins))) S3 hg hm hv q hnn hdb
    refine named ((PySem.W.exm_one (M := model X.prog X.w) J3.kIn asks hy).here ?_)
    cases y with
    | true =>
      refine codeAny_handlers_suite_as (HandSPX.lands_againZ fl fun h4 fl4 up4 => ?_)
      have J4 : Inv X pins σI HI { t with heap := h4 } := J.landed nb fl4.1 ((up.trans up3).trans up4) os ag
      obtain ⟨ob4, vs4, gob4, zob4, dob4⟩ := fl4.there
      have T4 := again (a := a) (track J4 gob4 na nl nf zob4 dob4 n0 np')
      refine store_ok (X := X.suite a (X.pn ++ pins)) (v := .ref a) T4 hN hi (.inl hln) rfl (fun t5 T5 => ?_) (.inr hln)
      refine wpAny_mono ((hsu a (X.pn ++ pins)).run [] t5 _ _ _ T5 (yes rfl a na)) (fun f t6 r => ?_) fun _ _ z => z.elim
      have out : ∀ {σ6 : L2.St} {H6 : Hp} {Q : Shared → Prop}, Inv (X.suite a (X.pn ++ pins)) [] σ6 H6 t6 → (∀ t7, Inv X pins (σ6.set i none) H6 t7 → Q t7) → wpAny (model X.prog X.w) X.A (do bindName X.env n .none; unbindBehindTheSuite X.env n pos') (fun _ t7 => Q t7) X.xe t6 :=
        fun {σ6 H6 Q} z hq => gone_ok (behind z okX) hN hi hln hq
      cases f with
      | next =>
        obtain ⟨σ6, H6, z, q⟩ := r
        exact out z fun _ w7 => ⟨_, _, w7, q⟩
      | brk =>
        obtain ⟨σ6, H6, z, q⟩ := r
        exact out z fun _ w7 => ⟨_, _, w7, q⟩
      | cont =>
        obtain ⟨σ6, H6, z, q⟩ := r
        exact out z fun _ w7 => ⟨_, _, w7, q⟩
      | ret u =>
        obtain ⟨v6, σ6, H6, z, rv, q⟩ := r
        exact out z fun _ w7 => ⟨_, _, _, w7, rv, q⟩
    | false =>
      show wpAny _ X.A (handleBy (.ref a) X.env []) _ _ _
      refine wpAny_handleBy_nil ?_
      obtain ⟨_, _, _, ob5, vs5, T, oT, rest, g5, z5, d5, one5, _⟩ := id fl
      unfold PySem.passOn
      refine wpAny_bind (wpAny_field g5 d5 one5 ?_)
      rw [if_neg (by simp)]
      have go : wpAny (model X.prog X.w) X.A (setFlight (.ref a) X.env.frame) (fun _ t4 => wpAny (model X.prog X.w) X.A (throw (.ref a) : Sem Flow) (SP X pins D) X.xe t4) X.xe { t with heap := h3 } := by
        rw [hf]
        refine HandSPX.setFlight_upZ fl fun h4 held up4 => wpAny_throw (tk _ _ ⟨a, B, sI, pins, σI, HI, cls, d, rfl, J, nb, (up.trans up3).trans up4, .inr (.inr ?_), na, os, ag, no rfl⟩)
        rw [hs]
        exact held
      first
        | exact wpAny_bind (wpAny_pure (wpAny_bind go))
        | exact wpAny_bind go
  · cases f with
    | next =>
      obtain ⟨σ1, H1, z, q⟩ := ended
      exact wpAny_execs_nil ⟨σ1, H1, z.ofTry okX, q⟩
    | brk =>
      obtain ⟨σ1, H1, z, q⟩ := ended
      exact ⟨σ1, H1, z.ofTry okX, q⟩
    | cont =>
      obtain ⟨σ1, H1, z, q⟩ := ended
      exact ⟨σ1, H1, z.ofTry okX, q⟩
    | ret u =>
      obtain ⟨v, σ1, H1, z, rv, q⟩ := ended
      exact ⟨v, σ1, H1, z.ofTry okX, rv, q⟩
end CS
set_option maxHeartbeats 4000000
/-! isinstance and the fields of an error that is tracked -/
namespace PySem.W
open PySem PySem.Spec PySem.Calls PyProof.Rows
section
variable {prog : Program} {w : World} {A : Around} {E : Value → Shared → Prop} {s : Shared} {K : Frag} {x D : Addr} {ox : Obj} {od : Option Obj}
theorem csx_data {C : Addr} {nm : Str} {a g : Value} (h1 : (clsIn K C).isSome = true) (h2 : findIn K (.ref C) nm = some (some a)) (h3 : specialIn K a "__get__" = some (some g)) (h4 : takesIn K a = some true) : findObj K C od nm = some (.bind g a) := by
  cases e : clsIn K C with
  | none =>
    rw [e] at h1
    cases h1
  | some cd =>
    unfold findObj
    rw [e, Option.bind_some, h2, Option.bind_some]
    simp [h3, h4]
/-- what the class D says of its instances' __class__ -/
structure CsxC (K : Frag) (D : Addr) : Prop where
  hg : findIn K (.ref D) "__getattribute__" = some (some (.builtin "BaseException.__getattribute__"))
  hk : findIn K (.ref D) "__getattr__" = some none
  hs : subIn K (.ref D) (.type "BaseException") = some true
  hd : hasDictIn K D = true
  ha : findIn K (.ref D) "__class__" = some (some (.builtin "object.__class__"))
  hn : specialIn K (.builtin "object.__class__") "__get__" = some (some (.builtin "getset_descriptor.__get__"))
  ht : takesIn K (.builtin "object.__class__") = some true
  hm : mroIn K D (.type "object") = some true
theorem csx_class {Q : Option Value → Shared → Prop} (T : CsxC K D) (X : K.In s.heap) (I : InstAt s.heap x ox D od) (q : Q (some (.ref D)) { s with toks := s.toks + 1 }) : wpAny (model prog w) A (getAttr? (.ref x) "__class__") Q E s := by
  have known : (clsIn K D).isSome = true := by
    obtain ⟨cd, hc, _⟩ := any_some T.hd
    rw [hc] <;> rfl
  have found : findObj K D od "__class__" = some (.bind (.builtin "getset_descriptor.__get__") (.builtin "object.__class__")) := csx_data known T.ha T.hn T.ht
  obtain ⟨hp, gs, dr, tk, os⟩ := s
  have kind := I.type (M := model prog w)
  have way := looks_findIn (M := model prog w) X T.hg
  have hook := looks_findIn (M := model prog w) X T.hk
  have look := looks_find (M := model prog w) X I found
  have base : Looks (model prog w) hp (isInstance (.ref x) (.type "BaseException")) true := kind.andThen (looks_subIn X T.hs)
  have other : (Value.builtin "BaseException.__getattribute__" == Value.builtin "object.__getattribute__") = false := by decide +kernel
  have plain : (onTheHeap (Value.ref D) && Value.builtin "BaseException.__getattribute__" == Value.builtin "object.__getattribute__") = false := by
    rw [other]
    rfl
  unfold getAttr? getAttrBy? getAttrBy
  refine wpAny_bind (wpAny_mkText ?_)
  refine wpAny_bind (wpAny_attempt (wpAny_holding ?_))
  refine wpAny_bind (kind.at ?_)
  refine wpAny_bind (way.at ?_)
  show wpAny _ _ (if (onTheHeap (Value.ref D) && Value.builtin "BaseException.__getattribute__" == Value.builtin "object.__getattribute__") = true then _ else _) _ _ _
  rw [plain, if_neg (by decide)]
  unfold getAttrByItsOwn hookBefore
  refine wpAny_bind ?_
  rw [if_pos (show onTheHeap (Value.ref D) = true from rfl)]
  refine hook.at (wpAny_bind ?_)
  refine wpAny_attempt (wpAny_holding ?_)
  unfold callGetattribute
  rw [show (false && onTheHeap (Value.builtin "BaseException.__getattribute__")) = false from rfl, if_neg (by decide)]
  unfold boundAndCalled
  rw [PySem.F.excAttr_ValueError.ga.bind (.ref x)]
  refine wpAny_bind (wpAny_pure ?_)
  show wpAny _ _ (call (.builtin "BaseException.__getattribute__") [.ref x, .str "__class__" tk]) _ _ _
  refine wpAny_call (codeAny_call_builtin PySem.F.excAttr_ValueError.ga.plain PySem.F.entry_bexc_ga ?_)
  refine @check_slot (model prog w) _ _ ⟨hp, gs, dr, tk + 1, os⟩ "BaseException.__getattribute__" "BaseException" "__getattribute__" (.ref x) [.str "__class__" tk] [] _ (by decide +kernel) (by decide +kernel) base (PySem.F.args_bexc_ga (.ref x) (.str "__class__" tk)) ?_
  unfold Builtin.«object.__getattribute__»
  refine wpAny_bind (wpAny_of_eq (a := ((Value.ref x : Value), [Value.str "__class__" tk])) (by first | rfl | (simp only [slotArgs]; rfl)) ?_)
  refine wpAny_bind (wpAny_pure ?_)
  refine wpAny_bind (kind.at (wpAny_bind (look.at ?_)))
  show wpAny _ _ (holding [Value.builtin "object.__class__"] (call (.builtin "getset_descriptor.__get__") [.builtin "object.__class__", .ref x, .ref D]) >>= ret) _ _ _
  refine wpAny_bind (wpAny_holding (wpAny_call (class_get (s := ⟨hp, gs, dr, tk + 1, os⟩) (ox := ox) (od := od) X I T.hm ?_)))
  refine wpAny_pure ?_
  show wpAny _ _ (handedOut (.ref D)) _ _ _
  rw [handedOut_of (v := .ref D) rfl]
  first
    | exact wpAny_pure (wpAny_pure q)
    | exact wpAny_pure q
    | exact wpAny_pure (wpAny_bind (wpAny_pure (wpAny_pure q)))
theorem csx_kit (T : CsxC K D) : KitX K (.ref x) (.ref D) (fun h => InstAt h x ox D od) := by
  obtain ⟨cd, hc, _⟩ := any_some T.hd
  obtain ⟨c, d, sl, ho⟩ : ∃ c d sl, K.lookup D = some ⟨c, d, .cls cd, sl⟩ := by
    unfold clsIn at hc
    split at hc
    · cases hc
      exact ⟨_, _, _, by assumption⟩
    · cases hc
  refine ⟨fun _ _ _ I => I.type, fun M h X _ => ?_, fun h tp dd its n sl X htp => ?_, fun X I q => csx_class T X I q⟩
  · intro A Q E s k q
    unfold isType loadHead
    refine wpAny_bind (wpAny_loadPart (k _ _ (X _ _ ho)) ?_)
    exact wpAny_pure q
  · cases z : (Value.ref D == Value.ref tp) with
    | false => rfl
    | true =>
      have e : D = tp := Value.ref.inj (beq_iff_eq.mp z)
      rw [← e] at htp
      have y := (X _ _ ho).symm.trans htp
      cases y
end
end PySem.W
namespace CS
open PySem PySem.Spec PyProof.Rows L2
/-- its dict, where it has one -/
def XD (H : Hp) (d : Option Addr) : Prop := d = none ∨ ∃ dd fs, d = some dd ∧ H dd = some (.xd fs)
theorem xo_inst {X : Cx} {pins : List (Addr × Obj)} {σ : L2.St} {H : Hp} {s : Shared} {a C : Addr} {d : Option Addr} (I : Inv X pins σ H s) (e : H a = some (XO (.ref C) d a)) (ed : XD H d) : ∃ oe od, PySem.W.InstAt s.heap a oe C od := by
  obtain ⟨oe, ws, ho, hz, hw⟩ := xo_take I.hok e
  have nc : PySem.W.notCls oe := by
    unfold PySem.W.notCls
    rw [hw] <;> trivial
  rcases ed with rfl | ⟨dd, fs, rfl, ed⟩
  · exact ⟨oe, none, ho, hz.1, nc, by rw [hz.2]; trivial⟩
  · have x : ObjOk X.prog X.w H s.heap dd (.xd fs) := I.hok dd _ ed
    obtain ⟨mA, hn, _⟩ := x
    obtain ⟨od, hd, _⟩ := lookIn_ns hn
    exact ⟨oe, some od, ho, hz.1, nc, by rw [hz.2]; exact hd⟩
/-- isinstance(e, c), e a tracked error -/
def rIsX (K : PySem.W.Frag) : List V → Hp → VK → Prop := fun xs H Q => ∃ (a C : Addr) (d : Option Addr) (c : V) (cv : Value) (b : Bool), xs = [.ref a, c] ∧ H a = some (XO (.ref C) d a) ∧ XD H d ∧ PySem.W.CsxC K C ∧ (∀ u, RelV c u → u = cv) ∧ PySem.W.kitOne K (.ref C) cv = some b ∧ Q (.bl b) H
theorem call_isX {X : Cx} : CallR X (.builtin "isinstance") (rIsX X.K) := by
  intro pins s σ H xs us Q I r h
  obtain ⟨a, C, d, c, cv, b, rfl, ea, ed, T, hcv, e, q⟩ := h
  cases r with
  | cons r1 rr =>
    cases rr with
    | cons r2 rr =>
      cases rr
      cases r1
      have ec := hcv _ r2
      subst ec
      obtain ⟨oe, od, J⟩ := xo_inst I ea ed
      exact PySem.W.kia_one (PySem.W.csx_kit T) I.kIn J e (fun z => nomatch z) fun tk => ⟨.bl b, H, I.kept (t' := tk) fun _ _ z => z, rfl, q⟩
/-- e.f, e a tracked error -/
def tXoF (K : PySem.W.Frag) (f : Str) (te : TE) : TE := fun σ H Q => te σ H fun x H1 => ∃ (a C dd : Addr) (fs : List (Str × V)) (v : V), x = .ref a ∧ H1 a = some (XO (.ref C) (some dd) a) ∧ H1 dd = some (.xd fs) ∧ XfC K C ∧ PySem.W.findIn K (.ref C) f = some none ∧ fs.lookup f = some v ∧ Q v H1
theorem pe_xof {X : Cx} {e : Expr} {te : TE} {pos : Pos} {f : Str} (he : PE X e te) (hb : attributeBase e f X.env (eval e X.env) = eval e X.env := by rfl) : PE X (.Attribute e f pos) (tXoF X.K f te) := by
  constructor
  intro pins s σ H Q I h
  refine attr_of hb (thn (he.run pins s σ H _ I h) fun u t r => ?_)
  obtain ⟨x, H1, J, rx, a, C, dd, fs, v, rfl, ea, ed, T, no, lk, q⟩ := r
  cases rx
  obtain ⟨oe, ws, ho, hz, hw⟩ := xo_take J.hok ea
  have x : ObjOk X.prog X.w H1 t.heap dd (.xd fs) := J.hok dd _ ed
  obtain ⟨mA, hn, hr⟩ := x
  obtain ⟨od, hd, look⟩ := lookIn_ns hn
  obtain ⟨y, hy, ry⟩ := RelO.some_of (v := v) (o := mA f) (by rw [← lk]; exact hr f)
  have at_ : PySem.W.InstAt t.heap a oe C (some od) := ⟨ho, hz.1, by unfold PySem.W.notCls; rw [hw] <;> trivial, by rw [hz.2]; exact hd⟩
  exact HandSPX.exc_get J.kIn at_ T.ga T.gg T.exC (PySem.W.findObj_own T.hdC no rfl (by rw [look, hy])) (handed_of ry) ⟨v, H1, J.tok _, ry, q⟩
end CS
set_option maxHeartbeats 4000000
/-! an own error class called by keywords alone -/
namespace PySem
namespace CSE
open PySem.W PySem.Calls PyProof.Rows PySem.HandSPX
section
variable {prog : Program} {w : World} {A : Around} {E : Value → Shared → Prop} {R : Result → Shared → Prop} {h : Heap} {g : Array GenState} {d : Drawn} {t : Nat} {os : OsState}
variable {nm q : Str} {C N : Addr} {bs bm : List Value} {hdct : Bool} {sn : List Str} {sub : List Value} {ab : Bool} {col : Option Bool} {dd : Option Addr} {k0 k1 k2 k3 k5 : Option Value} {B newId initId : String}
theorem kw_check {M : Model} (F : ExcBaseFacts B newId initId bm) {kw : List (Str × Value)} {Q : Unit → Shared → Prop} (hC : h.get? C = some (excClassObj nm q C N bs bm hdct sn sub ab col dd k0 k1 k2 k3 k5 newId)) (fin : Q () ⟨h, g, d, t, os⟩) :
    wpAny M A (checkBuiltinCall newId ⟨[.ref C], kw⟩) Q E ⟨h, g, d, t, os⟩ := by
  have inB : (Value.ref C :: bm).contains (.type B) = true := by
    rw [List.contains_cons, F.hasB, Bool.or_true]
  have noStar := F.noStar
  simp only [checkBuiltinCall, F.newKind, F.newSplit, F.newRow]
  repeat (first | wp_step | refine wpAny_loadPart_at hC ?_ | (refine wpAny_isSubtype_exc hC ?_; rw [inB]) | refine wpAny_madeBy_exc hC ?_ | refine wpAny_staticBase_exc hC ?_ | simp only [Bool.false_eq_true, bne_self_eq_false, if_false])
  exact fin
theorem kw_new (F : ExcBaseFacts B newId initId bm) {kw : List (Str × Value)} (hC : h.get? C = some (excClassObj nm q C N bs bm hdct sn sub ab col dd k0 k1 k2 k3 k5 newId))
    (fin : R (.ok (.ret (.ref (h.objs.size + 1)))) ⟨(h.push (W.kdv_tup [])).push (excO C h.objs.size), g, d, t, os⟩) : codeAny (model prog w) A (.builtin newId ⟨[.ref C], kw⟩) R ⟨h, g, d, t, os⟩ := by
  have ends := F.ends
  have inB : (Value.ref C :: bm).contains (.type B) = true := by
    rw [List.contains_cons, F.hasB, Bool.or_true]
  have notA : (Value.ref C :: bm).contains (.type "AttributeError") = false := by
    rw [List.contains_cons, F.noAttr]
    rfl
  have notN : (Value.ref C :: bm).contains (.type "NameError") = false := by
    rw [List.contains_cons, F.noName]
    rfl
  have few : ([] : List Value).length ≤ sizeLine := Nat.zero_le _
  refine codeAny_builtinAt F.entry ?_
  unfold Builtin.«BaseException.__new__»
  refine wpAt_bind ?_
  show wpAt _ _ _ (stack >>= _) _ _ _
  refine wpAt_bind (wpAt_stack fun p below => wpAt_of_wpAny ?_)
  wp_walk
  refine wpAt_of_wpAny ?_
  rw [F.owner]
  repeat (first | with_reducible refine wpAny_loadPart_at hC ?_ | with_reducible refine wpAny_madeHere_exc F.canon hC ?_ | (with_reducible refine wpAny_isSubtype_exc hC ?_; first | rw [notA] | rw [notN] | rw [inB]) | wp_step)
  show R _ _
  rw [Heap.size_push]
  exact fin
theorem kw_type (F : ExcBaseFacts B newId initId bm) {kw : List (Str × Value)} {fI : Addr} {Q : Fin → Shared → Prop} (hC : h.get? C = some (excClassObj nm q C N bs bm hdct sn sub ab col dd k0 k1 k2 k3 k5 newId))
    (look : W.Looks (model prog w) h (typeLookup (.ref C) "__init__") (some (.ref fI))) (binds : ∀ self, W.Looks (model prog w) h (bindSpecial (.ref fI) self) (.ref fI, [self]))
    (run : codeAny (model prog w) A (.call (.ref fI) ⟨[.ref (h.objs.size + 1)], kw⟩) (fun r s' => match r with | .ok (.ret v) => v = .none ∧ Q (.done (.ret (.ref (h.objs.size + 1)))) s' | .ok _ => False | .error e => E e s')
      ⟨(h.push (W.kdv_tup [])).push (excO C h.objs.size), g, d, t, os⟩) : wpAny (model prog w) A (Builtin.«type.__call__» ⟨[.ref C], kw⟩) Q E ⟨h, g, d, t, os⟩ := by
  repeat (first | with_reducible refine wpAny_madeBy_exc hC ?_ | with_reducible refine wpAny_loadPart_at hC ?_ | wp_step)
  refine codeAny_call_builtin_code (Code.quiet_builtin _ F.quiet) (kw_check F hC (kw_new F hC ?_))
  show wpAny _ _ _ _ _ _
  have more : ∀ b o, h.get? b = some o → ((h.push (W.kdv_tup [])).push (excO C h.objs.size)).get? b = some o := fun b o e => Heap.get?_push_of_some _ (Heap.get?_push_of_some _ e)
  have hC2 := more _ _ hC
  have made : ((h.push (W.kdv_tup [])).push (excO C h.objs.size)).get? (h.objs.size + 1) = some (excO C h.objs.size) := by heap_get
  have own : (Value.ref C :: bm).contains (.ref C) = true := by simp
  have look2 := look.keeps more
  have binds2 := (binds (.ref (h.objs.size + 1))).keeps more
  unfold isInstance
  repeat (first | with_reducible refine wpAny_loadPart_at made ?_ | (with_reducible refine wpAny_isSubtype_exc hC2 ?_; rw [own]) | wp_step)
  show wpAny _ _ (typeLookup (.ref C) _) _ _ _
  refine look2.at (wpAny_holding (wpAny_bind (binds2.at ?_)))
  refine wpAny_bind (wpAny_call (codeAny_mono run fun r s' z => ?_))
  rcases r with e | (v | _ | _ | _) <;> first | exact z | exact z.elim | skip
  obtain ⟨rfl, z⟩ := z
  first
    | exact wpAny_pure (wpAny_pure z)
    | (wp_walk; exact z)
theorem kw_call (F : ExcBaseFacts B newId initId bm) {kw : List (Str × Value)} {fI : Addr} (hC : h.get? C = some (excClassObj nm q C N bs bm hdct sn sub ab col dd k0 k1 k2 k3 k5 newId))
    (look : W.Looks (model prog w) h (typeLookup (.ref C) "__init__") (some (.ref fI))) (binds : ∀ self, W.Looks (model prog w) h (bindSpecial (.ref fI) self) (.ref fI, [self]))
    (run : codeAny (model prog w) (A.under (.builtin "type.__call__" ⟨[.ref C], kw⟩)) (.call (.ref fI) ⟨[.ref (h.objs.size + 1)], kw⟩) (W.InitBack (h.objs.size + 1) R) ⟨(h.push (W.kdv_tup [])).push (excO C h.objs.size), g, d, t, os⟩) :
    codeAny (model prog w) A (.call (.ref C) ⟨[], kw⟩) R ⟨h, g, d, t, os⟩ := by
  have f1 := tc_lookup
  have f2 := tc_bind (.ref C)
  have isType : (⟨h, g, d, t, os⟩ : Shared).TypeIs (.ref C) "type" := ⟨_, hC, rfl⟩
  refine codeAny_of_tree ?_
  show wpAny _ _ (callAny (.ref C) _) _ _ _
  repeat (any_goals (first | with_reducible refine wpAny_loadPart_at hC ?_ | assumption | wp_step))
  refine ⟨rfl, ?_⟩
  refine codeAny_call_builtin_at (Code.quiet_builtin _ (by decide +kernel)) entry_typeCall (wpAny_check_type_call_sub hC (kw_type F hC look binds ?_))
  refine codeAny_mono run fun r s' z => ?_
  rcases r with e | (v | _ | _ | _) <;> exact z
end
end CSE
end PySem
set_option maxHeartbeats 4000000
/-! own errors whose __init__ stores fields, as values; over ValueError or LookupError -/
namespace PySem
namespace CSE
open PySem.W PySem.Calls PyProof.Rows PySem.HandSPX
section
open Builtin Builtin.ObjectAttr
variable {prog : Program} {w : World} {A : Around} {E : Value → Shared → Prop} {R : Result → Shared → Prop} {hp : Heap} {g : Array GenState} {d : Drawn} {t : Nat} {os : OsState} {K : W.Frag} {B : String} {bm : List Value}
theorem taker_none {C : Addr} {nm : Str} (h : W.findIn K (.ref C) nm = some none) : W.takerIn K C nm = some none := by
  unfold W.takerIn
  rw [h]
  rfl
theorem first_store {nm : Str} {tk : Tok} {v : Value} {x C : Addr} {fv : Array Value} (SF : StoreFacts B bm "object.__setattr__" "object") (X : K.In hp) (hx : hp.get? x = some { cls := .ref C, data := .fields fv }) (over : W.excOver K C bm = true) (hh : W.hasDictIn K C = true) (no : W.findIn K (.ref C) nm = some none)
    (fin : ∀ h' tk' dx, (∀ b o, b ≠ x → hp.get? b = some o → h'.get? b = some o) → hp.objs.size ≤ dx → dx ≠ x → h'.get? x = some { cls := .ref C, dict := some dx, data := .fields fv } → h'.Ns1 dx (fun y => if y = nm then some v else none) → R (.ok (.ret .none)) ⟨h', g, d, tk', os⟩) :
    codeAny (model prog w) A (.call (.builtin "object.__setattr__") ⟨[.ref x, .str nm tk, v], []⟩) R ⟨hp, g, d, t, os⟩ := by
  have inst : W.InstAt hp x { cls := .ref C, data := .fields fv } C none := ⟨hx, rfl, rfl, trivial⟩
  refine W.osa_openX (s := ⟨hp, g, d, t, os⟩) SF X inst over (taker_none no) fun b => ?_
  obtain ⟨cd, hc, hd⟩ := any_some hh
  have known : W.Looks (model prog w) hp (classData C) cd := W.looks_clsIn X hc
  have far : x ≠ hp.objs.size := Nat.ne_of_lt (Heap.lt_size hx)
  show wpAny _ _ (storeInOwnDict (.ref x) (.ref C) (.str nm tk) nm v b) _ _ _
  obtain ⟨n1, n2, n3, n4, n5, has, n6, n7, n8, n9, n0⟩ := cd
  dsimp only at hd
  subst hd
  unfold storeInOwnDict ownDictForStores
  repeat (first | with_reducible refine HandSPX.store_in_new ?_ ?_ | with_reducible refine known.at ?_ | with_reducible refine wpAny_loadPart_at hx ?_ | wp_step)
  · exact ⟨_, #[], _, (Heap.get?_update_ne _ _ _ _ far.symm).trans (Heap.get?_push_at rfl rfl), rfl, fun e he => absurd he (by simp), fun _ => rfl⟩
  · intro h' tk' named same
    have here : (hp.push { cls := .type "dict", data := .dict #[] }).get? x = some { cls := .ref C, data := .fields fv } := Heap.get?_push_of_some _ hx
    refine fin h' tk' hp.objs.size (fun b o hb ho => ?_) (Nat.le_refl _) far.symm ((same.2 x far).trans (Heap.get?_update_self _ here rfl)) named
    have old : b ≠ hp.objs.size := Nat.ne_of_lt (Heap.lt_size ho)
    exact (same.2 b old).trans ((Heap.get?_update_ne _ _ _ _ hb).trans (Heap.get?_push_of_some _ ho))
theorem next_store {nm : Str} {tk : Tok} {v : Value} {x C dx : Addr} {fv : Array Value} {m0 : Str → Option Value} {nl : List Str} (SF : StoreFacts B bm "object.__setattr__" "object") (X : K.In hp) (hx : hp.get? x = some { cls := .ref C, dict := some dx, data := .fields fv }) (hn : hp.Ns1 dx m0) (hw : Within m0 nl) (hz : nl.length ≤ 1000)
    (over : W.excOver K C bm = true) (hh : W.hasDictIn K C = true) (no : W.findIn K (.ref C) nm = some none) (fin : ∀ h' tk', (∀ b o, b ≠ dx → hp.get? b = some o → h'.get? b = some o) → h'.Ns1 dx (fun y => if y = nm then some v else m0 y) → R (.ok (.ret .none)) ⟨h', g, d, tk', os⟩) :
    codeAny (model prog w) A (.call (.builtin "object.__setattr__") ⟨[.ref x, .str nm tk, v], []⟩) R ⟨hp, g, d, t, os⟩ := by
  obtain ⟨oD, _, _, hoD, _, _⟩ := hn.count hw
  have inst : W.InstAt hp x { cls := .ref C, dict := some dx, data := .fields fv } C (some oD) := ⟨hx, rfl, rfl, hoD⟩
  refine W.osa_openX (s := ⟨hp, g, d, t, os⟩) SF X inst over (taker_none no) fun b => ?_
  obtain ⟨cd, hc, hd⟩ := any_some hh
  have known : W.Looks (model prog w) hp (classData C) cd := W.looks_clsIn X hc
  show wpAny _ _ (storeInOwnDict (.ref x) (.ref C) (.str nm tk) nm v b) _ _ _
  obtain ⟨n1, n2, n3, n4, n5, has, n6, n7, n8, n9, n0⟩ := cd
  dsimp only at hd
  subst hd
  unfold storeInOwnDict ownDictForStores
  repeat (first | with_reducible refine PySem.OEX.store_in_old hn hw hz ?_ | with_reducible refine known.at ?_ | with_reducible refine wpAny_loadPart_at hx ?_ | wp_step)
  intro h' tk' named same
  exact fin h' tk' (fun b o hb ho => (same.2 b hb).trans ho) named
end
end CSE
end PySem
namespace CS
open PySem PySem.Spec PyProof.Rows L2
/-- what the written part says of an own error class whose __init__ stores fields -/
structure OxC (K : PySem.W.Frag) (C fI : Addr) : Prop where
  base : ∃ (B newId initId : String) (bm : List Value), ExcBaseFacts B newId initId bm ∧ StoreFacts B bm "object.__setattr__" "object" ∧ PySem.W.excOver K C bm = true ∧ ∃ nm q N bs sn sub ab col dd k0 k1 k2 k3 k5, K.lookup C = some (excClassObj nm q C N bs bm true sn sub ab col dd k0 k1 k2 k3 k5 newId)
  sa : PySem.W.findIn K (.ref C) "__setattr__" = some (some (.builtin "object.__setattr__"))
  hd : PySem.W.hasDictIn K C = true
  kC : PySem.W.keepIn K (.ref C) = true
  iC : PySem.W.findIn K (.ref C) "__init__" = some (some (.ref fI))
  tI : PySem.W.typeIn K (.ref fI) = some (.type "function")
section
variable {X : Cx} {pins : List (Addr × Obj)} {σ : L2.St} {H : Hp} {s : Shared} {a C fI dx : Addr} {f : Str} {y : V} {u : Value} {fs : List (Str × V)} {Q : Unit → Shared → Prop} {E : Value → Shared → Prop} {A : Around}
theorem ox_new (T : OxC X.K C fI) (I : Inv X pins σ H s) (e : H a = some (exo a C none)) (no : PySem.W.findIn X.K (.ref C) f = some none) (ry : RelV y u)
    (k : ∀ dx s', H dx = none → dx ≠ a → Inv X pins σ (upd (upd H dx (exd dx [(f, y)])) a (exo a C (some dx))) s' → Q () s') : wpAny (model X.prog X.w) A (setAttr (.ref a) f u) Q E s := by
  obtain ⟨B, newId, initId, bm, _, SF, over, _⟩ := T.base
  obtain ⟨t1, ho⟩ := exo_at I.hok e
  obtain ⟨hp, g, d, t, os⟩ := s
  refine PySem.W.set_plain I.kIn (ox := { cls := .ref C, dict := none, data := .fields #[.ref t1, .none, .none, .none, .bool false, .none] }) (od := none) ⟨ho, rfl, rfl, trivial⟩ T.sa ?_
  refine PySem.CSE.first_store SF I.kIn ho over T.hd no fun h' tk' dx keep beyond apart hx named => ?_
  have fresh : H dx = none := I.hok.fresh beyond
  have older : ∀ {b : Addr} {o : Obj}, hp.get? b = some o → b ≠ dx := fun {b o} z => Nat.ne_of_lt (Nat.lt_of_lt_of_le (Heap.lt_size z) beyond)
  have notA : ∀ {b : Addr}, H b = none → b ≠ a := fun {b} n z => by
    rw [z, e] at n
    cases n
  refine k dx _ fresh apart (I.un (t' := tk') ⟨fun b o z n _ _ => keep b o (notA n) z, fun b o z n _ _ => ⟨o.slots, keep b o (notA n) z⟩, fun b o z n _ => ?_, fun b o z _ => ?_, fun b xs z => ?_, fun b o v z => ?_, fun b ps z => ⟨#[], ?_⟩⟩ fun b o z => ?_)
  · rw [upd_ne (notA n), upd_ne (older z)]
    exact n
  · by_cases c : b = a
    · rw [c]
      exact ⟨_, hx⟩
    · exact ⟨o, keep b o c z⟩
  · rw [upd_ne (at_ne e z exo_tup), upd_ne (ne_of_none z fresh)]
    exact z
  · rw [upd_ne (at_ne e z exo_frz), upd_ne (ne_of_none z fresh)]
    exact z
  · rw [upd_ne (at_ne e z exo_tbl), upd_ne (ne_of_none z fresh), z]
    simp
  · by_cases c : b = a
    · subst c
      rw [upd_same] at z
      cases z
      exact exo_ok hx
    · rw [upd_ne c] at z
      by_cases c2 : b = dx
      · subst c2
        rw [upd_same] at z
        cases z
        exact exd_ok named (relO_put (fs := []) ry fun _ => True.intro)
      · rw [upd_ne c2] at z
        refine (I.hok b o z).stay (fun c3 v hc r => keep c3 v ?_ r) (fun c3 hc => ?_) fun c3 xs hc => ?_
        · rcases hc with hc | hc
          · rw [hc]
            exact c
          · exact at_ne e hc exo_own
        · rw [upd_ne (at_ne e hc exo_own), upd_ne (ne_of_none hc fresh)]
          exact hc
        · rw [upd_ne (at_ne e hc exo_tup), upd_ne (ne_of_none hc fresh)]
          exact hc
theorem ox_old (T : OxC X.K C fI) (I : Inv X pins σ H s) (e : H a = some (exo a C (some dx))) (ed : H dx = some (exd dx fs)) (hl : fs.length ≤ 900) (no : PySem.W.findIn X.K (.ref C) f = some none) (ry : RelV y u)
    (k : ∀ s', Inv X pins σ (upd H dx (exd dx ((f, y) :: fs))) s' → Q () s') : wpAny (model X.prog X.w) A (setAttr (.ref a) f u) Q E s := by
  obtain ⟨B, newId, initId, bm, _, SF, over, _⟩ := T.base
  obtain ⟨t1, ho⟩ := exo_at I.hok e
  obtain ⟨mA, named, rel⟩ := exd_at I.hok ed
  have inside := within_of rel
  obtain ⟨hp, g, d, t, os⟩ := s
  obtain ⟨oD, _, _, hoD, _, _⟩ := named.count inside
  refine PySem.W.set_plain I.kIn (ox := { cls := .ref C, dict := some dx, data := .fields #[.ref t1, .none, .none, .none, .bool false, .none] }) (od := some oD) ⟨ho, rfl, rfl, hoD⟩ T.sa ?_
  refine PySem.CSE.next_store SF I.kIn ho named inside (by rw [List.length_map]; omega) over T.hd no fun h' tk' keep named' => ?_
  have there : ∃ o, h'.get? dx = some o := by
    obtain ⟨o, _, _, z, _⟩ := named'
    exact ⟨o, z⟩
  exact k _ (I.write (t' := tk') (x := dx) (e := dx) (o := exd dx ((f, y) :: fs)) (by rw [ed]; exact True.intro) (.inl rfl) keep there (exd_ok named' (relO_put ry rel)))
/-- self.f = e -/
def tOx (K : PySem.W.Frag) (f : Str) (to te : TE) : TS := fun D σ H => te σ H fun y H1 => to σ H1 fun x H2 => ∃ a C fI : Addr, x = .ref a ∧ OxC K C fI ∧ PySem.W.findIn K (.ref C) f = some none ∧
  ((H2 a = some (exo a C none) ∧ ∀ dx, H2 dx = none → dx ≠ a → D.nx σ (upd (upd H2 dx (exd dx [(f, y)])) a (exo a C (some dx)))) ∨ ∃ (dx : Addr) (fs : List (Str × V)), H2 a = some (exo a C (some dx)) ∧ H2 dx = some (exd dx fs) ∧ fs.length ≤ 900 ∧ D.nx σ (upd H2 dx (exd dx ((f, y) :: fs))))
theorem ps_ox {o e : Expr} {to te : TE} {p' pos : Pos} (ho : PE X o to) (he : PE X e te) (hs : swapsWith e (some (.Attribute o f p')) pos.line X.env = pure false := by rfl) : PS X (.Assign [.Attribute o f p'] e pos) (tOx X.K f to te) := by
  constructor
  intro pins s σ H D I h
  refine plainObj_wpAny_Assign_Attribute (thn (he.run pins s σ H _ I h) (fun v t ⟨y, H1, J1, ry, q1⟩ => ?_)) hs
  refine thn (ho.run pins t σ H1 _ J1 q1) fun w t2 ⟨x, H2, J2, rx, a, C, fI, ex, T, no, way⟩ => ?_
  subst ex
  cases rx
  rcases way with ⟨ea, q⟩ | ⟨dx, fs, ea, ed, hl, q⟩
  · exact ox_new T J2 ea no ry fun dx t3 n ne J => ⟨σ, _, J, q dx n ne⟩
  · exact ox_old T J2 ea ed hl no ry fun t3 J => ⟨σ, _, J, q⟩
end
/-- an error made: at a the object, at d its dict -/
def made (H : Hp) (a d C : Addr) (fs : List (Str × V)) : Hp := upd (upd H a (XO (.ref C) (some d) a)) d (.xd fs)
section
variable {X : Cx} {pins : List (Addr × Obj)} {σ : L2.St} {H : Hp} {s : Shared}
theorem as_made {a d C : Addr} {fs : List (Str × V)} (I : Inv X pins σ H s) (ea : H a = some (exo a C (some d))) (ed : H d = some (exd d fs)) : Inv X pins σ (made H a d C fs) s := by
  obtain ⟨t0, ho⟩ := exo_at I.hok ea
  obtain ⟨mA, named, rel⟩ := exd_at I.hok ed
  have ne : d ≠ a := fun z => by
    obtain ⟨o, es, ep, e1, e2, _⟩ := named
    rw [z, ho] at e1
    cases e1
    cases e2
  have J : Inv X pins σ (upd H a (XO (.ref C) (some d) a)) { s with heap := s.heap, toks := s.toks } := I.write (x := a) (e := a) (o := XO (.ref C) (some d) a) (by rw [ea]; exact True.intro) (.inl rfl) (fun _ _ _ z => z) ⟨_, ho⟩ (xo_put ho ⟨rfl, rfl⟩ rfl)
  have ed2 : (upd H a (XO (.ref C) (some d) a)) d = some (exd d fs) := by
    rw [upd_ne ne]
    exact ed
  obtain ⟨od, hod⟩ : ∃ o, s.heap.get? d = some o := by
    obtain ⟨o, _, _, z, _⟩ := named
    exact ⟨o, z⟩
  exact J.write (t' := s.toks) (h' := s.heap) (x := d) (e := d) (o := .xd fs) (by rw [ed2]; exact True.intro) (.inl rfl) (fun _ _ _ z => z) ⟨od, hod⟩ ⟨mA, named, rel⟩
end
end CS
set_option maxHeartbeats 4000000
namespace CS
open PySem PySem.Spec PyProof.Rows L2
/-! ### C(e, ..), C(k = e, ..): an error as a value -/
/-- what C's __init__ leaves -/
def Kept (a C : Addr) (Q : VK) : V → Hp → Prop := fun v H2 => v = .non ∧ ∃ (d : Addr) (fs : List (Str × V)), H2 a = some (exo a C (some d)) ∧ H2 d = some (exd d fs) ∧ Q (.ref a) (made H2 a d C fs)
def tMkX (C : Addr) (sp : Sp) (ta : TA) : TE := fun σ H Q => ta σ H fun vs H1 => vs.length ≤ 1000 ∧ ∀ a, H1 a = none → sp (.ref a :: vs) (upd H1 a (exo a C none)) (Kept a C Q) (fun _ _ _ => False)
def tMkXK (C : Addr) (n : Nat) (sp : Sp) (gV : List V → List V → List V) (tk : TA) : TE := fun σ H Q => tk σ H fun zs H1 => zs.length = n ∧ ∀ a, H1 a = none → sp (gV [.ref a] zs) (upd H1 a (exo a C none)) (Kept a C Q) (fun _ _ _ => False)
section
variable {X : Cx} {CX : CXT} {x : Str} {C fI : Addr} {k : Nat} {fd : FuncData} {ps ks : List Str} {sp : Sp} {e : Expr} {es : List Expr} {ta tk : TA} {p pos : Pos} {kws : List Keyword} {g : List Value → List Value → List Value} {gV : List V → List V → List V}
theorem kept_ep {pins : List (Addr × Obj)} {σ : L2.St} {H1 : Hp} {s s' : Shared} {a : Addr} {Q : VK} {r : Result} (I2 : Inv X pins σ (upd H1 a (exo a C none)) s) (px : Passes CX X (fun _ _ _ => False))
    (z : (match r with | .ok (.ret u) => CE X.stack X.prog X.w (upd H1 a (exo a C none)) s (Kept a C Q) u s' | .ok _ => False | .error er => CX X.stack (upd H1 a (exo a C none)) s (fun _ _ _ => False) er s')) :
    (match r with | .ok (.ret v) => v = .none ∧ EP X pins σ Q (.ref a) s' | .ok _ => False | .error er => X.xe er s') := by
  cases r with
  | error er => exact px pins σ _ _ er s' I2 z
  | ok fl =>
    cases fl with
    | ret u =>
      obtain ⟨v, H2, I3, rv, ev, d, fs, ea, ed, q⟩ := I2.after z
      subst ev
      exact ⟨rv, .ref a, _, as_made I3 ea ed, rfl, q⟩
    | next => exact z.elim
    | brk => exact z.elim
    | cont => exact z.elim
theorem pe_ox (T : OxC X.K C fI) (F1 : FnOk X.prog X.w X.K X.mg X.base CX k fI fd ps sp) (hr : Room (k + 1) X.A) (hb : Binds X.K fd ps []) (px : Passes CX X (fun _ _ _ => False)) (hg : Gl X x) (hm : X.mg x = some (.ref C)) (ha : PA X (e :: es) ta)
    (hdb : (x == ("__debug__" : Str)) = false := by decide) (he : starEach (e :: es) X.env = (false, eval e X.env) :: starEach es X.env := by rfl) (hpl : (backTo pos (starEach es X.env)).any (·.1) = false := by rfl) : PE X (.Call (.Name x p) (e :: es) [] pos) (tMkX C sp ta) := by
  constructor
  intro pins s σ H Q I h
  obtain ⟨B, newId, initId, bm, F, _, _, nm, q, N, bs, sn, sub, ab, col, dd, k0, k1, k2, k3, k5, hC⟩ := T.base
  refine wpAny_Call_Name_kw (ld_glob I hg hm ?_ hdb)
  refine PySem.W.callWith_K (h₀ := X.base) I.ok.mod.kin T.kC (thn (ha.run pos pins s σ H _ I h) fun us t r => ?_) he hpl
  obtain ⟨vs, H1, I1, r1, hz, q1⟩ := r
  refine ⟨I1.kIn, ?_⟩
  show wpAny _ _ (call (.ref C) us) _ _ _
  obtain ⟨hp, gs, dr, tok, os⟩ := t
  have beyond : hp.objs.size ≤ hp.objs.size + 1 := Nat.le_succ _
  have want := q1 (hp.objs.size + 1) (I1.hok.fresh beyond)
  have more : ∀ b o, hp.get? b = some o → ((hp.push (PySem.W.kdv_tup us)).push (PySem.HandSPX.excO C hp.objs.size)).get? b = some o := fun b o z => Heap.get?_push_of_some _ (Heap.get?_push_of_some _ z)
  have here : ((hp.push (PySem.W.kdv_tup us)).push (PySem.HandSPX.excO C hp.objs.size)).get? (hp.objs.size + 1) = some (PySem.HandSPX.excO C hp.objs.size) := by heap_get
  have I2 : Inv X pins σ (upd H1 (hp.objs.size + 1) (exo (hp.objs.size + 1) C none)) ⟨(hp.push (PySem.W.kdv_tup us)).push (PySem.HandSPX.excO C hp.objs.size), gs, dr, tok, os⟩ := I1.laid (t' := tok) (a := hp.objs.size + 1) (o := exo (hp.objs.size + 1) C none) more beyond (exo_ok here)
  have r2 : Vals (V.ref (hp.objs.size + 1) :: vs) (Value.ref (hp.objs.size + 1) :: us) := .cons rfl r1
  have len : (Value.ref (hp.objs.size + 1) :: us).length = ps.length := r2.length.symm.trans (F1.len _ _ _ _ want)
  have small : us.length ≤ sizeLine := by
    rw [← Paired.length r1, sizeLine_eq]
    omega
  refine wpAny_call (PySem.HandSPX.call_own F (fun _ => rfl) (I1.kIn _ _ hC) (PySem.W.looks_findIn I1.kIn T.iC) (fun self => PySem.W.bind_fn I1.kIn self T.tI) small ?_)
  refine codeAny_mono (F1.run _ X.stack _ _ ⟨Value.ref (hp.objs.size + 1) :: us, []⟩ (Value.ref (hp.objs.size + 1) :: us) _ _ (fun _ _ _ => False) (hr.make C us []) (I2.env0.make C us []) ?_ r2 want) fun r s' z => ?_
  · have w := hb _ (Value.ref (hp.objs.size + 1) :: us) I2.kIn (by rw [List.append_nil]; exact len)
    rw [List.append_nil] at w
    exact w
  · have y := kept_ep (r := r) I2 px z
    cases r with
    | error er => exact y
    | ok fl => cases fl <;> exact y
theorem pe_oxK (T : OxC X.K C fI) (F1 : FnOk X.prog X.w X.K X.mg X.base CX k fI fd ps sp) (hr : Room (k + 1) X.A) (hb : KBn X.K fd ps 1 ks g gV) (px : Passes CX X (fun _ _ _ => False)) (hg : Gl X x) (hm : X.mg x = some (.ref C)) (hkw : PK X kws tk)
    (hall : (backToKw pos (keywordEach kws X.env)).all (·.1.isSome) = true := by rfl) (hks : (backToKw pos (keywordEach kws X.env)).filterMap (·.1) = ks := by rfl) (hdb : (x == ("__debug__" : Str)) = false := by decide)
    (hpl : ((backTo pos (starEach [] X.env)).any (·.1) || (backToKw pos (keywordEach kws X.env)).any (·.1.isNone)) = false := by rfl) : PE X (.Call (.Name x p) [] kws pos) (tMkXK C ks.length sp gV tk) := by
  constructor
  intro pins s σ H Q I h
  obtain ⟨B, newId, initId, bm, F, _, _, nm, q, N, bs, sn, sub, ab, col, dd, k0, k1, k2, k3, k5, hC⟩ := T.base
  refine wpAny_Call_Name_kw (ld_glob I hg hm ?_ hdb)
  refine PySem.W.callWith_KW0 (h₀ := X.base) I.ok.mod.kin T.kC hall ?_ hpl
  refine thn (hkw.run pos pins s σ H _ I h) fun ws t r => ?_
  obtain ⟨zs, H1, I1, rz, lz, q1⟩ := r
  refine ⟨I1.kIn, ?_⟩
  rw [hks]
  show wpAny _ _ (call (.ref C) [] (ks.zip ws)) _ _ _
  obtain ⟨hp, gs, dr, tok, os⟩ := t
  have beyond : hp.objs.size ≤ hp.objs.size + 1 := Nat.le_succ _
  have want := q1 (hp.objs.size + 1) (I1.hok.fresh beyond)
  have more : ∀ b o, hp.get? b = some o → ((hp.push (PySem.W.kdv_tup [])).push (PySem.HandSPX.excO C hp.objs.size)).get? b = some o := fun b o z => Heap.get?_push_of_some _ (Heap.get?_push_of_some _ z)
  have here : ((hp.push (PySem.W.kdv_tup [])).push (PySem.HandSPX.excO C hp.objs.size)).get? (hp.objs.size + 1) = some (PySem.HandSPX.excO C hp.objs.size) := by heap_get
  have I2 : Inv X pins σ (upd H1 (hp.objs.size + 1) (exo (hp.objs.size + 1) C none)) ⟨(hp.push (PySem.W.kdv_tup [])).push (PySem.HandSPX.excO C hp.objs.size), gs, dr, tok, os⟩ := I1.laid (t' := tok) (a := hp.objs.size + 1) (o := exo (hp.objs.size + 1) C none) more beyond (exo_ok here)
  have one : Vals [V.ref (hp.objs.size + 1)] [Value.ref (hp.objs.size + 1)] := .cons rfl .nil
  refine wpAny_call (PySem.CSE.kw_call F (I1.kIn _ _ hC) (PySem.W.looks_findIn I1.kIn T.iC) (fun self => PySem.W.bind_fn I1.kIn self T.tI) ?_)
  refine codeAny_mono (F1.run _ X.stack _ _ ⟨[Value.ref (hp.objs.size + 1)], ks.zip ws⟩ (g [Value.ref (hp.objs.size + 1)] ws) _ _ (fun _ _ _ => False) (hr.make C [] (ks.zip ws)) (I2.env0.make C [] (ks.zip ws)) (hb.to _ [Value.ref (hp.objs.size + 1)] ws I2.kIn rfl (rz.length.symm.trans lz)) (hb.rel one rz) want) fun r s' z => ?_
  have y := kept_ep (r := r) I2 px z
  cases r with
  | error er => exact y
  | ok fl => cases fl <;> exact y
/-- C(), C an own error class without __init__ -/
theorem pe_ox0 {bmB : List Value} {B newId initId : String} (F : ExcBaseFacts B newId initId bmB) (q : PySem.W.excIn X.K C bmB newId = true) (hm : X.mg x = some (.ref C)) (kC : PySem.W.keepIn X.K (.ref C) = true) (hg : Gl X x) (hdb : (x == ("__debug__" : Str)) = false := by decide) :
    PE X (.Call (.Name x p) [] [] pos) (fun σ H Q => ∀ a, H a = none → Q (.ref a) (upd H a (XO (.ref C) none a))) := by
  constructor
  intro pins s σ H Q I h
  refine wpAny_Call_Name_kw (ld_glob I hg hm ?_ hdb)
  refine PySem.W.callWith_K0 I.kIn kC ?_
  show wpAny _ _ (call (.ref C) []) _ _ _
  obtain ⟨bm, N, nm, qn, bs, hdct, sn, sub, ab, col, dd, k0, k1, k2, k3, k5, mN, hC, hN, hni, T⟩ := exc_obj I.kIn q
  refine wpAny_call_exc_subT F T hC hN hni (fun h' a hm => ?_) (Nat.zero_le _)
  have hn : H a = none := I.hok.gone hm.new
  obtain ⟨t, ht, _, _⟩ := hm.there
  exact ⟨.ref a, upd H a (XO (.ref C) none a), I.laidN hm.keeps hm.new hn (xo_put ht ⟨rfl, rfl⟩ rfl), rfl, h a hn⟩
/-- isinstance(e, (C, ..)), e a tracked error, own classes -/
def rIsXT (K : PySem.W.Frag) : List V → Hp → VK → Prop := fun xs H Q => ∃ (a C tp : Addr) (d : Option Addr) (cs : List Addr) (b : Bool), xs = [.ref a, .ref tp] ∧ H a = some (XO (.ref C) d a) ∧ XD H d ∧ PySem.W.CsxC K C ∧ SqT K H tp (cs.map V.ref) ∧ PySem.W.kitAny K (.ref C) (cs.map Value.ref) = some b ∧ Q (.bl b) H
theorem call_isXT : CallR X (.builtin "isinstance") (rIsXT X.K) := by
  intro pins s σ H xs us Q I r h
  obtain ⟨a, C, tp, d, cs, b, rfl, ea, ed, T, ht, e, q⟩ := h
  cases r with
  | cons r1 rr =>
    cases rr with
    | cons r2 rr =>
      cases rr
      cases r1
      cases r2
      obtain ⟨oe, od, J⟩ := xo_inst I ea ed
      obtain ⟨its, rv, ⟨o, ho, hc, n, hd⟩, _⟩ := I.tuple ht
      have ei := refs_at rv
      subst ei
      obtain ⟨c0, d0, data, sl⟩ := o
      dsimp only at hc hd
      subst hc hd
      exact PySem.W.kia_tup (PySem.W.csx_kit T) I.kIn J ho e (fun z => nomatch z) fun tk => ⟨.bl b, H, I.kept (t' := tk) fun _ _ z => z, rfl, q⟩
/-- l.count(True), l a list of truth values -/
def isT : Value → Bool := fun v => match v with | .bool b => b == true | _ => false
theorem isT_all : ∀ {us : List Value} {bs : List Bool}, Vals (bs.map V.bl) us → us.countP isT = bs.count true ∧ ∀ y ∈ us, ∃ b, y = .bool b
  | _, [], .nil => ⟨rfl, fun y hy => by cases hy⟩
  | _, b :: bs, .cons r rr => by
    obtain ⟨h1, h2⟩ := isT_all rr
    cases r
    refine ⟨?_, fun y hy => ?_⟩
    · rw [List.countP_cons, List.count_cons, h1]
      cases b <;> rfl
    · rcases List.mem_cons.mp hy with e | e
      · exact ⟨b, e⟩
      · exact h2 y e
def rCntT (K : PySem.W.Frag) : V → List V → Hp → VK → Prop := fun x xs H Q => ∃ (p : Addr) (bs : List Bool), x = .ref p ∧ xs = [.bl true] ∧ SqL K H p (bs.map V.bl) ∧ Q (.int (bs.count true : Nat)) H
theorem mt_countT : MtR X "list.count" (rCntT X.K) := by
  intro pins s σ H x xs v us Q I rx rxs h
  obtain ⟨p, bs, rfl, rfl, hs, q⟩ := h
  cases rx
  obtain ⟨u, rfl, ru⟩ := rxs.one
  cases ru
  obtain ⟨its, rv, ⟨⟨cls, dd, data, sl⟩, n, ho, hc, hdn, hd⟩, hlen⟩ := I.list hs
  dsimp only at hc hd
  subst hc hd
  obtain ⟨h1, h2⟩ := isT_all rv
  refine call_meets PySem.F.slot_list_count ⟨_, ho, rfl⟩ PySem.F.entry_list_count (PySem.F.args_list_count_2 _ _) (SeqAt.list_countAt p its.toArray n dd sl (.bool true) isT) ⟨ho, fun y hy => ?_, ?_⟩
  · obtain ⟨b, rfl⟩ := h2 y (by simpa using hy)
    exact SeqAt.EqAt.bool_bool b true
  · refine ⟨.int (bs.count true : Nat), H, I.tok _, ⟨s.toks, ?_⟩, q⟩
    show Value.int ((its.toArray.toList.countP isT : Nat) : Int) s.toks = _
    rw [← h1]
end
end CS
namespace K97
open PySem PySem.Spec PyProof.Rows L2 CS
def top (i : Nat) : Stmt := PySem.Challenge.pw_countedsteps_k97_errors_and_values.main.body.getD i (.Pass ⟨0, 0, 0, 0⟩)
abbrev sBox : Stmt := top 19
abbrev sTake : Stmt := top 20
abbrev sCells : Stmt := top 21
abbrev sOf : Stmt := top 22
abbrev sSame : Stmt := top 23
abbrev sValue : Stmt := top 24
abbrev sMuch : Stmt := top 25
abbrev sMade : Stmt := top 26
abbrev sKept : Stmt := top 27
abbrev sClasses : Stmt := top 28
abbrev sRight : Stmt := top 29
abbrev sLaw : Stmt := top 30
abbrev clsBody (st : Stmt) : List Stmt := match st with | .ClassDef _ _ _ b _ _ _ _ _ _ _ => b | _ => []
abbrev sIni (i : Nat) : Stmt := (clsBody (top i)).getD 0 (.Pass ⟨0, 0, 0, 0⟩)

/-! ### heaps and lists -/
theorem same_upd {H : Hp} {p : Addr} {o : HO} (h : H p = none) : Same H (upd H p o) := fun b x e => by
  rw [upd_ne (ne_of_none e h)]
  exact e
theorem cut1 (xs : List V) : cutV xs (some 1) none = xs.drop 1 := by
  unfold cutV
  rw [show HT.sIx xs.length 0 (some 1) = min 1 xs.length from HT.sIx_nat xs.length 0 1, HT.sIx_none]
  cases xs with
  | nil => rfl
  | cons x r =>
    rw [show min 1 (x :: r).length = 1 by
      rw [List.length_cons]
      omega]
    show (List.take ((x :: r).length - 1) r) = r
    rw [List.length_cons, Nat.add_sub_cancel]
    exact List.take_length
theorem sIx_one {n : Nat} (h : 0 < n) : HT.sIx n 0 (some 1) = 1 := by
  rw [show HT.sIx n 0 (some 1) = min 1 n from HT.sIx_nat n 0 1]
  omega
theorem sqT_same {K : PySem.W.Frag} {H H' : Hp} {a : Addr} {xs : List V} (e : Same H H') (h : SqT K H a xs) : SqT K H' a xs := by
  rcases h with (h | ⟨o, h⟩) | h
  · exact .inl (.inl (e _ _ h))
  · exact .inl (.inr ⟨o, e _ _ h⟩)
  · exact .inr h
/-- a tuple or a list of texts -/
def Jr (K : PySem.W.Frag) (H : Hp) (a : Addr) (ss : List Str) : Prop := SqT K H a (ss.map V.str) ∨ SqL K H a (ss.map V.str)
theorem Jr.keep {K : PySem.W.Frag} {H H' : Hp} {a : Addr} {ss : List Str} (h : Jr K H a ss) (s : Same H H') : Jr K H' a ss := by
  rcases h with h | h
  · exact .inl (sqT_same s h)
  · exact .inr (s.seq h)
end K97
namespace K97
open PySem PySem.Spec PyProof.Rows L2 CS
/-- all but b is as it was -/
def Keep (b : Addr) (H H' : Hp) : Prop := ∀ c o, c ≠ b → H c = some o → H' c = some o
theorem Keep.refl (b : Addr) (H : Hp) : Keep b H H := fun _ _ _ e => e
theorem Keep.trans {b : Addr} {H H1 H2 : Hp} (x : Keep b H H1) (y : Keep b H1 H2) : Keep b H H2 := fun c o n e => y c o n (x c o n e)
theorem Keep.of_same {b : Addr} {H H1 : Hp} (x : Same H H1) : Keep b H H1 := fun c o _ e => x c o e
theorem Keep.upd {b : Addr} (H : Hp) (o : HO) : Keep b H (L2.upd H b o) := fun c u n e => by rw [upd_ne n]; exact e
theorem Keep.sqL {K : PySem.W.Frag} {b a : Addr} {H H' : Hp} {xs : List V} (x : Keep b H H') (n : a ≠ b) (h : SqL K H a xs) : SqL K H' a xs := by
  rcases h with (h | ⟨o, h⟩) | h
  · exact .inl (.inl (x _ _ n h))
  · exact .inl (.inr ⟨o, x _ _ n h⟩)
  · exact .inr h
theorem Keep.sqT {K : PySem.W.Frag} {b a : Addr} {H H' : Hp} {xs : List V} (x : Keep b H H') (n : a ≠ b) (h : SqT K H a xs) : SqT K H' a xs := by
  rcases h with (h | ⟨o, h⟩) | h
  · exact .inl (.inl (x _ _ n h))
  · exact .inl (.inr ⟨o, x _ _ n h⟩)
  · exact .inr h
theorem b01 (c : Bool) : 0 ≤ (if c = true then (1 : Int) else 0) ∧ (if c = true then (1 : Int) else 0) ≤ 1 := by cases c <;> decide
theorem abs0 (i : Int) : 0 ≤ (if i < 0 then -i else i) := by split <;> omega
theorem mul01 (i : Int) (c : Bool) : CMul i (if c = true then (1 : Int) else 0) := by
  have q := b01 c
  exact .inr ⟨by omega, by omega⟩
theorem dv64 (i : Int) : CDivN i 64 := ⟨by decide, by decide⟩
theorem dvM (i : Int) : CDivN i 1000003 := ⟨by decide, by decide⟩
section
variable {P : Program} {w : World} {K : PySem.W.Frag} {mg : Str → Option Value} {base : Heap}
/-! ### the box of draws -/
/-- a box at b: what is left of the number, the seed, how often it was asked -/
def BoxAt (H : Hp) (b : Addr) (n : Nat) : Prop := ∃ A B C : Int, H b = some (.lst [.int A, .int B, .int C]) ∧ 0 ≤ A ∧ 0 ≤ B ∧ B < 2 ^ 62 ∧ 0 ≤ C ∧ C ≤ n
def spBox (K : PySem.W.Frag) : Sp := fun vs H Q _ => ∃ (a : Addr) (ns : List Int) (k : Nat), vs = [.ref a, .int (k : Nat)] ∧ SqL K H a (ns.map V.int) ∧ k < ns.length ∧ ns.length ≤ 1000 ∧ ∀ (H' : Hp) (p : Addr), Same H H' → H p = none → BoxAt H' p 0 → Q (.ref p) H'
theorem scBox : FnScope ["_law_script", "_law_k", "_law_cell"] ["_law_script", "_law_k"] (defScope sBox) := ⟨rfl, rfl, rfl, by decide +kernel, rfl, by decide +kernel, by decide +kernel⟩
theorem ok_box {f : Addr} {fd : FuncData} {k : Nat} (F : Fun K "_law_box" "_law_box" sBox f fd) (ml : mg "len" = none) (ma : mg "abs" = none) (mi : mg "int" = none) : FnOk P w K mg base CX0 (k + 1) f fd ["_law_script", "_law_k"] (spBox K) := by
  refine F.ok scBox (fun vs H Q E h => ?_) (fun cdv A outer s H vs Q E hr h => ?_)
  · obtain ⟨a, ns, k, rfl, _⟩ := h
    rfl
  · obtain ⟨a, ns, k, rfl, hS, hk, h1, q⟩ := h
    refine ⟨_, pss_cons (ps_set (i := 2) scBox.nd rfl (.inl rfl) (pe_ifExp (pt_cmpR op_lt (pv 1) (pe_callB call_len_seq (by rfl) ml PySem.boot_len (pa_cons (pv 0) pa_nil)) (nomark _)) (pe_ix ix_list (pv 0) (pv 1) (fun _ _ => rfl)) pe_int))
      (pss_one (ps_ret (pe_lst (pa_cons (pe_op op_mul (pe_callB call_abs (by rfl) ma (by decide +kernel) (pa_cons (pv 2) pa_nil)) (pe_callTy call_int1 (by rfl) mi (by decide +kernel) (pa_cons (pe_cmpR op_ge (pe_callB call_abs (by rfl) ma (by decide +kernel) (pa_cons (pv 2) pa_nil)) (pe_op op_pow pe_int pe_int) (nomark _)) pa_nil)))
        (pa_cons (pe_op op_add (pe_op op_add (pe_op op_modN (pe_callTy call_int1 (by rfl) mi (by decide +kernel) (pa_cons (pv 2) pa_nil)) pe_int) (pe_op op_mul pe_int (pv 1))) pe_int) (pa_cons pe_int pa_nil)))))), ?_⟩
    have hx : (ns.map V.int)[k]? = some (.int ns[k]) := by rw [List.getElem?_map, List.getElem?_eq_getElem hk]; rfl
    have hd : decide ((k : Int) < ((ns.map V.int).length : Nat)) = true := decide_eq_true (by rw [List.length_map]; omega)
    refine ⟨.int (k : Nat), rfl, .ref a, rfl, a, _, rfl, .inl hS, _, _, rfl, rfl, _, rfl, ?_⟩
    rw [hd]
    refine ⟨.ref a, rfl, .int (k : Nat), rfl, a, _, _, _, rfl, rfl, hS, atI_nat hx, ?_⟩
    have e1 := Int.fmod_nonneg_of_pos ns[k] (b := 2305843009213693951) (by decide)
    have e2 := Int.fmod_lt_of_pos ns[k] (b := 2305843009213693951) (by decide)
    refine ⟨.int ns[k], rfl, _, rfl, .int ns[k], rfl, _, rfl, 10, 18, rfl, rfl, ⟨by decide, by decide, by decide⟩, _, _, rfl, rfl, .inr ⟨_, rfl, _, _, rfl, rfl, mul01 _ _, ?_⟩⟩
    refine ⟨.int ns[k], rfl, .inl ⟨_, rfl, _, _, rfl, rfl, (by show (2305843009213693951 : Int) ≠ 0; decide), _, rfl, _, _, rfl, rfl, .inl (by decide), _, _, rfl, rfl, _, _, rfl, rfl, ?_⟩⟩
    refine ⟨by show 3 ≤ sizeLine; decide, fun p np => q _ p (same_upd np) np ?_⟩
    refine ⟨_, _, 0, upd_same, Int.mul_nonneg (abs0 _) (b01 _).1, ?_, ?_, Int.le_refl 0, Int.le_refl 0⟩
    · have : (0 : Int) ≤ k := Int.natCast_nonneg k
      omega
    · have : (k : Int) < 1000 := by omega
      omega
/-! ### a draw -/
def spTake : Sp := fun vs H Q _ => ∃ (b : Addr) (n : Nat) (m : Int), vs = [.ref b, .int m] ∧ BoxAt H b n ∧ n ≤ 1000000 ∧ 0 < m ∧ m < 1000000 ∧ ∀ (H' : Hp) (r : Int), Keep b H H' → BoxAt H' b (n + 1) → 0 ≤ r → r < m → Q (.int r) H'
theorem scTake : FnScope ["_law_box_here", "_law_below", "_law_digit_so", "_law_once", "_law_odd", "_law_twice"] ["_law_box_here", "_law_below"] (defScope sTake) := ⟨rfl, rfl, rfl, by decide +kernel, rfl, by decide +kernel, by decide +kernel⟩
theorem ok_take {f : Addr} {fd : FuncData} {k : Nat} (F : Fun K "_law_take" "_law_take" sTake f fd) (mi : mg "int" = none) : FnOk P w K mg base CX0 (k + 1) f fd ["_law_box_here", "_law_below"] spTake := by
  refine F.ok scTake (fun vs H Q E h => ?_) (fun cdv A outer s H vs Q E hr h => ?_)
  · obtain ⟨b, n, m, rfl, _⟩ := h
    rfl
  · obtain ⟨b, n, m, rfl, ⟨A, B, C, hb, hA, hB, hB2, hC, hC2⟩, hn, hm, hm2, q⟩ := h
    refine ⟨_, pss_cons (ps_if (pt_cmpR op_gt (pe_ix ix_list (pv 0) pe_int (fun _ _ => rfl)) pe_int (nomark _))
        (pss_cons (ps_set (i := 2) scTake.nd rfl (.inl rfl) (pe_op op_modN (pe_callTy call_int1 (by rfl) mi (by decide +kernel) (pa_cons (pe_ix ix_list (pv 0) pe_int (fun _ _ => rfl)) pa_nil)) (pv 1)))
          (pss_cons (ps_asg (pe_op op_fdivN (pe_ix ix_list (pv 0) pe_int (fun _ _ => rfl)) (pv 1)) (pg_sub (pv 0) pe_int set_list)) (pss_one (ps_ret (pv 2))))) pss_nil)
      (pss_cons (ps_asg (pe_op op_add (pe_ix ix_list (pv 0) pe_int (fun _ _ => rfl)) pe_int) (pg_sub (pv 0) pe_int set_list))
      (pss_cons (ps_set (i := 3) scTake.nd rfl (.inl rfl) (pe_op op_modN (pe_callTy call_int1 (by rfl) mi (by decide +kernel) (pa_cons (pe_op op_mul (pe_op op_add (pe_ix ix_list (pv 0) pe_int (fun _ _ => rfl)) (pe_op op_mul pe_int (pe_ix ix_list (pv 0) pe_int (fun _ _ => rfl)))) (pe_op op_add pe_int (pe_ix ix_list (pv 0) pe_int (fun _ _ => rfl)))) pa_nil)) pe_int))
      (pss_cons (ps_set (i := 4) scTake.nd rfl (.inl rfl) (pe_op op_add (pe_op op_modN (pe_callTy call_int1 (by rfl) mi (by decide +kernel) (pa_cons (pv 3) pa_nil)) pe_int) pe_int))
      (pss_cons (ps_set (i := 5) scTake.nd rfl (.inl rfl) (pe_op op_modN (pe_callTy call_int1 (by rfl) mi (by decide +kernel) (pa_cons (pe_op op_mul (pe_op op_add (pe_op op_add (pv 3) (pe_ix ix_list (pv 0) pe_int (fun _ _ => rfl))) (pe_op op_fdivN (pe_ix ix_list (pv 0) pe_int (fun _ _ => rfl)) pe_int)) (pv 4)) pa_nil)) pe_int))
      (pss_one (ps_ret (pe_op op_modN (pe_callTy call_int1 (by rfl) mi (by decide +kernel) (pa_cons (pe_op op_fdivN (pe_op op_modN (pe_callTy call_int1 (by rfl) mi (by decide +kernel) (pa_cons (pe_op op_add (pe_op op_mul (pv 5) pe_int) (pv 3)) pa_nil)) pe_int) pe_int) pa_nil)) (pv 1)))))))), ?_⟩
    refine ⟨.ref b, rfl, b, _, 0, .int A, rfl, rfl, SqL.of hb, atI_nat (j := 0) rfl, _, _, rfl, rfl, _, rfl, ?_⟩
    refine ite2 (fun c => ?_) (fun c => ?_)
    · have hg : 0 < A := of_decide_eq_true c
      have r0 := Int.fmod_nonneg_of_pos A hm
      have r1 := Int.fmod_lt_of_pos A hm
      have d0 := Int.fdiv_nonneg hA (Int.le_of_lt hm)
      refine ⟨.ref b, rfl, b, _, 0, .int A, rfl, rfl, SqL.of hb, atI_nat (j := 0) rfl, .inl ⟨A, rfl, .int m, rfl, A, m, rfl, rfl, by omega, ?_⟩⟩
      refine ⟨.ref b, rfl, b, _, 0, .int A, rfl, rfl, SqL.of hb, atI_nat (j := 0) rfl, .int m, rfl, A, m, rfl, rfl, ⟨by omega, by omega⟩, ?_⟩
      refine ⟨.ref b, rfl, b, _, 0, 0, rfl, rfl, hb, rfl, ?_⟩
      refine ⟨_, rfl, ?_⟩
      exact q _ _ (Keep.upd H _) ⟨_, B, C, upd_same, d0, hB, hB2, hC, by omega⟩ r0 r1
    · refine ⟨.ref b, rfl, b, _, 2, .int C, rfl, rfl, SqL.of hb, atI_nat (j := 2) rfl, _, _, rfl, rfl, ?_⟩
      refine ⟨.ref b, rfl, b, _, 2, 2, rfl, rfl, hb, rfl, ?_⟩
      have hb2 : SqL K (upd H b (.lst [.int A, .int B, .int (C + 1)])) b [.int A, .int B, .int (C + 1)] := SqL.of upd_same
      have i1 : atI [V.int A, V.int B, V.int (C + 1)] 1 = some (V.int B) := atI_nat (j := 1) rfl
      have i2 : atI [V.int A, V.int B, V.int (C + 1)] 2 = some (V.int (C + 1)) := atI_nat (j := 2) rfl
      refine ⟨.ref b, rfl, b, _, 1, .int B, rfl, rfl, hb2, i1, .ref b, rfl, b, _, 2, .int (C + 1), rfl, rfl, hb2, i2, _, _, rfl, rfl, .inl (by decide), _, _, rfl, rfl, .ref b, rfl, b, _, 2, .int (C + 1), rfl, rfl, hb2, i2, _, _, rfl, rfl,
        _, _, rfl, rfl, .inr (by omega), .inl ⟨_, rfl, _, _, rfl, rfl, (by show (2147483647 : Int) ≠ 0; decide), ?_⟩⟩
      have o0 := Int.fmod_nonneg_of_pos ((B + 48271 * (C + 1)) * (39373 + (C + 1))) (b := 2147483647) (by decide)
      have o1 := Int.fmod_lt_of_pos ((B + 48271 * (C + 1)) * (39373 + (C + 1))) (b := 2147483647) (by decide)
      dsimp only
      revert o0 o1
      generalize Int.fmod ((B + 48271 * (C + 1)) * (39373 + (C + 1))) 2147483647 = o
      intro o0 o1
      refine ⟨.int o, rfl, .inl ⟨_, rfl, _, _, rfl, rfl, (by show (40009 : Int) ≠ 0; decide), _, _, rfl, rfl, ?_⟩⟩
      have v0 := Int.fmod_nonneg_of_pos o (b := 40009) (by decide)
      have v1 := Int.fmod_lt_of_pos o (b := 40009) (by decide)
      dsimp only
      revert v0 v1
      generalize Int.fmod o 40009 = v
      intro v0 v1
      refine ⟨.int o, rfl, .ref b, rfl, b, _, 2, .int (C + 1), rfl, rfl, hb2, i2, _, _, rfl, rfl, .ref b, rfl, b, _, 1, .int B, rfl, rfl, hb2, i1, _, _, rfl, rfl, dvM _, _, _, rfl, rfl, .int (v + 7), rfl, _, _, rfl, rfl, .inr (by omega),
        .inl ⟨_, rfl, _, _, rfl, rfl, (by show (2147483629 : Int) ≠ 0; decide), ?_⟩⟩
      refine ⟨.int _, rfl, _, _, rfl, rfl, .inr (by decide), .int o, rfl, _, _, rfl, rfl, .inl ⟨_, rfl, _, _, rfl, rfl, (by show (2147483587 : Int) ≠ 0; decide), _, _, rfl, rfl, dv64 _, .inl ⟨_, rfl, .int m, rfl, _, _, rfl, rfl, (by omega), ?_⟩⟩⟩
      exact q _ _ (Keep.upd H _) ⟨A, B, C + 1, upd_same, hA, hB, hB2, by omega, by omega⟩ (Int.fmod_nonneg_of_pos _ hm) (Int.fmod_lt_of_pos _ hm)
end
end K97
namespace K97
open PySem PySem.Spec PyProof.Rows L2 CS
theorem BoxAt.same {H H' : Hp} {b : Addr} {n : Nat} (h : BoxAt H b n) (s : Same H H') : BoxAt H' b n := by
  obtain ⟨A, B, C, e, r⟩ := h
  exact ⟨A, B, C, s _ _ e, r⟩
theorem BoxAt.up {H : Hp} {b : Addr} {n m : Nat} (h : BoxAt H b n) (l : n ≤ m) : BoxAt H b m := by
  obtain ⟨A, B, C, e, a1, a2, a3, a4, a5⟩ := h
  exact ⟨A, B, C, e, a1, a2, a3, a4, by omega⟩
theorem drop_map {α β : Type} (f : α → β) : ∀ (l : List α) (i : Nat), (l.map f).eraseIdx i = (l.eraseIdx i).map f
  | [], _ => rfl
  | _ :: _, 0 => rfl
  | x :: l, i + 1 => by
    show f x :: (l.map f).eraseIdx i = f x :: (l.eraseIdx i).map f
    rw [drop_map f l i]
theorem out_perm {α : Type} : ∀ {l : List α} {i : Nat} (h : i < l.length), List.Perm (l[i] :: l.eraseIdx i) l
  | [], _, h => absurd h (Nat.not_lt_zero _)
  | _ :: _, 0, _ => List.Perm.refl _
  | x :: l, i + 1, h => (List.Perm.swap x _ _).trans ((out_perm (l := l) (i := i) (Nat.lt_of_succ_lt_succ h)).cons x)
/-- the signs of a text -/
def signs (z : Str) : List Str := z.cps.toList.map fun c => ⟨#[c]⟩
section
variable {X : Cx}
theorem vals_signs : ∀ (l : List Nat) (us : List Value), us.length = l.length → (∀ (j : Nat) (u : Value), us[j]? = some u → ∃ (c : Nat) (t : Tok), l[j]? = some c ∧ u = Value.str ⟨#[c]⟩ t) → Vals (l.map fun c => V.str ⟨#[c]⟩) us
  | [], [], _, _ => .nil
  | [], _ :: _, h, _ => by cases h
  | _ :: _, [], h, _ => by cases h
  | c :: l, u :: us, h, q => by
    obtain ⟨c', t, e1, e2⟩ := q 0 u rfl
    cases e1
    refine .cons ⟨t, e2⟩ (vals_signs l us (Nat.succ.inj h) fun j v e => q (j + 1) v e)
theorem call_list_txt (hc : X.calm = true) : CallR X (.type "list") (fun xs H Q => ∃ z : Str, xs = [.str z] ∧ z.cps.size ≤ 1000 ∧ ∀ l, H l = none → Q (.ref l) (upd H l (.lst ((signs z).map V.str)))) := by
  intro pins s σ H xs us Q I r h
  obtain ⟨z, rfl, hz, q⟩ := h
  obtain ⟨u, rfl, rx⟩ := vals1 r
  obtain ⟨t, rfl⟩ := rx
  have hfit : z.cps.size ≤ sizeLine := Nat.le_of_lt (small1000 hz)
  refine call_list_str (I.ok.hd hc) z t (fun h' tk acc c' hk hS it => ?_) hfit
  have rv : Vals ((signs z).map V.str) acc.toList := by
    unfold signs
    rw [List.map_map]
    refine vals_signs z.cps.toList acc.toList (by rw [Array.length_toList, Array.length_toList]; exact it.1) fun j u e => ?_
    rw [Array.getElem?_toList] at e
    obtain ⟨c, u', e1, e2⟩ := it.2 j u e
    exact ⟨c, u', by rw [Array.getElem?_toList]; exact e1, e2⟩
  refine ⟨.ref s.heap.objs.size, _, I.laid (t' := tk) hk (Nat.le_refl _) (show ObjOk X.prog X.w _ h' _ (.lst _) from ⟨?_, acc.toList, c', rv, ?_⟩), rfl, q _ (I.hok.fresh (Nat.le_refl _))⟩
  · unfold signs
    rw [List.length_map, List.length_map, Array.length_toList]
    exact hfit
  · simpa using hS
end
section
variable {P : Program} {w : World} {K : PySem.W.Frag} {mg : Str → Option Value} {base : Heap}
/-! ### of -/
def spOf (K : PySem.W.Frag) : Sp := fun vs H Q _ => ∃ (b t : Addr) (n : Nat) (xs : List V), vs = [.ref b, .ref t] ∧ BoxAt H b n ∧ n ≤ 1000000 ∧ t ≠ b ∧ SqL K H t xs ∧ 0 < xs.length ∧ xs.length < 1000000 ∧
  ∀ (H' : Hp) (i : Nat) (x : V), Keep b H H' → BoxAt H' b (n + 1) → xs[i]? = some x → Q x H'
theorem scOf : FnScope ["_law_box_here", "_law_some"] ["_law_box_here", "_law_some"] (defScope sOf) := ⟨rfl, rfl, rfl, by decide +kernel, rfl, by decide +kernel, by decide +kernel⟩
theorem ok_of {f g : Addr} {fd gd : FuncData} {k : Nat} (F : Fun K "_law_of" "_law_of" sOf f fd) (G : FnOk P w K mg base CX0 k g gd ["_law_box_here", "_law_below"] spTake) (bG : Binds K gd ["_law_box_here", "_law_below"] []) (kG : PySem.W.keepIn K (.ref g) = true) (mG : mg "_law_take" = some (.ref g)) (ml : mg "len" = none) :
    FnOk P w K mg base CX0 (k + 1) f fd ["_law_box_here", "_law_some"] (spOf K) := by
  refine F.ok scOf (fun vs H Q E h => ?_) (fun cdv A outer s H vs Q E hr h => ?_)
  · obtain ⟨b, t, n, xs, rfl, _⟩ := h
    rfl
  · obtain ⟨b, t, n, xs, rfl, hb, hn, ntb, hS, h0, h1, q⟩ := h
    refine ⟨_, pss_one (ps_ret (pe_ix ix_list (pv 1) (pe_call G hr (by rfl) mG kG bG .nil pass0 (pa_cons (pv 0) (pa_cons (pe_callB call_len_seq (by rfl) ml PySem.boot_len (pa_cons (pv 1) pa_nil)) pa_nil))) (fun _ _ => rfl))), ?_⟩
    refine ⟨.ref t, rfl, .ref b, rfl, .ref t, rfl, t, _, rfl, .inl hS, ?_⟩
    refine ⟨b, n, _, rfl, hb, hn, (by omega), (by omega), fun H' r k1 b1 r0 r1 => ?_⟩
    have hlt : r.toNat < xs.length := by omega
    have hx : xs[r.toNat]? = some xs[r.toNat] := List.getElem?_eq_getElem hlt
    refine ⟨t, xs, r, xs[r.toNat], rfl, rfl, k1.sqL ntb hS, ?_, q H' r.toNat _ k1 b1 hx⟩
    have za := atI_nat hx
    rw [show ((r.toNat : Nat) : Int) = r by omega] at za
    exact za
/-! ### pick -/
end
end K97
namespace K97
open PySem PySem.Spec PyProof.Rows L2 CS RZ
/-! ### same -/
def okD : Nat → PyData → Prop
  | 0, _ => False
  | _ + 1, .int _ => True
  | _ + 1, .str _ => True
  | _ + 1, .bool _ => True
  | _ + 1, .none => True
  | n + 1, .list ds => ds.length ≤ 1000 ∧ ∀ d ∈ ds, okD n d
  | n + 1, .tuple ds => ds.length ≤ 1000 ∧ ∀ d ∈ ds, okD n d
  | _ + 1, _ => False
mutual
theorem dp_same {K : PySem.W.Frag} {H H' : Hp} (s : Same H H') : ∀ {v : V} {d : PyData}, Dp K H v d → Dp K H' v d
  | _, _, .non => .non
  | _, _, .bl b => .bl b
  | _, _, .int i => .int i
  | _, _, .str x => .str x
  | _, _, .lst q r => .lst (s.seq q) (dp_sameAll s r)
  | _, _, .tup q r => .tup (sqT_same s q) (dp_sameAll s r)
theorem dp_sameAll {K : PySem.W.Frag} {H H' : Hp} (s : Same H H') : ∀ {vs : List V} {ds : List PyData}, DpAll K H vs ds → DpAll K H' vs ds
  | _, _, .nil => .nil
  | _, _, .cons q r => .cons (dp_same s q) (dp_sameAll s r)
end
theorem dpAll_len {K : PySem.W.Frag} {H : Hp} : ∀ {ds : List PyData} {vs : List V}, DpAll K H vs ds → vs.length = ds.length
  | _, _, .nil => rfl
  | _, _, .cons _ r => congrArg (· + 1) (dpAll_len r)
theorem dpAll_at {K : PySem.W.Frag} {H : Hp} : ∀ {ds : List PyData} {vs : List V}, DpAll K H vs ds → ∀ {i : Nat} {v : V}, vs[i]? = some v → ∃ d, ds[i]? = some d ∧ Dp K H v d
  | _, _, .nil, i, _, h => by cases h
  | _, _, .cons q r, 0, _, h => by cases h; exact ⟨_, rfl, q⟩
  | _, _, .cons q r, i + 1, v, h => dpAll_at r (i := i) h
theorem tyL {K : PySem.W.Frag} {H : Hp} {a : Addr} {xs : List V} (h : SqL K H a xs) : TyX K H (.ref a) (.type "list") := by
  rcases h with (h | ⟨o, h⟩) | ⟨o, its, n, h, c, _⟩
  · exact .base (.lst h)
  · exact .base (.frz h)
  · exact .kList h c
theorem tyT {K : PySem.W.Frag} {H : Hp} {a : Addr} {xs : List V} (h : SqT K H a xs) : TyX K H (.ref a) (.type "tuple") := by
  rcases h with (h | ⟨o, h⟩) | ⟨o, its, n, h, c, _⟩
  · exact .base (.tup h)
  · exact .fTuple h
  · exact .kTuple h c
theorem walk_zipT {K : PySem.W.Frag} {a b : Addr} {xs ys : List V} {n : Nat} (hn : n = min xs.length ys.length) : Walk (ItzT K a b) n (fun H => SqT K H a xs ∧ SqT K H b ys) (YPair (fun i => xs[i]?) (fun i => ys[i]?)) := by
  subst hn
  refine ⟨fun i H hi q => ?_, fun H q => ⟨xs, ys, q.1, q.2, by omega⟩, fun i H v H' hi q y => ?_⟩
  · have l1 : i < xs.length := by omega
    have l2 : i < ys.length := by omega
    exact ⟨xs, ys, xs[i], ys[i], q.1, q.2, by simp [l1], by simp [l2]⟩
  · obtain ⟨T, x, z, e1, e2, e3, e4, e5⟩ := y
    exact ⟨T, x, z, e1, e2, e3, e4 xs q.1, e5 ys q.2⟩
section
variable {P : Program} {w : World} {K : PySem.W.Frag} {mg : Str → Option Value} {base : Heap}
def spSame (K : PySem.W.Frag) (n : Nat) : Sp := fun vs H Q _ => ∃ (x y : V) (d : PyData), vs = [x, y] ∧ Dp K H x d ∧ Dp K H y d ∧ okD n d ∧ ∀ H' : Hp, Same H H' → Q (.bl true) H'
/-- what the top says of the built-ins that same asks -/
structure SmT (mg : Str → Option Value) : Prop where
  is : mg "isinstance" = none
  li : mg "list" = none
  tu : mg "tuple" = none
  le : mg "len" = none
  al : mg "all" = none
  zi : mg "zip" = none
  bo : mg "bool" = none
  st : mg "str" = none
  int : mg "int" = none
abbrev nSame : List Str := ["_law_got", "_law_due", "_law_mine", "_law_its"]
theorem scSame : FnScope nSame ["_law_got", "_law_due"] (defScope sSame) := ⟨rfl, rfl, rfl, by decide +kernel, rfl, by decide +kernel, by decide +kernel⟩
theorem same_none {f : Addr} {fd : FuncData} : FnOk P w K mg base CX0 0 f fd ["_law_got", "_law_due"] (spSame K 0) := by
  have no : ∀ vs H Q E, ¬ spSame K 0 vs H Q E := fun vs H Q E h => by
    obtain ⟨_, _, d, _, _, _, h, _⟩ := h
    cases d <;> exact h
  exact ⟨fun vs H Q E h => absurd h (no vs H Q E), fun A outer s H args us vs Q E _ _ _ _ h => absurd h (no vs H Q E)⟩
theorem isi_one {t c : String} {b : Bool} (h : kitB t c = some b) : PySem.W.kitOne K (.type t) (.type c) = some b := kit_ty h
theorem any_ff {t a b : String} (h1 : kitB t a = some false) (h2 : kitB t b = some false) : PySem.W.kitAny K (.type t) [.type a, .type b] = some false :=
  kitAny_cons (kit_ty h1) (fun _ => kitAny_cons (kit_ty h2) (fun _ => kitAny_nil) fun z => nomatch z) fun z => nomatch z
theorem any_t {t a b : String} (h1 : kitB t a = some true) : PySem.W.kitAny K (.type t) [.type a, .type b] = some true := kitAny_cons (kit_ty h1) (fun z => nomatch z) fun _ => rfl
theorem any_ft {t a b : String} (h1 : kitB t a = some false) (h2 : kitB t b = some true) : PySem.W.kitAny K (.type t) [.type a, .type b] = some true :=
  kitAny_cons (kit_ty h1) (fun _ => kitAny_cons (kit_ty h2) (fun z => nomatch z) fun _ => rfl) fun _ => rfl
theorem all_yes : ∀ n : Nat, (List.replicate n true).all id = true
  | 0 => rfl
  | n + 1 => by
    rw [List.replicate_succ, List.all_cons, all_yes n]
    rfl
theorem ok_same {n : Nat} {f : Addr} {fd : FuncData} (F : Fun K "_law_same" "_law_same" sSame f fd) (G : FnOk P w K mg base CX0 n f fd ["_law_got", "_law_due"] (spSame K n)) (bG : Binds K fd ["_law_got", "_law_due"] []) (mG : mg "_law_same" = some (.ref f)) (T : SmT mg) :
    FnOk P w K mg base CX0 (n + 1) f fd ["_law_got", "_law_due"] (spSame K (n + 1)) := by
  refine F.ok scSame (fun vs H Q E h => ?_) (fun cdv A outer s H vs Q E hr h => ?_)
  · obtain ⟨x, y, d, rfl, _⟩ := h
    rfl
  · obtain ⟨x, y, d, rfl, hx, hy, hd, q⟩ := h
    refine ⟨_, pss_cons (ps_if (pt_val (pe_callB call_isiT (by rfl) T.is (by decide +kernel) (pa_cons (pv 1) (pa_cons (pe_tup (pa_cons (pe_bltn (v := .ty "list") (by rfl) T.li (by decide +kernel) rfl) (pa_cons (pe_bltn (v := .ty "tuple") (by rfl) T.tu (by decide +kernel) rfl) pa_nil))) pa_nil))))
        (pss_cons (ps_if (PW.pt (pw_or (pt_cmpR op_ne (pe_callB call_isi (by rfl) T.is (by decide +kernel) (pa_cons (pv 0) (pa_cons (pe_bltn (v := .ty "list") (by rfl) T.li (by decide +kernel) rfl) pa_nil))) (pe_callB call_isi (by rfl) T.is (by decide +kernel) (pa_cons (pv 1) (pa_cons (pe_bltn (v := .ty "list") (by rfl) T.li (by decide +kernel) rfl) pa_nil))) (nomark _))
            (pw_or1 (pt_cmpR op_ne (pe_callB call_isi (by rfl) T.is (by decide +kernel) (pa_cons (pv 0) (pa_cons (pe_bltn (v := .ty "tuple") (by rfl) T.tu (by decide +kernel) rfl) pa_nil))) (pe_callB call_isi (by rfl) T.is (by decide +kernel) (pa_cons (pv 1) (pa_cons (pe_bltn (v := .ty "tuple") (by rfl) T.tu (by decide +kernel) rfl) pa_nil))) (nomark _)))))
          (pss_one (ps_ret (pe_bl))) pss_nil)
        (pss_one (ps_ret (pe_and (pe_cmpR op_eq (pe_callB call_len_seq (by rfl) T.le PySem.boot_len (pa_cons (pv 0) pa_nil)) (pe_callB call_len_seq (by rfl) T.le PySem.boot_len (pa_cons (pv 1) pa_nil)) (nomark _))
          (pe_one (pe_callB (cr_all rfl) (by rfl) T.al (by decide +kernel) (pa_cons (pe_lc (own := [("_law_mine", 2), ("_law_its", 3)]) (g := gTup K 2 (gCons (gName 2) (gCons (gName 3) gNil))) (by rfl) scSame.nd (pi_zipA (by rfl) T.zi (pa_cons (pv 0) (pa_cons (pv 1) pa_nil)))
            (blkOk_by (own := [("_law_mine", 2), ("_law_its", 3)]) (N := nSame) (sc := defScope sSame) (by decide +kernel))
            (fun _ _ _ _ _ => pg_tup rfl (pgs_cons (pg_name (i := 2) scSame.nd rfl (Or.inl rfl) (.inr rfl)) (pgs_cons (pg_name (i := 3) scSame.nd rfl (Or.inl rfl) (.inr rfl)) pgs_nil))) (fun _ _ _ _ _ => pts_nil)
            (fun _ _ _ _ _ => pe_call G hr (by rfl) mG F.kp bG .nil pass0 (pa_cons (pv 2) (pa_cons (pv 3) pa_nil)))) pa_nil))))))) pss_nil)
      (pss_cons (ps_if (PW.pt (pw_or (pt_cmpR op_isN (pv 1) pe_non (nomark _)) (pw_or1 (pt_val (pe_callB call_isiT (by rfl) T.is (by decide +kernel) (pa_cons (pv 1) (pa_cons (pe_tup (pa_cons (pe_bltn (v := .ty "bool") (by rfl) T.bo (by decide +kernel) rfl) (pa_cons (pe_bltn (v := .ty "str") (by rfl) T.st (by decide +kernel) rfl) pa_nil))) pa_nil)))))))
        (pss_one (ps_ret (pe_and (pe_cmpR op_eq (pv 0) (pv 1) (nomark _)) (pe_and (pe_cmpR op_eq (pe_callB call_isi (by rfl) T.is (by decide +kernel) (pa_cons (pv 0) (pa_cons (pe_bltn (v := .ty "bool") (by rfl) T.bo (by decide +kernel) rfl) pa_nil))) (pe_callB call_isi (by rfl) T.is (by decide +kernel) (pa_cons (pv 1) (pa_cons (pe_bltn (v := .ty "bool") (by rfl) T.bo (by decide +kernel) rfl) pa_nil))) (nomark _))
          (pe_one (pe_cmpR op_eq (pe_cmpR op_isN (pv 0) pe_non (nomark _)) (pe_cmpR op_isN (pv 1) pe_non (nomark _)) (nomark _))))))) pss_nil)
      (pss_one (ps_ret (pe_and (pe_callB call_isi (by rfl) T.is (by decide +kernel) (pa_cons (pv 0) (pa_cons (pe_bltn (v := .ty "int") (by rfl) T.int (by decide +kernel) rfl) pa_nil)))
        (pe_and (pe_not (pe_callB call_isi (by rfl) T.is (by decide +kernel) (pa_cons (pv 0) (pa_cons (pe_bltn (v := .ty "bool") (by rfl) T.bo (by decide +kernel) rfl) pa_nil)))) (pe_one (pe_cmpR op_eq (pv 0) (pv 1) (nomark _)))))))), ?_⟩
    have two : 2 ≤ sizeLine := by decide
    cases d with
    | int i =>
      cases hx
      cases hy
      refine ⟨.int i, rfl, two, fun p np => ⟨_, p, _, _, _, false, rfl, upd_same, .cons (.ty _) (.cons (.ty _) .nil), .base (.int i), any_ff (by decide +kernel) (by decide +kernel), _, rfl, ?_⟩⟩
      refine ite2 (fun z => absurd z Bool.false_ne_true) (fun _ => ?_)
      refine ⟨.int i, rfl, rfl, _, rfl, ?_⟩
      refine ite2 (fun z => absurd (of_decide_eq_true z) (fun e => by cases e)) (fun _ => ?_)
      refine ⟨.int i, rfl, two, fun p2 np2 => ⟨_, p2, _, _, _, false, rfl, upd_same, .cons (.ty _) (.cons (.ty _) .nil), .base (.int i), any_ff (by decide +kernel) (by decide +kernel), _, rfl, ?_⟩⟩
      refine ite2 (fun z => absurd z Bool.false_ne_true) (fun _ => ?_)
      refine ⟨.int i, rfl, _, _, _, _, true, rfl, .ty _, .base (.int i), isi_one (by decide +kernel), _, rfl, ?_⟩
      refine ite2 (fun _ => ?_) (fun z => absurd rfl z)
      refine ⟨.int i, rfl, _, _, _, _, false, rfl, .ty _, .base (.int i), isi_one (by decide +kernel), _, rfl, _, rfl, ?_⟩
      refine ite2 (fun _ => ?_) (fun z => absurd rfl z)
      refine ⟨.int i, rfl, .int i, rfl, rfl, ?_⟩
      have e : decide (V.int i = V.int i) = true := decide_eq_true rfl
      rw [e]
      exact q _ ((same_upd np).trans (same_upd np2))
    | str z =>
      cases hx
      cases hy
      refine ⟨.str z, rfl, two, fun p np => ⟨_, p, _, _, _, false, rfl, upd_same, .cons (.ty _) (.cons (.ty _) .nil), .base (.str z), any_ff (by decide +kernel) (by decide +kernel), _, rfl, ?_⟩⟩
      refine ite2 (fun z => absurd z Bool.false_ne_true) (fun _ => ?_)
      refine ⟨.str z, rfl, rfl, _, rfl, ?_⟩
      refine ite2 (fun z => absurd (of_decide_eq_true z) (fun e => by cases e)) (fun _ => ?_)
      refine ⟨.str z, rfl, two, fun p2 np2 => ⟨_, p2, _, _, _, true, rfl, upd_same, .cons (.ty _) (.cons (.ty _) .nil), .base (.str z), any_ft (by decide +kernel) (by decide +kernel), _, rfl, ?_⟩⟩
      refine ite2 (fun _ => ?_) (fun z => absurd rfl z)
      refine ⟨.str z, rfl, .str z, rfl, rfl, _, rfl, ?_⟩
      refine ite2 (fun _ => ?_) (fun e => absurd (decide_eq_true rfl) e)
      refine ⟨.str z, rfl, _, _, _, _, false, rfl, .ty _, .base (.str z), isi_one (by decide +kernel), .str z, rfl, _, _, _, _, false, rfl, .ty _, .base (.str z), isi_one (by decide +kernel), rfl, _, rfl, ?_⟩
      refine ite2 (fun _ => ?_) (fun e => absurd rfl e)
      refine ⟨.str z, rfl, rfl, .str z, rfl, rfl, rfl, ?_⟩
      have e : decide (V.bl (decide (V.str z = V.non)) = V.bl (decide (V.str z = V.non))) = true := decide_eq_true rfl
      rw [e]
      exact q _ ((same_upd np).trans (same_upd np2))
    | bool z =>
      cases hx
      cases hy
      refine ⟨.bl z, rfl, two, fun p np => ⟨_, p, _, _, _, false, rfl, upd_same, .cons (.ty _) (.cons (.ty _) .nil), .base (.bl z), any_ff (by decide +kernel) (by decide +kernel), _, rfl, ?_⟩⟩
      refine ite2 (fun z => absurd z Bool.false_ne_true) (fun _ => ?_)
      refine ⟨.bl z, rfl, rfl, _, rfl, ?_⟩
      refine ite2 (fun z => absurd (of_decide_eq_true z) (fun e => by cases e)) (fun _ => ?_)
      refine ⟨.bl z, rfl, two, fun p2 np2 => ⟨_, p2, _, _, _, true, rfl, upd_same, .cons (.ty _) (.cons (.ty _) .nil), .base (.bl z), any_t (by decide +kernel), _, rfl, ?_⟩⟩
      refine ite2 (fun _ => ?_) (fun z => absurd rfl z)
      refine ⟨.bl z, rfl, .bl z, rfl, rfl, _, rfl, ?_⟩
      refine ite2 (fun _ => ?_) (fun e => absurd (decide_eq_true rfl) e)
      refine ⟨.bl z, rfl, _, _, _, _, true, rfl, .ty _, .base (.bl z), isi_one (by decide +kernel), .bl z, rfl, _, _, _, _, true, rfl, .ty _, .base (.bl z), isi_one (by decide +kernel), rfl, _, rfl, ?_⟩
      refine ite2 (fun _ => ?_) (fun e => absurd rfl e)
      refine ⟨.bl z, rfl, rfl, .bl z, rfl, rfl, rfl, ?_⟩
      have e : decide (V.bl (decide (V.bl z = V.non)) = V.bl (decide (V.bl z = V.non))) = true := decide_eq_true rfl
      rw [e]
      exact q _ ((same_upd np).trans (same_upd np2))
    | none =>
      cases hx
      cases hy
      refine ⟨.non, rfl, two, fun p np => ⟨_, p, _, _, _, false, rfl, upd_same, .cons (.ty _) (.cons (.ty _) .nil), .base .non, any_ff (by decide +kernel) (by decide +kernel), _, rfl, ?_⟩⟩
      refine ite2 (fun z => absurd z Bool.false_ne_true) (fun _ => ?_)
      refine ⟨.non, rfl, rfl, _, rfl, ?_⟩
      refine ite2 (fun _ => ?_) (fun z => absurd (decide_eq_true rfl) z)
      refine ⟨.non, rfl, .non, rfl, rfl, _, rfl, ?_⟩
      refine ite2 (fun _ => ?_) (fun e => absurd (decide_eq_true rfl) e)
      refine ⟨.non, rfl, _, _, _, _, false, rfl, .ty _, .base .non, isi_one (by decide +kernel), .non, rfl, _, _, _, _, false, rfl, .ty _, .base .non, isi_one (by decide +kernel), rfl, _, rfl, ?_⟩
      refine ite2 (fun _ => ?_) (fun e => absurd rfl e)
      refine ⟨.non, rfl, rfl, .non, rfl, rfl, rfl, ?_⟩
      have e : decide (V.bl (decide (V.non = V.non)) = V.bl (decide (V.non = V.non))) = true := decide_eq_true rfl
      rw [e]
      exact q _ (same_upd np)
    | list ds =>
      obtain ⟨hlen, hds⟩ := hd
      cases hx with
      | lst hxs hxa =>
      cases hy with
      | lst hys hya =>
      rename_i a xs b ys
      have lx := dpAll_len hxa
      have ly := dpAll_len hya
      refine ⟨.ref b, rfl, two, fun p np => ⟨_, p, _, _, _, true, rfl, upd_same, .cons (.ty _) (.cons (.ty _) .nil), tyL ((same_upd np).seq hys), any_t (by decide +kernel), _, rfl, ?_⟩⟩
      refine ite2 (fun _ => ?_) (fun z => absurd rfl z)
      have s1 : Same H (upd H p (.tup [.ty "list", .ty "tuple"])) := same_upd np
      have hxs1 := (s1).seq hxs
      have hys1 := (s1).seq hys
      refine ⟨.ref a, rfl, _, _, _, _, true, rfl, .ty _, tyL hxs1, isi_one (by decide +kernel), .ref b, rfl, _, _, _, _, true, rfl, .ty _, tyL hys1, isi_one (by decide +kernel), rfl, _, rfl, ?_⟩
      refine ite2 (fun c => by rw [decide_eq_true rfl] at c; cases c) (fun _ => ?_)
      refine ⟨.ref a, rfl, _, _, _, _, false, rfl, .ty _, tyL hxs1, isi_one (by decide +kernel), .ref b, rfl, _, _, _, _, false, rfl, .ty _, tyL hys1, isi_one (by decide +kernel), rfl, _, rfl, ?_⟩
      refine ite2 (fun c => by rw [decide_eq_true rfl] at c; cases c) (fun _ => ?_)
      refine ⟨.ref a, rfl, a, _, rfl, .inl hxs1, .ref b, rfl, b, _, rfl, .inl hys1, rfl, _, rfl, ?_⟩
      refine ite2 (fun _ => ?_) (fun z => absurd (decide_eq_true (congrArg V.int (by rw [lx, ly]))) z)
      refine ⟨.ref a, rfl, .ref b, rfl, a, b, xs, ys, rfl, .inl ⟨hxs1, hys1, fun D nD => lc_it (walk_zip (K := K) (a := a) (b := b) (xs := xs) (ys := ys) rfl)
        (fun i H' => Same (upd H p (.tup [.ty "list", .ty "tuple"])) H' ∧ H' D = some (.lst ((List.replicate i true).map V.bl))) ⟨same_upd nD, upd_same⟩ (fun i H' _ z => ⟨(z.1).seq hxs1, (z.1).seq hys1⟩) ?_ ?_⟩⟩
      · rintro i v H2 H3 hi ⟨s2, eD⟩ ⟨T1, x1, y1, rfl, nT, rfl, hx1, hy1⟩
        obtain ⟨d1, e1, r1⟩ := dpAll_at hxa hx1
        obtain ⟨d2, e2, r2⟩ := dpAll_at hya hy1
        have ed : d1 = d2 := by
          rw [e1] at e2
          exact Option.some.inj e2
        subst ed
        have s3 : Same (upd H p (.tup [.ty "list", .ty "tuple"])) (upd H2 T1 (.tup [x1, y1])) := s2.trans (same_upd nT)
        have hi' : i < 1000 := by omega
        refine ⟨T1, [x1, y1], rfl, SqT.of upd_same, rfl, x1, [y1], rfl, y1, [], rfl, rfl, ?_⟩
        refine ⟨rfl, ?_⟩
        unfold tYes
        refine ite2 (fun _ => ?_) (fun z => absurd rfl z)
        refine ⟨x1, rfl, y1, rfl, x1, y1, d1, rfl, dp_same (s1.trans s3) r1, dp_same (s1.trans s3) r2, hds d1 (List.mem_of_getElem? e1), fun H4 s4 => ?_⟩
        have eD4 : H4 D = some (.lst ((List.replicate i true).map V.bl)) := s4 _ _ (by rw [upd_ne (ne_of_none eD nT)]; exact eD)
        refine ⟨_, eD4, ?_, fun c o e => ?_, ?_⟩
        · rw [List.length_map, List.length_replicate]
          exact small1000 (Nat.le_of_lt hi')
        · rw [upd_ne (ne_of_none e nD)]
          exact s4 _ _ (s3 _ _ e)
        · rw [upd_same, List.replicate_succ', List.map_append]
          rfl
      · rintro H2 ⟨s2, eD⟩
        refine ⟨D, _, rfl, SqL.of eD, ?_⟩
        rw [all_yes]
        exact q _ (s1.trans s2)
    | tuple ds =>
      obtain ⟨hlen, hds⟩ := hd
      cases hx with
      | tup hxs hxa =>
      cases hy with
      | tup hys hya =>
      rename_i a xs b ys
      have lx := dpAll_len hxa
      have ly := dpAll_len hya
      refine ⟨.ref b, rfl, two, fun p np => ⟨_, p, _, _, _, true, rfl, upd_same, .cons (.ty _) (.cons (.ty _) .nil), tyT (sqT_same (same_upd np) hys), any_ft (by decide +kernel) (by decide +kernel), _, rfl, ?_⟩⟩
      refine ite2 (fun _ => ?_) (fun z => absurd rfl z)
      have s1 : Same H (upd H p (.tup [.ty "list", .ty "tuple"])) := same_upd np
      have hxs1 := sqT_same (s1) hxs
      have hys1 := sqT_same (s1) hys
      refine ⟨.ref a, rfl, _, _, _, _, false, rfl, .ty _, tyT hxs1, isi_one (by decide +kernel), .ref b, rfl, _, _, _, _, false, rfl, .ty _, tyT hys1, isi_one (by decide +kernel), rfl, _, rfl, ?_⟩
      refine ite2 (fun c => by rw [decide_eq_true rfl] at c; cases c) (fun _ => ?_)
      refine ⟨.ref a, rfl, _, _, _, _, true, rfl, .ty _, tyT hxs1, isi_one (by decide +kernel), .ref b, rfl, _, _, _, _, true, rfl, .ty _, tyT hys1, isi_one (by decide +kernel), rfl, _, rfl, ?_⟩
      refine ite2 (fun c => by rw [decide_eq_true rfl] at c; cases c) (fun _ => ?_)
      refine ⟨.ref a, rfl, a, _, rfl, .inr hxs1, .ref b, rfl, b, _, rfl, .inr hys1, rfl, _, rfl, ?_⟩
      refine ite2 (fun _ => ?_) (fun z => absurd (decide_eq_true (congrArg V.int (by rw [lx, ly]))) z)
      refine ⟨.ref a, rfl, .ref b, rfl, a, b, xs, ys, rfl, .inr ⟨hxs1, hys1, fun D nD => lc_it (walk_zipT (K := K) (a := a) (b := b) (xs := xs) (ys := ys) rfl)
        (fun i H' => Same (upd H p (.tup [.ty "list", .ty "tuple"])) H' ∧ H' D = some (.lst ((List.replicate i true).map V.bl))) ⟨same_upd nD, upd_same⟩ (fun i H' _ z => ⟨sqT_same (z.1) hxs1, sqT_same (z.1) hys1⟩) ?_ ?_⟩⟩
      · rintro i v H2 H3 hi ⟨s2, eD⟩ ⟨T1, x1, y1, rfl, nT, rfl, hx1, hy1⟩
        obtain ⟨d1, e1, r1⟩ := dpAll_at hxa hx1
        obtain ⟨d2, e2, r2⟩ := dpAll_at hya hy1
        have ed : d1 = d2 := by
          rw [e1] at e2
          exact Option.some.inj e2
        subst ed
        have s3 : Same (upd H p (.tup [.ty "list", .ty "tuple"])) (upd H2 T1 (.tup [x1, y1])) := s2.trans (same_upd nT)
        have hi' : i < 1000 := by omega
        refine ⟨T1, [x1, y1], rfl, SqT.of upd_same, rfl, x1, [y1], rfl, y1, [], rfl, rfl, ?_⟩
        refine ⟨rfl, ?_⟩
        unfold tYes
        refine ite2 (fun _ => ?_) (fun z => absurd rfl z)
        refine ⟨x1, rfl, y1, rfl, x1, y1, d1, rfl, dp_same (s1.trans s3) r1, dp_same (s1.trans s3) r2, hds d1 (List.mem_of_getElem? e1), fun H4 s4 => ?_⟩
        have eD4 : H4 D = some (.lst ((List.replicate i true).map V.bl)) := s4 _ _ (by rw [upd_ne (ne_of_none eD nT)]; exact eD)
        refine ⟨_, eD4, ?_, fun c o e => ?_, ?_⟩
        · rw [List.length_map, List.length_replicate]
          exact small1000 (Nat.le_of_lt hi')
        · rw [upd_ne (ne_of_none e nD)]
          exact s4 _ _ (s3 _ _ e)
        · rw [upd_same, List.replicate_succ', List.map_append]
          rfl
      · rintro H2 ⟨s2, eD⟩
        refine ⟨D, _, rfl, SqL.of eD, ?_⟩
        rw [all_yes]
        exact q _ (s1.trans s2)
    | _ => exact absurd hd id
end
end K97
namespace K97
open PySem PySem.Spec PyProof.Rows L2 CS
/-- what stood at first stands, and all of H2 but l -/
def KeepTo (H H2 : Hp) (l : Addr) (H' : Hp) : Prop := Same H H' ∧ Keep l H2 H'
theorem cut3 (ns : List Int) : cutV (ns.map V.int) (some 3) (some 63) = ((ns.drop (min 3 ns.length)).take (min 63 ns.length - min 3 ns.length)).map V.int := by
  unfold cutV
  rw [show HT.sIx (ns.map V.int).length 0 (some 3) = min 3 (ns.map V.int).length from HT.sIx_nat _ 0 3, show HT.sIx (ns.map V.int).length (ns.map V.int).length (some 63) = min 63 (ns.map V.int).length from HT.sIx_nat _ _ 63, List.length_map, List.map_take, List.map_drop]
theorem cut0 (ns : List Int) : cutV (ns.map V.int) none (some 3) = (ns.take (min 3 ns.length)).map V.int := by
  unfold cutV
  rw [show HT.sIx (ns.map V.int).length 0 none = 0 from HT.sIx_none _ _, show HT.sIx (ns.map V.int).length (ns.map V.int).length (some 3) = min 3 (ns.map V.int).length from HT.sIx_nat _ _ 3, List.length_map, List.map_take]
  rfl
section
variable {P : Program} {w : World} {K : PySem.W.Frag} {mg : Str → Option Value} {base : Heap}
def spCells (K : PySem.W.Frag) : Sp := fun vs H Q _ => ∃ (a : Addr) (ns : List Int), vs = [.ref a, .int 3] ∧ SqL K H a (ns.map V.int) ∧ ns.length ≤ 63 ∧
  ∀ (H' : Hp) (p : Addr) (ms : List Int), Same H H' → H p = none → H' p = some (.lst (ms.map V.int)) → 1 ≤ ms.length → ms.length ≤ 3 → Q (.ref p) H'
theorem scCells : FnScope ["_law_script", "_law_most_so", "_law_cells_here", "_law_k", "_law_cell", "_law_at_so"] ["_law_script", "_law_most_so"] (defScope sCells) := ⟨rfl, rfl, rfl, by decide +kernel, rfl, by decide +kernel, by decide +kernel⟩
theorem ok_cells {f : Addr} {fd : FuncData} {k : Nat} (F : Fun K "_law_cells" "_law_cells" sCells f fd) (mL : mg "list" = none) (mE : mg "enumerate" = none) (mi : mg "int" = none) : FnOk P w K mg base CX0 (k + 1) f fd ["_law_script", "_law_most_so"] (spCells K) := by
  refine F.ok scCells (fun vs H Q E h => ?_) (fun cdv A outer s H vs Q E hr h => ?_)
  · obtain ⟨a, ns, rfl, _⟩ := h
    rfl
  · obtain ⟨a, ns, rfl, hS, hn, q⟩ := h
    refine ⟨_, pss_cons (ps_set (i := 2) scCells.nd rfl (.inl rfl) (pe_orT (pe_callTy call_list_of (by rfl) mL (by decide +kernel) (pa_cons (pe_slice sl_list (pv 0) po_none (po_some (pv 1))) pa_nil)) (pe_one (pe_lst (pa_cons pe_int pa_nil)))))
      (pss_cons (ps_for PassesOwn.never rfl (pi_enum (by rfl) mE (pa_cons (pe_slice sl_list (pv 0) (po_some (pv 1)) (po_some pe_int)) pa_nil))
          (pg_tup rfl (pgs_cons (pg_name (i := 3) scCells.nd rfl (.inl rfl)) (pgs_cons (pg_name (i := 4) scCells.nd rfl (.inl rfl)) pgs_nil)))
        (pss_cons (ps_set (i := 5) scCells.nd rfl (.inl rfl) (pe_op op_modN (pe_callTy call_int1 (by rfl) mi (by decide +kernel) (pa_cons (pv 3) pa_nil)) (pv 1)))
          (pss_one (ps_asg (pe_op op_add (pe_ix ix_list (pv 2) (pv 5) (fun _ _ => rfl)) (pe_op op_mul (pv 4) (pe_op op_add (pv 3) pe_int))) (pg_sub (pv 2) (pv 5) set_list)))))
      (pss_one (ps_ret (pv 2)))), ?_⟩
    refine ⟨.ref a, rfl, .int 3, rfl, 3, rfl, a, ns.map V.int, rfl, hS, fun c nc => ?_⟩
    rw [cut0]
    refine ⟨c, _, rfl, .inl (SqL.of upd_same), fun l nl0 => ?_⟩
    have s0 : Same H (upd (upd H c (.lst ((ns.take (min 3 ns.length)).map V.int))) l (.lst ((ns.take (min 3 ns.length)).map V.int))) := (same_upd nc).trans (same_upd nl0)
    have nlH : H l = none := (same_upd nc).free nl0
    have hl1 : (ns.take (min 3 ns.length)).length = min 3 ns.length := by
      rw [List.length_take]
      omega
    refine ⟨_, .inl ⟨_, SqL.of upd_same, rfl⟩, ?_⟩
    refine ite2 (fun c1 => ?_) (fun c1 => ?_)
    · have hpos : 0 < ns.length := by
        cases ns with
        | nil => cases c1
        | cons x r => exact Nat.succ_pos _
      have e1 : (upd (upd H c (.lst ((ns.take (min 3 ns.length)).map V.int))) l (.lst ((ns.take (min 3 ns.length)).map V.int))) l = some (.lst ((ns.take (min 3 ns.length)).map V.int)) := upd_same
      generalize upd (upd H c (.lst ((ns.take (min 3 ns.length)).map V.int))) l (.lst ((ns.take (min 3 ns.length)).map V.int)) = H1 at s0 e1
      generalize ns.take (min 3 ns.length) = ms at e1 hl1
      have s1 := s0
      have nl := nlH
      have m1 : 1 ≤ ms.length := by omega
      have m3 : ms.length ≤ 3 := by omega
      have h3 : 3 < ns.length → ms.length = 3 := fun _ => by omega
      refine ⟨.ref a, rfl, .int 3, rfl, 3, rfl, 63, rfl, a, ns.map V.int, rfl, s1.seq hS, fun c2 nc2 => ?_⟩
      rw [cut3]
      have s2 : Same H (upd H1 c2 (.lst (((ns.drop (min 3 ns.length)).take (min 63 ns.length - min 3 ns.length)).map V.int))) := s1.trans (same_upd nc2)
      have ncl : c2 ≠ l := fun z => by
        rw [z, e1] at nc2
        cases nc2
      have hC : SqL K (upd H1 c2 (.lst (((ns.drop (min 3 ns.length)).take (min 63 ns.length - min 3 ns.length)).map V.int))) c2 (((ns.drop (min 3 ns.length)).take (min 63 ns.length - min 3 ns.length)).map V.int) := SqL.of upd_same
      have eL : (upd H1 c2 (.lst (((ns.drop (min 3 ns.length)).take (min 63 ns.length - min 3 ns.length)).map V.int))) l = some (.lst (ms.map V.int)) := by
        rw [upd_ne ncl.symm]
        exact e1
      have hlenr : ((ns.drop (min 3 ns.length)).take (min 63 ns.length - min 3 ns.length)).length = min 63 ns.length - min 3 ns.length := by
        rw [List.length_take, List.length_drop]
        omega
      generalize ((ns.drop (min 3 ns.length)).take (min 63 ns.length - min 3 ns.length)) = rest at s2 hC eL hlenr
      generalize upd H1 c2 (.lst (rest.map V.int)) = H2 at s2 hC eL
      refine ⟨c2, rest.map V.int, rfl, hC, for_it (walk_enum (K := K) (a := c2) (xs := rest.map V.int)) (fun i σ H' => ∃ (y3 y4 y5 : Option V) (zs : List Int), σ = [some (.ref a), some (.int 3), some (.ref l), y3, y4, y5] ∧ KeepTo H H2 l H' ∧ H' l = some (.lst (zs.map V.int)) ∧ zs.length = ms.length)
        ⟨none, none, none, ms, rfl, ⟨s2, fun _ _ _ e => e⟩, eL, rfl⟩ (fun i σ H' _ z => by
          obtain ⟨_, _, _, _, _, kk, _, _⟩ := z
          exact Keep.sqL (b := l) kk.2 ncl hC) ?_ ?_⟩
      · rintro i v σ H3 H4 hi ⟨y3, y4, y5, zs, rfl, kk, e3, hzl⟩ ⟨T, x, y, rfl, nT, rfl, hx, hy⟩
        cases hx
        replace hy : (rest.map V.int)[i]? = some y := hy
        rw [List.getElem?_map] at hy
        rw [List.length_map, hlenr] at hi
        cases e : rest[i]? with
        | none =>
          rw [e] at hy
          cases hy
        | some u =>
          rw [e] at hy
          cases hy
          have hz3 : zs.length = 3 := by rw [hzl]; exact h3 (by omega)
          have f0 := Int.fmod_nonneg_of_pos (i : Int) (b := 3) (by decide)
          have f1 := Int.fmod_lt_of_pos (i : Int) (b := 3) (by decide)
          have nlT : l ≠ T := ne_of_none e3 nT
          have e3T : (upd H3 T (.tup [.int (i : Nat), .int u])) l = some (.lst (zs.map V.int)) := by
            rw [upd_ne nlT]
            exact e3
          refine ⟨T, [.int (i : Nat), .int u], rfl, SqT.of upd_same, rfl, .int (i : Nat), [.int u], rfl, .int u, [], rfl, rfl, ?_⟩
          refine ⟨.int (i : Nat), rfl, .inl ⟨_, rfl, .int 3, rfl, _, _, rfl, rfl, (by show (3 : Int) ≠ 0; decide), ?_⟩⟩
          have hj : (Int.fmod (i : Int) 3).toNat < zs.length := by omega
          have hat : atI (zs.map V.int) (Int.fmod (i : Int) 3) = some (.int zs[(Int.fmod (i : Int) 3).toNat]) := by
            have za := atI_nat (j := (Int.fmod (i : Int) 3).toNat) (xs := zs.map V.int) (v := .int zs[(Int.fmod (i : Int) 3).toNat]) (by rw [List.getElem?_map, List.getElem?_eq_getElem hj]; rfl)
            rw [show (((Int.fmod (i : Int) 3).toNat : Nat) : Int) = Int.fmod (i : Int) 3 by omega] at za
            exact za
          refine ⟨.ref l, rfl, .int _, rfl, l, _, _, _, rfl, rfl, SqL.of e3T, hat, .int u, rfl, .int (i : Nat), rfl, _, _, rfl, rfl, _, _, rfl, rfl, .inr (by omega), _, _, rfl, rfl, ?_⟩
          refine ⟨.ref l, rfl, .int _, rfl, l, _, _, (Int.fmod (i : Int) 3).toNat, rfl, rfl, e3T, ?_, ?_⟩
          · unfold ixN
            rw [List.length_map, if_pos f0, if_pos (by omega)]
          · refine ⟨_, _, _, zs.set (Int.fmod (i : Int) 3).toNat (zs[(Int.fmod (i : Int) 3).toNat] + u * ((i : Int) + 2)), rfl, ⟨fun c o ec => ?_, fun c o nc ec => ?_⟩, ?_, ?_⟩
            · have q3 := kk.1 _ _ ec
              have ncl3 : c ≠ l := ne_of_none ec nl
              rw [upd_ne ncl3, upd_ne (ne_of_none q3 nT)]
              exact q3
            · have q3 := kk.2 _ _ nc ec
              rw [upd_ne nc, upd_ne (ne_of_none q3 nT)]
              exact q3
            · rw [upd_same, List.map_set]
            · rw [List.length_set]
              exact hzl
      · rintro σ H3 ⟨y3, y4, y5, zs, rfl, kk, e3, hzl⟩
        exact ⟨.ref l, rfl, q H3 l zs kk.1 nl e3 (by omega) (by omega)⟩
    · have hnil : ns.length = 0 := by
        cases ns with
        | nil => rfl
        | cons x r =>
          exfalso
          apply c1
          show (!(((x :: r).take (min 3 (r.length + 1))).map V.int).isEmpty) = true
          rw [show min 3 (r.length + 1) = (min 2 r.length) + 1 by omega]
          rfl
      refine ⟨(by show 1 ≤ sizeLine; decide), fun l2 nl2 => ?_⟩
      have s1 := s0.trans (same_upd (o := .lst [.int 0]) nl2)
      have nl : H l2 = none := s0.free nl2
      have e1 : (upd (upd (upd H c (.lst ((ns.take (min 3 ns.length)).map V.int))) l (.lst ((ns.take (min 3 ns.length)).map V.int))) l2 (.lst [.int 0])) l2 = some (.lst (([0] : List Int).map V.int)) := upd_same
      generalize upd (upd (upd H c (.lst ((ns.take (min 3 ns.length)).map V.int))) l (.lst ((ns.take (min 3 ns.length)).map V.int))) l2 (.lst [.int 0]) = H1 at s1 e1
      generalize l2 = l at nl e1
      generalize ems : ([0] : List Int) = ms at e1
      have m1 : 1 ≤ ms.length := by rw [← ems]; decide
      have m3 : ms.length ≤ 3 := by rw [← ems]; decide
      have h3 : 3 < ns.length → ms.length = 3 := fun z => by omega
      refine ⟨.ref a, rfl, .int 3, rfl, 3, rfl, 63, rfl, a, ns.map V.int, rfl, s1.seq hS, fun c2 nc2 => ?_⟩
      rw [cut3]
      have s2 : Same H (upd H1 c2 (.lst (((ns.drop (min 3 ns.length)).take (min 63 ns.length - min 3 ns.length)).map V.int))) := s1.trans (same_upd nc2)
      have ncl : c2 ≠ l := fun z => by
        rw [z, e1] at nc2
        cases nc2
      have hC : SqL K (upd H1 c2 (.lst (((ns.drop (min 3 ns.length)).take (min 63 ns.length - min 3 ns.length)).map V.int))) c2 (((ns.drop (min 3 ns.length)).take (min 63 ns.length - min 3 ns.length)).map V.int) := SqL.of upd_same
      have eL : (upd H1 c2 (.lst (((ns.drop (min 3 ns.length)).take (min 63 ns.length - min 3 ns.length)).map V.int))) l = some (.lst (ms.map V.int)) := by
        rw [upd_ne ncl.symm]
        exact e1
      have hlenr : ((ns.drop (min 3 ns.length)).take (min 63 ns.length - min 3 ns.length)).length = min 63 ns.length - min 3 ns.length := by
        rw [List.length_take, List.length_drop]
        omega
      generalize ((ns.drop (min 3 ns.length)).take (min 63 ns.length - min 3 ns.length)) = rest at s2 hC eL hlenr
      generalize upd H1 c2 (.lst (rest.map V.int)) = H2 at s2 hC eL
      refine ⟨c2, rest.map V.int, rfl, hC, for_it (walk_enum (K := K) (a := c2) (xs := rest.map V.int)) (fun i σ H' => ∃ (y3 y4 y5 : Option V) (zs : List Int), σ = [some (.ref a), some (.int 3), some (.ref l), y3, y4, y5] ∧ KeepTo H H2 l H' ∧ H' l = some (.lst (zs.map V.int)) ∧ zs.length = ms.length)
        ⟨none, none, none, ms, rfl, ⟨s2, fun _ _ _ e => e⟩, eL, rfl⟩ (fun i σ H' _ z => by
          obtain ⟨_, _, _, _, _, kk, _, _⟩ := z
          exact Keep.sqL (b := l) kk.2 ncl hC) ?_ ?_⟩
      · rintro i v σ H3 H4 hi ⟨y3, y4, y5, zs, rfl, kk, e3, hzl⟩ ⟨T, x, y, rfl, nT, rfl, hx, hy⟩
        cases hx
        replace hy : (rest.map V.int)[i]? = some y := hy
        rw [List.getElem?_map] at hy
        rw [List.length_map, hlenr] at hi
        cases e : rest[i]? with
        | none =>
          rw [e] at hy
          cases hy
        | some u =>
          rw [e] at hy
          cases hy
          have hz3 : zs.length = 3 := by rw [hzl]; exact h3 (by omega)
          have f0 := Int.fmod_nonneg_of_pos (i : Int) (b := 3) (by decide)
          have f1 := Int.fmod_lt_of_pos (i : Int) (b := 3) (by decide)
          have nlT : l ≠ T := ne_of_none e3 nT
          have e3T : (upd H3 T (.tup [.int (i : Nat), .int u])) l = some (.lst (zs.map V.int)) := by
            rw [upd_ne nlT]
            exact e3
          refine ⟨T, [.int (i : Nat), .int u], rfl, SqT.of upd_same, rfl, .int (i : Nat), [.int u], rfl, .int u, [], rfl, rfl, ?_⟩
          refine ⟨.int (i : Nat), rfl, .inl ⟨_, rfl, .int 3, rfl, _, _, rfl, rfl, (by show (3 : Int) ≠ 0; decide), ?_⟩⟩
          have hj : (Int.fmod (i : Int) 3).toNat < zs.length := by omega
          have hat : atI (zs.map V.int) (Int.fmod (i : Int) 3) = some (.int zs[(Int.fmod (i : Int) 3).toNat]) := by
            have za := atI_nat (j := (Int.fmod (i : Int) 3).toNat) (xs := zs.map V.int) (v := .int zs[(Int.fmod (i : Int) 3).toNat]) (by rw [List.getElem?_map, List.getElem?_eq_getElem hj]; rfl)
            rw [show (((Int.fmod (i : Int) 3).toNat : Nat) : Int) = Int.fmod (i : Int) 3 by omega] at za
            exact za
          refine ⟨.ref l, rfl, .int _, rfl, l, _, _, _, rfl, rfl, SqL.of e3T, hat, .int u, rfl, .int (i : Nat), rfl, _, _, rfl, rfl, _, _, rfl, rfl, .inr (by omega), _, _, rfl, rfl, ?_⟩
          refine ⟨.ref l, rfl, .int _, rfl, l, _, _, (Int.fmod (i : Int) 3).toNat, rfl, rfl, e3T, ?_, ?_⟩
          · unfold ixN
            rw [List.length_map, if_pos f0, if_pos (by omega)]
          · refine ⟨_, _, _, zs.set (Int.fmod (i : Int) 3).toNat (zs[(Int.fmod (i : Int) 3).toNat] + u * ((i : Int) + 2)), rfl, ⟨fun c o ec => ?_, fun c o nc ec => ?_⟩, ?_, ?_⟩
            · have q3 := kk.1 _ _ ec
              have ncl3 : c ≠ l := ne_of_none ec nl
              rw [upd_ne ncl3, upd_ne (ne_of_none q3 nT)]
              exact q3
            · have q3 := kk.2 _ _ nc ec
              rw [upd_ne nc, upd_ne (ne_of_none q3 nT)]
              exact q3
            · rw [upd_same, List.map_set]
            · rw [List.length_set]
              exact hzl
      · rintro σ H3 ⟨y3, y4, y5, zs, rfl, kk, e3, hzl⟩
        exact ⟨.ref l, rfl, q H3 l zs kk.1 nl e3 (by omega) (by omega)⟩
end
end K97
namespace K97
open PySem PySem.Spec PyProof.Rows L2 CS RZ

/-! ### the errors: the i-th class of the file -/
def cl (cs : List Addr) (i : Nat) : Addr := cs.getD i 0
/-- what the written part says of the classes -/
structure ET (K : PySem.W.Frag) (cs : List Addr) : Prop where
  kit : ∀ i j, i < 17 → j < 17 → PySem.W.kitOne K (.ref (cl cs i)) (.ref (cl cs j)) = some (decide (i = j))
  kV : ∀ i, i < 17 → PySem.W.kitOne K (.ref (cl cs i)) (.type "ValueError") = some (decide (2 ≤ i))
  kL : ∀ i, i < 17 → PySem.W.kitOne K (.ref (cl cs i)) (.type "LookupError") = some (decide (i < 2))
  csx : ∀ i, i < 17 → PySem.W.CsxC K (cl cs i)
/-- what it says of a class with fields -/
structure EF (K : PySem.W.Frag) (C fI : Addr) (fs : List Str) : Prop where
  o : OxC K C fI
  f : XfC K C
  no : ∀ f ∈ fs, PySem.W.findIn K (.ref C) f = some none
section
variable {P : Program} {w : World} {K : PySem.W.Frag} {mg : Str → Option Value} {base : Heap} {cs : List Addr}
/-- an error of the i-th class -/
def Er0 (K : PySem.W.Frag) (cs : List Addr) (H : Hp) (v : V) (i : Nat) : Prop := ∃ (a : Addr) (d : Option Addr), v = .ref a ∧ i < 17 ∧ H a = some (XO (.ref (cl cs i)) d a) ∧ XD H d
/-- an error with fields -/
def Er (cs : List Addr) (H : Hp) (a : Addr) (i : Nat) (fs : List (Str × V)) : Prop := ∃ d : Addr, i < 17 ∧ H a = some (XO (.ref (cl cs i)) (some d) a) ∧ H d = some (.xd fs)
theorem Er.zero {H : Hp} {a : Addr} {i : Nat} {fs : List (Str × V)} (h : Er cs H a i fs) : Er0 K cs H (.ref a) i := by
  obtain ⟨d, hi, h1, h2⟩ := h
  exact ⟨a, some d, rfl, hi, h1, .inr ⟨d, fs, rfl, h2⟩⟩
theorem Er.keep {H H' : Hp} {a : Addr} {i : Nat} {fs : List (Str × V)} (h : Er cs H a i fs) (s : Same H H') : Er cs H' a i fs := by
  obtain ⟨d, hi, h1, h2⟩ := h
  exact ⟨d, hi, s _ _ h1, s _ _ h2⟩
theorem Er0.keep {H H' : Hp} {v : V} {i : Nat} (h : Er0 K cs H v i) (s : Same H H') : Er0 K cs H' v i := by
  obtain ⟨a, d, e, hi, h1, h2⟩ := h
  refine ⟨a, d, e, hi, s _ _ h1, ?_⟩
  rcases h2 with h2 | ⟨dd, fs, e2, h3⟩
  · exact .inl h2
  · exact .inr ⟨dd, fs, e2, s _ _ h3⟩
/-! ### what an __init__ keeps -/
def spI (K : PySem.W.Frag) (C fI : Addr) (fs : List Str) : Sp := fun vs H Q _ => ∃ (a : Addr) (ys : List V), vs = .ref a :: ys ∧ ys.length = fs.length ∧ EF K C fI fs ∧ H a = some (exo a C none) ∧
  ∀ (dx : Addr) (H' : Hp), H dx = none → dx ≠ a → H' a = some (exo a C (some dx)) → H' dx = some (exd dx (fs.zip ys).reverse) → (∀ b, b ≠ a → b ≠ dx → H' b = H b) → Q .non H'
theorem mk_use {C fI : Addr} {fs : List Str} {ys : List V} {H1 : Hp} {Q : VK} (T : EF K C fI fs) (hl : ys.length = fs.length) (k : ∀ (H' : Hp) (a d : Addr), Same H1 H' → H1 a = none → H' a = some (XO (.ref C) (some d) a) → H' d = some (.xd (fs.zip ys).reverse) → Q (.ref a) H') :
    ∀ a, H1 a = none → spI K C fI fs (.ref a :: ys) (upd H1 a (exo a C none)) (Kept a C Q) (fun _ _ _ => False) := by
  intro a na
  refine ⟨a, ys, rfl, hl, T, upd_same, fun dx H' nd ne e1 e2 rest => ⟨rfl, dx, _, e1, e2, k _ a dx (fun b o hb => ?_) na ?_ ?_⟩⟩
  · have b1 : b ≠ a := ne_of_none hb na
    rw [upd_ne ne] at nd
    have b2 : b ≠ dx := ne_of_none hb nd
    show made H' a dx C _ b = _
    unfold made
    rw [upd_ne b2, upd_ne b1, rest b b1 b2, upd_ne b1]
    exact hb
  · show made H' a dx C _ a = _
    unfold made
    rw [upd_ne (Ne.symm ne), upd_same]
  · show made H' a dx C _ dx = _
    unfold made
    rw [upd_same]

theorem scI0 : FnScope ["self", "place"] ["self", "place"] (defScope (sIni 1)) := ⟨rfl, rfl, rfl, by decide +kernel, rfl, by decide +kernel, by decide +kernel⟩
theorem ok_i0 {f C fI : Addr} {fd : FuncData} {k : Nat} (F : Fun K "__init__" "NoPlace.__init__" (sIni 1) f fd) : FnOk P w K mg base CX0 (k + 1) f fd ["self", "place"] (spI K C fI ["place"]) := by
  refine F.ok scI0 (fun vs H Q E h => ?_) (fun cdv A outer s H vs Q E hr h => ?_)
  · obtain ⟨a, ys, rfl, hl, _⟩ := h
    rw [List.length_cons, hl]
    rfl
  · obtain ⟨a, ys, rfl, hl, T, ea, q⟩ := h
    obtain ⟨x0, rfl⟩ : ∃ x0, ys = [x0] := by
      match ys, hl with
      | [x0], _ => exact ⟨x0, rfl⟩
    refine ⟨_, (pss_one (ps_ox (pv 0) (pv 1))), ?_⟩
    refine ⟨x0, rfl, .ref a, rfl, a, C, fI, rfl, T.o, T.no "place" (by simp), .inl ⟨ea, fun dx nd ne => ?_⟩⟩
    have p0 : (upd (upd H dx (exd dx [("place", x0)])) a (exo a C (some dx))) a = some (exo a C (some dx)) := upd_same
    have q0 : (upd (upd H dx (exd dx [("place", x0)])) a (exo a C (some dx))) dx = some (exd dx [("place", x0)]) := by
      rw [upd_ne ne, upd_same]
    have r0 : ∀ b, b ≠ a → b ≠ dx → (upd (upd H dx (exd dx [("place", x0)])) a (exo a C (some dx))) b = H b := fun b h1 h2 => by
      rw [upd_ne h1, upd_ne h2]
    generalize (upd (upd H dx (exd dx [("place", x0)])) a (exo a C (some dx))) = G0 at p0 q0 r0 ⊢
    exact q dx G0 nd ne p0 q0 r0
theorem scI1 : FnScope ["self", "number"] ["self", "number"] (defScope (sIni 2)) := ⟨rfl, rfl, rfl, by decide +kernel, rfl, by decide +kernel, by decide +kernel⟩
theorem ok_i1 {f C fI : Addr} {fd : FuncData} {k : Nat} (F : Fun K "__init__" "NoNumber.__init__" (sIni 2) f fd) : FnOk P w K mg base CX0 (k + 1) f fd ["self", "number"] (spI K C fI ["number"]) := by
  refine F.ok scI1 (fun vs H Q E h => ?_) (fun cdv A outer s H vs Q E hr h => ?_)
  · obtain ⟨a, ys, rfl, hl, _⟩ := h
    rw [List.length_cons, hl]
    rfl
  · obtain ⟨a, ys, rfl, hl, T, ea, q⟩ := h
    obtain ⟨x0, rfl⟩ : ∃ x0, ys = [x0] := by
      match ys, hl with
      | [x0], _ => exact ⟨x0, rfl⟩
    refine ⟨_, (pss_one (ps_ox (pv 0) (pv 1))), ?_⟩
    refine ⟨x0, rfl, .ref a, rfl, a, C, fI, rfl, T.o, T.no "number" (by simp), .inl ⟨ea, fun dx nd ne => ?_⟩⟩
    have p0 : (upd (upd H dx (exd dx [("number", x0)])) a (exo a C (some dx))) a = some (exo a C (some dx)) := upd_same
    have q0 : (upd (upd H dx (exd dx [("number", x0)])) a (exo a C (some dx))) dx = some (exd dx [("number", x0)]) := by
      rw [upd_ne ne, upd_same]
    have r0 : ∀ b, b ≠ a → b ≠ dx → (upd (upd H dx (exd dx [("number", x0)])) a (exo a C (some dx))) b = H b := fun b h1 h2 => by
      rw [upd_ne h1, upd_ne h2]
    generalize (upd (upd H dx (exd dx [("number", x0)])) a (exo a C (some dx))) = G0 at p0 q0 r0 ⊢
    exact q dx G0 nd ne p0 q0 r0
theorem scI3 : FnScope ["self", "end", "begin"] ["self", "end", "begin"] (defScope (sIni 4)) := ⟨rfl, rfl, rfl, by decide +kernel, rfl, by decide +kernel, by decide +kernel⟩
theorem ok_i3 {f C fI : Addr} {fd : FuncData} {k : Nat} (F : Fun K "__init__" "Apart.__init__" (sIni 4) f fd) : FnOk P w K mg base CX0 (k + 1) f fd ["self", "end", "begin"] (spI K C fI ["end", "begin"]) := by
  refine F.ok scI3 (fun vs H Q E h => ?_) (fun cdv A outer s H vs Q E hr h => ?_)
  · obtain ⟨a, ys, rfl, hl, _⟩ := h
    rw [List.length_cons, hl]
    rfl
  · obtain ⟨a, ys, rfl, hl, T, ea, q⟩ := h
    obtain ⟨x0, x1, rfl⟩ : ∃ x0 x1, ys = [x0, x1] := by
      match ys, hl with
      | [x0, x1], _ => exact ⟨x0, x1, rfl⟩
    refine ⟨_, (pss_cons (ps_ox (pv 0) (pv 1)) (pss_one (ps_ox (pv 0) (pv 2)))), ?_⟩
    refine ⟨x0, rfl, .ref a, rfl, a, C, fI, rfl, T.o, T.no "end" (by simp), .inl ⟨ea, fun dx nd ne => ?_⟩⟩
    have p0 : (upd (upd H dx (exd dx [("end", x0)])) a (exo a C (some dx))) a = some (exo a C (some dx)) := upd_same
    have q0 : (upd (upd H dx (exd dx [("end", x0)])) a (exo a C (some dx))) dx = some (exd dx [("end", x0)]) := by
      rw [upd_ne ne, upd_same]
    have r0 : ∀ b, b ≠ a → b ≠ dx → (upd (upd H dx (exd dx [("end", x0)])) a (exo a C (some dx))) b = H b := fun b h1 h2 => by
      rw [upd_ne h1, upd_ne h2]
    generalize (upd (upd H dx (exd dx [("end", x0)])) a (exo a C (some dx))) = G0 at p0 q0 r0 ⊢
    refine ⟨x1, rfl, .ref a, rfl, a, C, fI, rfl, T.o, T.no "begin" (by simp), .inr ⟨dx, [("end", x0)], p0, q0, (by show 1 ≤ 900; decide), ?_⟩⟩
    have p1 : (upd G0 dx (exd dx [("begin", x1), ("end", x0)])) a = some (exo a C (some dx)) := by
      rw [upd_ne (Ne.symm ne)]
      exact p0
    have q1 : (upd G0 dx (exd dx [("begin", x1), ("end", x0)])) dx = some (exd dx [("begin", x1), ("end", x0)]) := upd_same
    have r1 : ∀ b, b ≠ a → b ≠ dx → (upd G0 dx (exd dx [("begin", x1), ("end", x0)])) b = H b := fun b h1 h2 => by
      rw [upd_ne h2]
      exact r0 b h1 h2
    generalize upd G0 dx (exd dx [("begin", x1), ("end", x0)]) = G1 at p1 q1 r1 ⊢
    exact q dx G1 nd ne p1 q1 r1
theorem scI4 : FnScope ["self", "place"] ["self", "place"] (defScope (sIni 5)) := ⟨rfl, rfl, rfl, by decide +kernel, rfl, by decide +kernel, by decide +kernel⟩
theorem ok_i4 {f C fI : Addr} {fd : FuncData} {k : Nat} (F : Fun K "__init__" "Still.__init__" (sIni 5) f fd) : FnOk P w K mg base CX0 (k + 1) f fd ["self", "place"] (spI K C fI ["place"]) := by
  refine F.ok scI4 (fun vs H Q E h => ?_) (fun cdv A outer s H vs Q E hr h => ?_)
  · obtain ⟨a, ys, rfl, hl, _⟩ := h
    rw [List.length_cons, hl]
    rfl
  · obtain ⟨a, ys, rfl, hl, T, ea, q⟩ := h
    obtain ⟨x0, rfl⟩ : ∃ x0, ys = [x0] := by
      match ys, hl with
      | [x0], _ => exact ⟨x0, rfl⟩
    refine ⟨_, (pss_one (ps_ox (pv 0) (pv 1))), ?_⟩
    refine ⟨x0, rfl, .ref a, rfl, a, C, fI, rfl, T.o, T.no "place" (by simp), .inl ⟨ea, fun dx nd ne => ?_⟩⟩
    have p0 : (upd (upd H dx (exd dx [("place", x0)])) a (exo a C (some dx))) a = some (exo a C (some dx)) := upd_same
    have q0 : (upd (upd H dx (exd dx [("place", x0)])) a (exo a C (some dx))) dx = some (exd dx [("place", x0)]) := by
      rw [upd_ne ne, upd_same]
    have r0 : ∀ b, b ≠ a → b ≠ dx → (upd (upd H dx (exd dx [("place", x0)])) a (exo a C (some dx))) b = H b := fun b h1 h2 => by
      rw [upd_ne h1, upd_ne h2]
    generalize (upd (upd H dx (exd dx [("place", x0)])) a (exo a C (some dx))) = G0 at p0 q0 r0 ⊢
    exact q dx G0 nd ne p0 q0 r0
theorem scI5 : FnScope ["self", "one", "other", "number"] ["self", "one", "other", "number"] (defScope (sIni 6)) := ⟨rfl, rfl, rfl, by decide +kernel, rfl, by decide +kernel, by decide +kernel⟩
theorem ok_i5 {f C fI : Addr} {fd : FuncData} {k : Nat} (F : Fun K "__init__" "Below.__init__" (sIni 6) f fd) : FnOk P w K mg base CX0 (k + 1) f fd ["self", "one", "other", "number"] (spI K C fI ["one", "other", "number"]) := by
  refine F.ok scI5 (fun vs H Q E h => ?_) (fun cdv A outer s H vs Q E hr h => ?_)
  · obtain ⟨a, ys, rfl, hl, _⟩ := h
    rw [List.length_cons, hl]
    rfl
  · obtain ⟨a, ys, rfl, hl, T, ea, q⟩ := h
    obtain ⟨x0, x1, x2, rfl⟩ : ∃ x0 x1 x2, ys = [x0, x1, x2] := by
      match ys, hl with
      | [x0, x1, x2], _ => exact ⟨x0, x1, x2, rfl⟩
    refine ⟨_, (pss_cons (ps_ox (pv 0) (pv 1)) (pss_cons (ps_ox (pv 0) (pv 2)) (pss_one (ps_ox (pv 0) (pv 3))))), ?_⟩
    refine ⟨x0, rfl, .ref a, rfl, a, C, fI, rfl, T.o, T.no "one" (by simp), .inl ⟨ea, fun dx nd ne => ?_⟩⟩
    have p0 : (upd (upd H dx (exd dx [("one", x0)])) a (exo a C (some dx))) a = some (exo a C (some dx)) := upd_same
    have q0 : (upd (upd H dx (exd dx [("one", x0)])) a (exo a C (some dx))) dx = some (exd dx [("one", x0)]) := by
      rw [upd_ne ne, upd_same]
    have r0 : ∀ b, b ≠ a → b ≠ dx → (upd (upd H dx (exd dx [("one", x0)])) a (exo a C (some dx))) b = H b := fun b h1 h2 => by
      rw [upd_ne h1, upd_ne h2]
    generalize (upd (upd H dx (exd dx [("one", x0)])) a (exo a C (some dx))) = G0 at p0 q0 r0 ⊢
    refine ⟨x1, rfl, .ref a, rfl, a, C, fI, rfl, T.o, T.no "other" (by simp), .inr ⟨dx, [("one", x0)], p0, q0, (by show 1 ≤ 900; decide), ?_⟩⟩
    have p1 : (upd G0 dx (exd dx [("other", x1), ("one", x0)])) a = some (exo a C (some dx)) := by
      rw [upd_ne (Ne.symm ne)]
      exact p0
    have q1 : (upd G0 dx (exd dx [("other", x1), ("one", x0)])) dx = some (exd dx [("other", x1), ("one", x0)]) := upd_same
    have r1 : ∀ b, b ≠ a → b ≠ dx → (upd G0 dx (exd dx [("other", x1), ("one", x0)])) b = H b := fun b h1 h2 => by
      rw [upd_ne h2]
      exact r0 b h1 h2
    generalize upd G0 dx (exd dx [("other", x1), ("one", x0)]) = G1 at p1 q1 r1 ⊢
    refine ⟨x2, rfl, .ref a, rfl, a, C, fI, rfl, T.o, T.no "number" (by simp), .inr ⟨dx, [("other", x1), ("one", x0)], p1, q1, (by show 2 ≤ 900; decide), ?_⟩⟩
    have p2 : (upd G1 dx (exd dx [("number", x2), ("other", x1), ("one", x0)])) a = some (exo a C (some dx)) := by
      rw [upd_ne (Ne.symm ne)]
      exact p1
    have q2 : (upd G1 dx (exd dx [("number", x2), ("other", x1), ("one", x0)])) dx = some (exd dx [("number", x2), ("other", x1), ("one", x0)]) := upd_same
    have r2 : ∀ b, b ≠ a → b ≠ dx → (upd G1 dx (exd dx [("number", x2), ("other", x1), ("one", x0)])) b = H b := fun b h1 h2 => by
      rw [upd_ne h2]
      exact r1 b h1 h2
    generalize upd G1 dx (exd dx [("number", x2), ("other", x1), ("one", x0)]) = G2 at p2 q2 r2 ⊢
    exact q dx G2 nd ne p2 q2 r2
theorem scI6 : FnScope ["self", "one", "other", "lacking"] ["self", "one", "other", "lacking"] (defScope (sIni 7)) := ⟨rfl, rfl, rfl, by decide +kernel, rfl, by decide +kernel, by decide +kernel⟩
theorem ok_i6 {f C fI : Addr} {fd : FuncData} {k : Nat} (F : Fun K "__init__" "Short.__init__" (sIni 7) f fd) : FnOk P w K mg base CX0 (k + 1) f fd ["self", "one", "other", "lacking"] (spI K C fI ["one", "other", "lacking"]) := by
  refine F.ok scI6 (fun vs H Q E h => ?_) (fun cdv A outer s H vs Q E hr h => ?_)
  · obtain ⟨a, ys, rfl, hl, _⟩ := h
    rw [List.length_cons, hl]
    rfl
  · obtain ⟨a, ys, rfl, hl, T, ea, q⟩ := h
    obtain ⟨x0, x1, x2, rfl⟩ : ∃ x0 x1 x2, ys = [x0, x1, x2] := by
      match ys, hl with
      | [x0, x1, x2], _ => exact ⟨x0, x1, x2, rfl⟩
    refine ⟨_, (pss_cons (ps_ox (pv 0) (pv 1)) (pss_cons (ps_ox (pv 0) (pv 2)) (pss_one (ps_ox (pv 0) (pv 3))))), ?_⟩
    refine ⟨x0, rfl, .ref a, rfl, a, C, fI, rfl, T.o, T.no "one" (by simp), .inl ⟨ea, fun dx nd ne => ?_⟩⟩
    have p0 : (upd (upd H dx (exd dx [("one", x0)])) a (exo a C (some dx))) a = some (exo a C (some dx)) := upd_same
    have q0 : (upd (upd H dx (exd dx [("one", x0)])) a (exo a C (some dx))) dx = some (exd dx [("one", x0)]) := by
      rw [upd_ne ne, upd_same]
    have r0 : ∀ b, b ≠ a → b ≠ dx → (upd (upd H dx (exd dx [("one", x0)])) a (exo a C (some dx))) b = H b := fun b h1 h2 => by
      rw [upd_ne h1, upd_ne h2]
    generalize (upd (upd H dx (exd dx [("one", x0)])) a (exo a C (some dx))) = G0 at p0 q0 r0 ⊢
    refine ⟨x1, rfl, .ref a, rfl, a, C, fI, rfl, T.o, T.no "other" (by simp), .inr ⟨dx, [("one", x0)], p0, q0, (by show 1 ≤ 900; decide), ?_⟩⟩
    have p1 : (upd G0 dx (exd dx [("other", x1), ("one", x0)])) a = some (exo a C (some dx)) := by
      rw [upd_ne (Ne.symm ne)]
      exact p0
    have q1 : (upd G0 dx (exd dx [("other", x1), ("one", x0)])) dx = some (exd dx [("other", x1), ("one", x0)]) := upd_same
    have r1 : ∀ b, b ≠ a → b ≠ dx → (upd G0 dx (exd dx [("other", x1), ("one", x0)])) b = H b := fun b h1 h2 => by
      rw [upd_ne h2]
      exact r0 b h1 h2
    generalize upd G0 dx (exd dx [("other", x1), ("one", x0)]) = G1 at p1 q1 r1 ⊢
    refine ⟨x2, rfl, .ref a, rfl, a, C, fI, rfl, T.o, T.no "lacking" (by simp), .inr ⟨dx, [("other", x1), ("one", x0)], p1, q1, (by show 2 ≤ 900; decide), ?_⟩⟩
    have p2 : (upd G1 dx (exd dx [("lacking", x2), ("other", x1), ("one", x0)])) a = some (exo a C (some dx)) := by
      rw [upd_ne (Ne.symm ne)]
      exact p1
    have q2 : (upd G1 dx (exd dx [("lacking", x2), ("other", x1), ("one", x0)])) dx = some (exd dx [("lacking", x2), ("other", x1), ("one", x0)]) := upd_same
    have r2 : ∀ b, b ≠ a → b ≠ dx → (upd G1 dx (exd dx [("lacking", x2), ("other", x1), ("one", x0)])) b = H b := fun b h1 h2 => by
      rw [upd_ne h2]
      exact r1 b h1 h2
    generalize upd G1 dx (exd dx [("lacking", x2), ("other", x1), ("one", x0)]) = G2 at p2 q2 r2 ⊢
    exact q dx G2 nd ne p2 q2 r2
theorem scI7 : FnScope ["self", "number"] ["self", "number"] (defScope (sIni 8)) := ⟨rfl, rfl, rfl, by decide +kernel, rfl, by decide +kernel, by decide +kernel⟩
theorem ok_i7 {f C fI : Addr} {fd : FuncData} {k : Nat} (F : Fun K "__init__" "NoSize.__init__" (sIni 8) f fd) : FnOk P w K mg base CX0 (k + 1) f fd ["self", "number"] (spI K C fI ["number"]) := by
  refine F.ok scI7 (fun vs H Q E h => ?_) (fun cdv A outer s H vs Q E hr h => ?_)
  · obtain ⟨a, ys, rfl, hl, _⟩ := h
    rw [List.length_cons, hl]
    rfl
  · obtain ⟨a, ys, rfl, hl, T, ea, q⟩ := h
    obtain ⟨x0, rfl⟩ : ∃ x0, ys = [x0] := by
      match ys, hl with
      | [x0], _ => exact ⟨x0, rfl⟩
    refine ⟨_, (pss_one (ps_ox (pv 0) (pv 1))), ?_⟩
    refine ⟨x0, rfl, .ref a, rfl, a, C, fI, rfl, T.o, T.no "number" (by simp), .inl ⟨ea, fun dx nd ne => ?_⟩⟩
    have p0 : (upd (upd H dx (exd dx [("number", x0)])) a (exo a C (some dx))) a = some (exo a C (some dx)) := upd_same
    have q0 : (upd (upd H dx (exd dx [("number", x0)])) a (exo a C (some dx))) dx = some (exd dx [("number", x0)]) := by
      rw [upd_ne ne, upd_same]
    have r0 : ∀ b, b ≠ a → b ≠ dx → (upd (upd H dx (exd dx [("number", x0)])) a (exo a C (some dx))) b = H b := fun b h1 h2 => by
      rw [upd_ne h1, upd_ne h2]
    generalize (upd (upd H dx (exd dx [("number", x0)])) a (exo a C (some dx))) = G0 at p0 q0 r0 ⊢
    exact q dx G0 nd ne p0 q0 r0
theorem scI10 : FnScope ["self", "one", "other"] ["self", "one", "other"] (defScope (sIni 11)) := ⟨rfl, rfl, rfl, by decide +kernel, rfl, by decide +kernel, by decide +kernel⟩
theorem ok_i10 {f C fI : Addr} {fd : FuncData} {k : Nat} (F : Fun K "__init__" "NotCounted.__init__" (sIni 11) f fd) : FnOk P w K mg base CX0 (k + 1) f fd ["self", "one", "other"] (spI K C fI ["one", "other"]) := by
  refine F.ok scI10 (fun vs H Q E h => ?_) (fun cdv A outer s H vs Q E hr h => ?_)
  · obtain ⟨a, ys, rfl, hl, _⟩ := h
    rw [List.length_cons, hl]
    rfl
  · obtain ⟨a, ys, rfl, hl, T, ea, q⟩ := h
    obtain ⟨x0, x1, rfl⟩ : ∃ x0 x1, ys = [x0, x1] := by
      match ys, hl with
      | [x0, x1], _ => exact ⟨x0, x1, rfl⟩
    refine ⟨_, (pss_cons (ps_ox (pv 0) (pv 1)) (pss_one (ps_ox (pv 0) (pv 2)))), ?_⟩
    refine ⟨x0, rfl, .ref a, rfl, a, C, fI, rfl, T.o, T.no "one" (by simp), .inl ⟨ea, fun dx nd ne => ?_⟩⟩
    have p0 : (upd (upd H dx (exd dx [("one", x0)])) a (exo a C (some dx))) a = some (exo a C (some dx)) := upd_same
    have q0 : (upd (upd H dx (exd dx [("one", x0)])) a (exo a C (some dx))) dx = some (exd dx [("one", x0)]) := by
      rw [upd_ne ne, upd_same]
    have r0 : ∀ b, b ≠ a → b ≠ dx → (upd (upd H dx (exd dx [("one", x0)])) a (exo a C (some dx))) b = H b := fun b h1 h2 => by
      rw [upd_ne h1, upd_ne h2]
    generalize (upd (upd H dx (exd dx [("one", x0)])) a (exo a C (some dx))) = G0 at p0 q0 r0 ⊢
    refine ⟨x1, rfl, .ref a, rfl, a, C, fI, rfl, T.o, T.no "other" (by simp), .inr ⟨dx, [("one", x0)], p0, q0, (by show 1 ≤ 900; decide), ?_⟩⟩
    have p1 : (upd G0 dx (exd dx [("other", x1), ("one", x0)])) a = some (exo a C (some dx)) := by
      rw [upd_ne (Ne.symm ne)]
      exact p0
    have q1 : (upd G0 dx (exd dx [("other", x1), ("one", x0)])) dx = some (exd dx [("other", x1), ("one", x0)]) := upd_same
    have r1 : ∀ b, b ≠ a → b ≠ dx → (upd G0 dx (exd dx [("other", x1), ("one", x0)])) b = H b := fun b h1 h2 => by
      rw [upd_ne h2]
      exact r0 b h1 h2
    generalize upd G0 dx (exd dx [("other", x1), ("one", x0)]) = G1 at p1 q1 r1 ⊢
    exact q dx G1 nd ne p1 q1 r1
theorem scI11 : FnScope ["self", "most"] ["self", "most"] (defScope (sIni 12)) := ⟨rfl, rfl, rfl, by decide +kernel, rfl, by decide +kernel, by decide +kernel⟩
theorem ok_i11 {f C fI : Addr} {fd : FuncData} {k : Nat} (F : Fun K "__init__" "TooMany.__init__" (sIni 12) f fd) : FnOk P w K mg base CX0 (k + 1) f fd ["self", "most"] (spI K C fI ["most"]) := by
  refine F.ok scI11 (fun vs H Q E h => ?_) (fun cdv A outer s H vs Q E hr h => ?_)
  · obtain ⟨a, ys, rfl, hl, _⟩ := h
    rw [List.length_cons, hl]
    rfl
  · obtain ⟨a, ys, rfl, hl, T, ea, q⟩ := h
    obtain ⟨x0, rfl⟩ : ∃ x0, ys = [x0] := by
      match ys, hl with
      | [x0], _ => exact ⟨x0, rfl⟩
    refine ⟨_, (pss_one (ps_ox (pv 0) (pv 1))), ?_⟩
    refine ⟨x0, rfl, .ref a, rfl, a, C, fI, rfl, T.o, T.no "most" (by simp), .inl ⟨ea, fun dx nd ne => ?_⟩⟩
    have p0 : (upd (upd H dx (exd dx [("most", x0)])) a (exo a C (some dx))) a = some (exo a C (some dx)) := upd_same
    have q0 : (upd (upd H dx (exd dx [("most", x0)])) a (exo a C (some dx))) dx = some (exd dx [("most", x0)]) := by
      rw [upd_ne ne, upd_same]
    have r0 : ∀ b, b ≠ a → b ≠ dx → (upd (upd H dx (exd dx [("most", x0)])) a (exo a C (some dx))) b = H b := fun b h1 h2 => by
      rw [upd_ne h1, upd_ne h2]
    generalize (upd (upd H dx (exd dx [("most", x0)])) a (exo a C (some dx))) = G0 at p0 q0 r0 ⊢
    exact q dx G0 nd ne p0 q0 r0
theorem scI13 : FnScope ["self", "place"] ["self", "place"] (defScope (sIni 14)) := ⟨rfl, rfl, rfl, by decide +kernel, rfl, by decide +kernel, by decide +kernel⟩
theorem ok_i13 {f C fI : Addr} {fd : FuncData} {k : Nat} (F : Fun K "__init__" "BadLists.__init__" (sIni 14) f fd) : FnOk P w K mg base CX0 (k + 1) f fd ["self", "place"] (spI K C fI ["place"]) := by
  refine F.ok scI13 (fun vs H Q E h => ?_) (fun cdv A outer s H vs Q E hr h => ?_)
  · obtain ⟨a, ys, rfl, hl, _⟩ := h
    rw [List.length_cons, hl]
    rfl
  · obtain ⟨a, ys, rfl, hl, T, ea, q⟩ := h
    obtain ⟨x0, rfl⟩ : ∃ x0, ys = [x0] := by
      match ys, hl with
      | [x0], _ => exact ⟨x0, rfl⟩
    refine ⟨_, (pss_one (ps_ox (pv 0) (pv 1))), ?_⟩
    refine ⟨x0, rfl, .ref a, rfl, a, C, fI, rfl, T.o, T.no "place" (by simp), .inl ⟨ea, fun dx nd ne => ?_⟩⟩
    have p0 : (upd (upd H dx (exd dx [("place", x0)])) a (exo a C (some dx))) a = some (exo a C (some dx)) := upd_same
    have q0 : (upd (upd H dx (exd dx [("place", x0)])) a (exo a C (some dx))) dx = some (exd dx [("place", x0)]) := by
      rw [upd_ne ne, upd_same]
    have r0 : ∀ b, b ≠ a → b ≠ dx → (upd (upd H dx (exd dx [("place", x0)])) a (exo a C (some dx))) b = H b := fun b h1 h2 => by
      rw [upd_ne h1, upd_ne h2]
    generalize (upd (upd H dx (exd dx [("place", x0)])) a (exo a C (some dx))) = G0 at p0 q0 r0 ⊢
    exact q dx G0 nd ne p0 q0 r0
theorem scI15 : FnScope ["self", "number"] ["self", "number"] (defScope (sIni 16)) := ⟨rfl, rfl, rfl, by decide +kernel, rfl, by decide +kernel, by decide +kernel⟩
theorem ok_i15 {f C fI : Addr} {fd : FuncData} {k : Nat} (F : Fun K "__init__" "BadLine.__init__" (sIni 16) f fd) : FnOk P w K mg base CX0 (k + 1) f fd ["self", "number"] (spI K C fI ["number"]) := by
  refine F.ok scI15 (fun vs H Q E h => ?_) (fun cdv A outer s H vs Q E hr h => ?_)
  · obtain ⟨a, ys, rfl, hl, _⟩ := h
    rw [List.length_cons, hl]
    rfl
  · obtain ⟨a, ys, rfl, hl, T, ea, q⟩ := h
    obtain ⟨x0, rfl⟩ : ∃ x0, ys = [x0] := by
      match ys, hl with
      | [x0], _ => exact ⟨x0, rfl⟩
    refine ⟨_, (pss_one (ps_ox (pv 0) (pv 1))), ?_⟩
    refine ⟨x0, rfl, .ref a, rfl, a, C, fI, rfl, T.o, T.no "number" (by simp), .inl ⟨ea, fun dx nd ne => ?_⟩⟩
    have p0 : (upd (upd H dx (exd dx [("number", x0)])) a (exo a C (some dx))) a = some (exo a C (some dx)) := upd_same
    have q0 : (upd (upd H dx (exd dx [("number", x0)])) a (exo a C (some dx))) dx = some (exd dx [("number", x0)]) := by
      rw [upd_ne ne, upd_same]
    have r0 : ∀ b, b ≠ a → b ≠ dx → (upd (upd H dx (exd dx [("number", x0)])) a (exo a C (some dx))) b = H b := fun b h1 h2 => by
      rw [upd_ne h1, upd_ne h2]
    generalize (upd (upd H dx (exd dx [("number", x0)])) a (exo a C (some dx))) = G0 at p0 q0 r0 ⊢
    exact q dx G0 nd ne p0 q0 r0
end
def kx1 {α : Type} : List α → List α → List α
  | [s], [x] => [s, x]
  | _, _ => []
def kx2 {α : Type} : List α → List α → List α
  | [s], [x, y] => [s, y, x]
  | _, _ => []
def kx3 {α : Type} : List α → List α → List α
  | [s], [x, y, z] => [s, z, y, x]
  | _, _ => []
def kx4 {α : Type} : List α → List α → List α
  | [s], [x, y, z] => [s, y, z, x]
  | _, _ => []
def kx5 {α : Type} : List α → List α → List α
  | [s], [x, y, z] => [s, x, y, z]
  | _, _ => []
section
variable {K : PySem.W.Frag}
theorem kbn1 {x qual : Str} {st : Stmt} {f : Addr} {fd : FuncData} {sf k0 : Str} (F : Fun K x qual st f fd)
    (h : ∀ (kV doc pm : Value) (an : Option Addr) (cdv ct self u0 : Value), bindArgs (PySem.W.fnOf x qual (defArgs st) (defBody st) (defScope st) .none kV doc pm an cdv ct) ⟨[self], [(k0, u0)]⟩ = pure [(sf, self), (k0, u0)]) : KBn K fd [sf, k0] 1 [k0] kx1 kx1 := by
  obtain ⟨oc, od, kV, doc, pm, an, cdv, ct, osl, rfl, lk, hcd⟩ := F.ex
  refine ⟨fun s us ws _ hu hw => ?_, fun r1 r2 => ?_⟩
  · match us, ws, hu, hw with
    | [self], [u0], _, _ => exact .of_eq (h kV doc pm an cdv ct self u0)
  · match r1, r2 with
    | .cons a0 .nil, .cons b0 .nil => exact .cons a0 (.cons b0 .nil)
    | .nil, _ => exact .nil
    | .cons _ (.cons _ _), _ => exact .nil
    | .cons _ .nil, .nil => exact .nil
    | .cons _ .nil, .cons _ (.cons _ _) => exact .nil
theorem kbn2 {x qual : Str} {st : Stmt} {f : Addr} {fd : FuncData} {sf k0 k1 : Str} (F : Fun K x qual st f fd)
    (h : ∀ (kV doc pm : Value) (an : Option Addr) (cdv ct self u0 u1 : Value), bindArgs (PySem.W.fnOf x qual (defArgs st) (defBody st) (defScope st) .none kV doc pm an cdv ct) ⟨[self], [(k0, u0), (k1, u1)]⟩ = pure [(sf, self), (k1, u1), (k0, u0)]) : KBn K fd [sf, k1, k0] 1 [k0, k1] kx2 kx2 := by
  obtain ⟨oc, od, kV, doc, pm, an, cdv, ct, osl, rfl, lk, hcd⟩ := F.ex
  refine ⟨fun s us ws _ hu hw => ?_, fun r1 r2 => ?_⟩
  · match us, ws, hu, hw with
    | [self], [u0, u1], _, _ => exact .of_eq (h kV doc pm an cdv ct self u0 u1)
  · match r1, r2 with
    | .cons a0 .nil, .cons b0 (.cons b1 .nil) => exact .cons a0 (.cons b1 (.cons b0 .nil))
    | .nil, _ => exact .nil
    | .cons _ (.cons _ _), _ => exact .nil
    | .cons _ .nil, .nil => exact .nil
    | .cons _ .nil, .cons _ (.nil) => exact .nil
    | .cons _ .nil, .cons _ (.cons _ (.cons _ _)) => exact .nil
theorem kbn3 {x qual : Str} {st : Stmt} {f : Addr} {fd : FuncData} {sf k0 k1 k2 : Str} (F : Fun K x qual st f fd)
    (h : ∀ (kV doc pm : Value) (an : Option Addr) (cdv ct self u0 u1 u2 : Value), bindArgs (PySem.W.fnOf x qual (defArgs st) (defBody st) (defScope st) .none kV doc pm an cdv ct) ⟨[self], [(k0, u0), (k1, u1), (k2, u2)]⟩ = pure [(sf, self), (k2, u2), (k1, u1), (k0, u0)]) : KBn K fd [sf, k2, k1, k0] 1 [k0, k1, k2] kx3 kx3 := by
  obtain ⟨oc, od, kV, doc, pm, an, cdv, ct, osl, rfl, lk, hcd⟩ := F.ex
  refine ⟨fun s us ws _ hu hw => ?_, fun r1 r2 => ?_⟩
  · match us, ws, hu, hw with
    | [self], [u0, u1, u2], _, _ => exact .of_eq (h kV doc pm an cdv ct self u0 u1 u2)
  · match r1, r2 with
    | .cons a0 .nil, .cons b0 (.cons b1 (.cons b2 .nil)) => exact .cons a0 (.cons b2 (.cons b1 (.cons b0 .nil)))
    | .nil, _ => exact .nil
    | .cons _ (.cons _ _), _ => exact .nil
    | .cons _ .nil, .nil => exact .nil
    | .cons _ .nil, .cons _ (.nil) => exact .nil
    | .cons _ .nil, .cons _ (.cons _ (.nil)) => exact .nil
    | .cons _ .nil, .cons _ (.cons _ (.cons _ (.cons _ _))) => exact .nil
theorem kbn4 {x qual : Str} {st : Stmt} {f : Addr} {fd : FuncData} {sf k0 k1 k2 : Str} (F : Fun K x qual st f fd)
    (h : ∀ (kV doc pm : Value) (an : Option Addr) (cdv ct self u0 u1 u2 : Value), bindArgs (PySem.W.fnOf x qual (defArgs st) (defBody st) (defScope st) .none kV doc pm an cdv ct) ⟨[self], [(k0, u0), (k1, u1), (k2, u2)]⟩ = pure [(sf, self), (k1, u1), (k2, u2), (k0, u0)]) : KBn K fd [sf, k1, k2, k0] 1 [k0, k1, k2] kx4 kx4 := by
  obtain ⟨oc, od, kV, doc, pm, an, cdv, ct, osl, rfl, lk, hcd⟩ := F.ex
  refine ⟨fun s us ws _ hu hw => ?_, fun r1 r2 => ?_⟩
  · match us, ws, hu, hw with
    | [self], [u0, u1, u2], _, _ => exact .of_eq (h kV doc pm an cdv ct self u0 u1 u2)
  · match r1, r2 with
    | .cons a0 .nil, .cons b0 (.cons b1 (.cons b2 .nil)) => exact .cons a0 (.cons b1 (.cons b2 (.cons b0 .nil)))
    | .nil, _ => exact .nil
    | .cons _ (.cons _ _), _ => exact .nil
    | .cons _ .nil, .nil => exact .nil
    | .cons _ .nil, .cons _ (.nil) => exact .nil
    | .cons _ .nil, .cons _ (.cons _ (.nil)) => exact .nil
    | .cons _ .nil, .cons _ (.cons _ (.cons _ (.cons _ _))) => exact .nil
theorem kbn5 {x qual : Str} {st : Stmt} {f : Addr} {fd : FuncData} {sf k0 k1 k2 : Str} (F : Fun K x qual st f fd)
    (h : ∀ (kV doc pm : Value) (an : Option Addr) (cdv ct self u0 u1 u2 : Value), bindArgs (PySem.W.fnOf x qual (defArgs st) (defBody st) (defScope st) .none kV doc pm an cdv ct) ⟨[self], [(k0, u0), (k1, u1), (k2, u2)]⟩ = pure [(sf, self), (k0, u0), (k1, u1), (k2, u2)]) : KBn K fd [sf, k0, k1, k2] 1 [k0, k1, k2] kx5 kx5 := by
  obtain ⟨oc, od, kV, doc, pm, an, cdv, ct, osl, rfl, lk, hcd⟩ := F.ex
  refine ⟨fun s us ws _ hu hw => ?_, fun r1 r2 => ?_⟩
  · match us, ws, hu, hw with
    | [self], [u0, u1, u2], _, _ => exact .of_eq (h kV doc pm an cdv ct self u0 u1 u2)
  · match r1, r2 with
    | .cons a0 .nil, .cons b0 (.cons b1 (.cons b2 .nil)) => exact .cons a0 (.cons b0 (.cons b1 (.cons b2 .nil)))
    | .nil, _ => exact .nil
    | .cons _ (.cons _ _), _ => exact .nil
    | .cons _ .nil, .nil => exact .nil
    | .cons _ .nil, .cons _ (.nil) => exact .nil
    | .cons _ .nil, .cons _ (.cons _ (.nil)) => exact .nil
    | .cons _ .nil, .cons _ (.cons _ (.cons _ (.cons _ _))) => exact .nil
end
end K97
namespace K97
open PySem PySem.Spec PyProof.Rows L2 CS RZ
theorem pe_imp {X : Cx} {e : Expr} {t t' : TE} (h : PE X e t) (k : ∀ σ H Q, t' σ H Q → t σ H Q) : PE X e t' := ⟨fun pins s σ H Q I z => h.run pins s σ H Q I (k σ H Q z)⟩
section
variable {P : Program} {w : World} {K : PySem.W.Frag} {mg : Str → Option Value} {base : Heap} {cs : List Addr}
/-- the names of the classes -/
structure NT (mg : Str → Option Value) (cs : List Addr) : Prop where
  m0 : mg "NoPlace" = some (.ref (cl cs 0))
  m1 : mg "NoNumber" = some (.ref (cl cs 1))
  m2 : mg "NoJourney" = some (.ref (cl cs 2))
  m3 : mg "Apart" = some (.ref (cl cs 3))
  m4 : mg "Still" = some (.ref (cl cs 4))
  m5 : mg "Below" = some (.ref (cl cs 5))
  m6 : mg "Short" = some (.ref (cl cs 6))
  m7 : mg "NoSize" = some (.ref (cl cs 7))
  m8 : mg "Unlike" = some (.ref (cl cs 8))
  m9 : mg "NoTree" = some (.ref (cl cs 9))
  m10 : mg "NotCounted" = some (.ref (cl cs 10))
  m11 : mg "TooMany" = some (.ref (cl cs 11))
  m12 : mg "BadTable" = some (.ref (cl cs 12))
  m13 : mg "BadLists" = some (.ref (cl cs 13))
  m14 : mg "BadText" = some (.ref (cl cs 14))
  m15 : mg "BadLine" = some (.ref (cl cs 15))
  m16 : mg "NothingDone" = some (.ref (cl cs 16))
/-! ### drawn values -/
def spValue : Sp := fun vs H Q _ => ∃ (b : Addr) (n : Nat), vs = [.ref b] ∧ BoxAt H b n ∧ n ≤ 900000 ∧ ∀ (H' : Hp) (z : Str), Keep b H H' → BoxAt H' b (n + 1) → Q (.str z) H'
def spMuch : Sp := fun vs H Q _ => ∃ (b : Addr) (n : Nat), vs = [.ref b] ∧ BoxAt H b n ∧ n ≤ 900000 ∧ ∀ (H' : Hp) (c : Int), Keep b H H' → BoxAt H' b (n + 1) → Q (.int c) H'
theorem scValue : FnScope ["_law_box_here"] ["_law_box_here"] (defScope sValue) := ⟨rfl, rfl, rfl, by decide +kernel, rfl, by decide +kernel, by decide +kernel⟩
theorem scMuch : FnScope ["_law_box_here"] ["_law_box_here"] (defScope sMuch) := ⟨rfl, rfl, rfl, by decide +kernel, rfl, by decide +kernel, by decide +kernel⟩
theorem box_ne {H : Hp} {b t : Addr} {n : Nat} (h : BoxAt H b n) (nt : H t = none) : t ≠ b := fun z => by
  obtain ⟨_, _, _, e, _⟩ := h
  rw [← z, nt] at e
  cases e
theorem ok_value {f g : Addr} {fd gd : FuncData} {k : Nat} (F : Fun K "_law_value" "_law_value" sValue f fd) (G : FnOk P w K mg base CX0 k g gd ["_law_box_here", "_law_some"] (spOf K)) (bG : Binds K gd ["_law_box_here", "_law_some"] []) (kG : PySem.W.keepIn K (.ref g) = true) (mG : mg "_law_of" = some (.ref g)) :
    FnOk P w K mg base CX0 (k + 1) f fd ["_law_box_here"] spValue := by
  refine F.ok scValue (fun vs H Q E h => ?_) (fun cdv A outer s H vs Q E hr h => ?_)
  · obtain ⟨b, n, rfl, _⟩ := h
    rfl
  · obtain ⟨b, n, rfl, hb, hn, q⟩ := h
    refine ⟨_, pss_one (ps_ret (pe_call G hr (by rfl) mG kG bG .nil pass0 (pa_cons (pv 0) (pa_cons (pe_lst (pa_cons pe_str (pa_cons pe_str (pa_cons pe_str (pa_cons pe_str (pa_cons pe_str pa_nil)))))) pa_nil)))), ?_⟩
    refine ⟨.ref b, rfl, (by show 5 ≤ sizeLine; decide), fun t nt => ?_⟩
    have s1 := same_upd (o := .lst (["a", "hall", "zz", "abcdefgh", "b"].map fun z => V.str (Str.ofString z))) nt
    refine ⟨b, t, n, ["a", "hall", "zz", "abcdefgh", "b"].map fun z => V.str (Str.ofString z), rfl, hb.same s1, by omega, box_ne hb nt, SqL.of upd_same, by decide, by decide, fun H' i x k b' hx => ?_⟩
    obtain ⟨z, _, rfl⟩ := List.mem_map.mp (List.mem_of_getElem? hx)
    exact q H' _ ((Keep.of_same s1).trans k) b'
theorem ok_much {f g : Addr} {fd gd : FuncData} {k : Nat} (F : Fun K "_law_much" "_law_much" sMuch f fd) (G : FnOk P w K mg base CX0 k g gd ["_law_box_here", "_law_some"] (spOf K)) (bG : Binds K gd ["_law_box_here", "_law_some"] []) (kG : PySem.W.keepIn K (.ref g) = true) (mG : mg "_law_of" = some (.ref g)) :
    FnOk P w K mg base CX0 (k + 1) f fd ["_law_box_here"] spMuch := by
  refine F.ok scMuch (fun vs H Q E h => ?_) (fun cdv A outer s H vs Q E hr h => ?_)
  · obtain ⟨b, n, rfl, _⟩ := h
    rfl
  · obtain ⟨b, n, rfl, hb, hn, q⟩ := h
    refine ⟨_, pss_one (ps_ret (pe_call G hr (by rfl) mG kG bG .nil pass0 (pa_cons (pv 0) (pa_cons (pe_lst (pa_cons pe_int (pa_cons pe_int (pa_cons pe_int (pa_cons (pe_un un_neg pe_int) (pa_cons pe_int (pa_cons (pe_op op_pow pe_int pe_int) pa_nil))))))) pa_nil)))), ?_⟩
    refine ⟨.ref b, rfl, 3, rfl, 10, 30, rfl, rfl, ⟨by decide, by decide, by decide⟩, (by show 6 ≤ sizeLine; decide), fun t nt => ?_⟩
    have s1 := same_upd (o := .lst ([0, 1, 7, -3, 60, 10 ^ Int.toNat 30].map V.int)) nt
    refine ⟨b, t, n, [0, 1, 7, -3, 60, 10 ^ Int.toNat 30].map V.int, rfl, hb.same s1, by omega, box_ne hb nt, SqL.of upd_same, by simp, by simp, fun H' i x k b' hx => ?_⟩
    obtain ⟨z, _, rfl⟩ := List.mem_map.mp (List.mem_of_getElem? hx)
    exact q H' _ ((Keep.of_same s1).trans k) b'
/-! ### of how many classes an error is -/
def tIs (K : PySem.W.Frag) (cs : List Addr) (j : Nat) : TE := fun σ H Q => ∃ (v : V) (i : Nat), σ[0]? = some (some v) ∧ Er0 K cs H v i ∧ Q (.bl (decide (i = j))) H
theorem is_use (T : ET K cs) (j : Nat) (hj : j < 17) (σ : L2.St) (H : Hp) (Q : VK) (h : tIs K cs j σ H Q) : tCB (rIsX K) (tCons (tVar 0) (tCons (tC (.ref (cl cs j))) tNil)) σ H Q := by
  obtain ⟨v, i, e, ⟨a, d, rfl, hi, ea, ed⟩, q⟩ := h
  exact ⟨.ref a, e, a, cl cs i, d, _, _, _, rfl, ea, ed, T.csx i hi, fun _ r => r, T.kit i j hi hj, q⟩
def spClasses (K : PySem.W.Frag) (cs : List Addr) : Sp := fun vs H Q _ => ∃ (v : V) (i : Nat), vs = [v] ∧ Er0 K cs H v i ∧ ∀ H' : Hp, Same H H' → Q (.int 1) H'
theorem scClasses : FnScope ["_law_e", "_law_found"] ["_law_e"] (defScope sClasses) := ⟨rfl, rfl, rfl, by decide +kernel, rfl, by decide +kernel, by decide +kernel⟩
theorem one_class : ∀ i, i < 17 → (([decide (i = 3), decide (i = 15), decide (i = 13), decide (i = 12), decide (i = 14), decide (i = 5), decide (i = 2), decide (i = 1), decide (i = 0), decide (i = 7), decide (i = 10), decide (i = 16), decide (i = 9), decide (i = 6), decide (i = 4)] : List Bool).count true : Int) + (([decide (i = 11), decide (i = 8)] : List Bool).count true : Int) = 1 := by decide
theorem cat_use {l m : Addr} {xs ys : List V} {H : Hp} {Q : VK} (e1 : H l = some (.lst xs)) (e2 : H m = some (.lst ys)) (hl : xs.length + ys.length ≤ 1000) (h : ∀ (H' : Hp) (p : Addr), Same H H' → H p = none → H' p = some (.lst (xs ++ ys)) → Q (.ref p) H') : rCat (.ref l) (.ref m) H Q :=
  ⟨l, m, xs, ys, rfl, rfl, e1, e2, Nat.le_of_lt (small1000 hl), fun p np => h _ p (same_upd np) np upd_same⟩
theorem ok_classes {f : Addr} {fd : FuncData} {k : Nat} (F : Fun K "_law_classes" "_law_classes" sClasses f fd) (T : ET K cs) (N : NT mg cs) (mI : mg "isinstance" = none) : FnOk P w K mg base CX0 (k + 1) f fd ["_law_e"] (spClasses K cs) := by
  refine F.ok scClasses (fun vs H Q E h => ?_) (fun cdv A outer s H vs Q E hr h => ?_)
  · obtain ⟨v, i, rfl, _⟩ := h
    rfl
  · obtain ⟨v, i, rfl, er, q⟩ := h
    refine ⟨_, pss_cons (ps_set (i := 1) scClasses.nd rfl (.inl rfl) (pe_lst (pa_cons (pe_imp (t' := tIs K cs 3) (pe_callB call_isX (by rfl) mI (by decide +kernel) (pa_cons (pv 0) (pa_cons (pe_glob (v := .ref (cl cs 3)) (by rfl) (N.m3) rfl) pa_nil))) (is_use T 3 (by decide))) (pa_cons (pe_imp (t' := tIs K cs 15) (pe_callB call_isX (by rfl) mI (by decide +kernel) (pa_cons (pv 0) (pa_cons (pe_glob (v := .ref (cl cs 15)) (by rfl) (N.m15) rfl) pa_nil))) (is_use T 15 (by decide))) (pa_cons (pe_imp (t' := tIs K cs 13) (pe_callB call_isX (by rfl) mI (by decide +kernel) (pa_cons (pv 0) (pa_cons (pe_glob (v := .ref (cl cs 13)) (by rfl) (N.m13) rfl) pa_nil))) (is_use T 13 (by decide))) (pa_cons (pe_imp (t' := tIs K cs 12) (pe_callB call_isX (by rfl) mI (by decide +kernel) (pa_cons (pv 0) (pa_cons (pe_glob (v := .ref (cl cs 12)) (by rfl) (N.m12) rfl) pa_nil))) (is_use T 12 (by decide))) pa_nil))))))
      (pss_cons (ps_set (i := 1) scClasses.nd rfl (.inl rfl) (pe_op op_cat (pv 1) (pe_lst (pa_cons (pe_imp (t' := tIs K cs 14) (pe_callB call_isX (by rfl) mI (by decide +kernel) (pa_cons (pv 0) (pa_cons (pe_glob (v := .ref (cl cs 14)) (by rfl) (N.m14) rfl) pa_nil))) (is_use T 14 (by decide))) (pa_cons (pe_imp (t' := tIs K cs 5) (pe_callB call_isX (by rfl) mI (by decide +kernel) (pa_cons (pv 0) (pa_cons (pe_glob (v := .ref (cl cs 5)) (by rfl) (N.m5) rfl) pa_nil))) (is_use T 5 (by decide))) (pa_cons (pe_imp (t' := tIs K cs 2) (pe_callB call_isX (by rfl) mI (by decide +kernel) (pa_cons (pv 0) (pa_cons (pe_glob (v := .ref (cl cs 2)) (by rfl) (N.m2) rfl) pa_nil))) (is_use T 2 (by decide))) pa_nil))))))
      (pss_cons (ps_set (i := 1) scClasses.nd rfl (.inl rfl) (pe_op op_cat (pv 1) (pe_lst (pa_cons (pe_imp (t' := tIs K cs 1) (pe_callB call_isX (by rfl) mI (by decide +kernel) (pa_cons (pv 0) (pa_cons (pe_glob (v := .ref (cl cs 1)) (by rfl) (N.m1) rfl) pa_nil))) (is_use T 1 (by decide))) (pa_cons (pe_imp (t' := tIs K cs 0) (pe_callB call_isX (by rfl) mI (by decide +kernel) (pa_cons (pv 0) (pa_cons (pe_glob (v := .ref (cl cs 0)) (by rfl) (N.m0) rfl) pa_nil))) (is_use T 0 (by decide))) (pa_cons (pe_imp (t' := tIs K cs 7) (pe_callB call_isX (by rfl) mI (by decide +kernel) (pa_cons (pv 0) (pa_cons (pe_glob (v := .ref (cl cs 7)) (by rfl) (N.m7) rfl) pa_nil))) (is_use T 7 (by decide))) (pa_cons (pe_imp (t' := tIs K cs 10) (pe_callB call_isX (by rfl) mI (by decide +kernel) (pa_cons (pv 0) (pa_cons (pe_glob (v := .ref (cl cs 10)) (by rfl) (N.m10) rfl) pa_nil))) (is_use T 10 (by decide))) pa_nil)))))))
      (pss_cons (ps_set (i := 1) scClasses.nd rfl (.inl rfl) (pe_op op_cat (pv 1) (pe_lst (pa_cons (pe_imp (t' := tIs K cs 16) (pe_callB call_isX (by rfl) mI (by decide +kernel) (pa_cons (pv 0) (pa_cons (pe_glob (v := .ref (cl cs 16)) (by rfl) (N.m16) rfl) pa_nil))) (is_use T 16 (by decide))) (pa_cons (pe_imp (t' := tIs K cs 9) (pe_callB call_isX (by rfl) mI (by decide +kernel) (pa_cons (pv 0) (pa_cons (pe_glob (v := .ref (cl cs 9)) (by rfl) (N.m9) rfl) pa_nil))) (is_use T 9 (by decide))) (pa_cons (pe_imp (t' := tIs K cs 6) (pe_callB call_isX (by rfl) mI (by decide +kernel) (pa_cons (pv 0) (pa_cons (pe_glob (v := .ref (cl cs 6)) (by rfl) (N.m6) rfl) pa_nil))) (is_use T 6 (by decide))) (pa_cons (pe_imp (t' := tIs K cs 4) (pe_callB call_isX (by rfl) mI (by decide +kernel) (pa_cons (pv 0) (pa_cons (pe_glob (v := .ref (cl cs 4)) (by rfl) (N.m4) rfl) pa_nil))) (is_use T 4 (by decide))) pa_nil)))))))
      (pss_one (ps_ret (pe_op op_add (pe_bm PySem.F.plainAttrs_list PySem.F.slot_list_count PySem.F.type_list_count mt_countT (pv 1) (pa_cons pe_bl pa_nil)) (pe_bm PySem.F.plainAttrs_list PySem.F.slot_list_count PySem.F.type_list_count mt_countT (pe_lst (pa_cons (pe_imp (t' := tIs K cs 11) (pe_callB call_isX (by rfl) mI (by decide +kernel) (pa_cons (pv 0) (pa_cons (pe_glob (v := .ref (cl cs 11)) (by rfl) (N.m11) rfl) pa_nil))) (is_use T 11 (by decide))) (pa_cons (pe_imp (t' := tIs K cs 8) (pe_callB call_isX (by rfl) mI (by decide +kernel) (pa_cons (pv 0) (pa_cons (pe_glob (v := .ref (cl cs 8)) (by rfl) (N.m8) rfl) pa_nil))) (is_use T 8 (by decide))) pa_nil))) (pa_cons pe_bl pa_nil)))))))), ?_⟩
    refine ⟨v, i, rfl, er, v, i, rfl, er, v, i, rfl, er, v, i, rfl, er, (by show 4 ≤ sizeLine; decide), fun l1 n1 => ?_⟩
    have s1 := same_upd (o := .lst ([decide (i = 3), decide (i = 15), decide (i = 13), decide (i = 12)].map V.bl)) n1
    have e1 : (upd H l1 (.lst ([decide (i = 3), decide (i = 15), decide (i = 13), decide (i = 12)].map V.bl))) l1 = some (.lst ([decide (i = 3), decide (i = 15), decide (i = 13), decide (i = 12)].map V.bl)) := upd_same
    replace s1 : Same H (upd H l1 (.lst ([decide (i = 3), decide (i = 15), decide (i = 13), decide (i = 12)].map V.bl))) := s1
    show tSeq _ _ _ _ (upd H l1 (.lst ([decide (i = 3), decide (i = 15), decide (i = 13), decide (i = 12)].map V.bl)))
    generalize upd H l1 (.lst ([decide (i = 3), decide (i = 15), decide (i = 13), decide (i = 12)].map V.bl)) = H1 at s1 e1 ⊢
    have er1 := er.keep s1
    refine ⟨.ref l1, rfl, v, i, rfl, er1, v, i, rfl, er1, v, i, rfl, er1, (by show 3 ≤ sizeLine; decide), fun l2 n2 => ?_⟩
    refine cat_use (ys := [decide (i = 14), decide (i = 5), decide (i = 2)].map V.bl) (same_upd n2 _ _ e1) upd_same (by show 4 + 3 ≤ 1000; decide) fun H2 p2 s2 _ e2 => ?_
    have t2 := (same_upd n2).trans s2
    have er2 := er1.keep t2
    refine ⟨.ref p2, rfl, v, i, rfl, er2, v, i, rfl, er2, v, i, rfl, er2, v, i, rfl, er2, (by show 4 ≤ sizeLine; decide), fun l3 n3 => ?_⟩
    refine cat_use (ys := [decide (i = 1), decide (i = 0), decide (i = 7), decide (i = 10)].map V.bl) (same_upd n3 _ _ e2) upd_same (by show 7 + 4 ≤ 1000; decide) fun H3 p3 s3 _ e3 => ?_
    have t3 := (same_upd n3).trans s3
    have er3 := er2.keep t3
    refine ⟨.ref p3, rfl, v, i, rfl, er3, v, i, rfl, er3, v, i, rfl, er3, v, i, rfl, er3, (by show 4 ≤ sizeLine; decide), fun l4 n4 => ?_⟩
    refine cat_use (ys := [decide (i = 16), decide (i = 9), decide (i = 6), decide (i = 4)].map V.bl) (same_upd n4 _ _ e3) upd_same (by show 11 + 4 ≤ 1000; decide) fun H4 p4 s4 _ e4 => ?_
    have t4 := (same_upd n4).trans s4
    have er4 := er3.keep t4
    rw [← List.map_append, ← List.map_append, ← List.map_append] at e4
    refine ⟨.ref p4, rfl, .inl ⟨rfl, _, SqL.of e4⟩, p4, _, rfl, rfl, SqL.of e4, v, i, rfl, er4, v, i, rfl, er4, (by show 2 ≤ sizeLine; decide), fun l5 n5 => ?_⟩
    have s5 := same_upd (o := .lst ([decide (i = 11), decide (i = 8)].map V.bl)) n5
    refine ⟨.inl ⟨rfl, _, SqL.of (xs := [decide (i = 11), decide (i = 8)].map V.bl) upd_same⟩, l5, [decide (i = 11), decide (i = 8)], rfl, rfl, SqL.of upd_same, _, _, rfl, rfl, ?_⟩
    have hi : i < 17 := by
      obtain ⟨_, _, _, hi, _⟩ := er
      exact hi
    have e := one_class i hi
    have q' := q (upd H4 l5 (.lst ([decide (i = 11), decide (i = 8)].map V.bl))) ((((s1.trans t2).trans t3).trans t4).trans s5)
    rw [← e] at q'
    exact q'
end
end K97
set_option maxHeartbeats 4000000
namespace K97
open PySem PySem.Spec PyProof.Rows L2 CS RZ
def flds : Nat → List Str
  | 0 => ["place"]
  | 1 => ["number"]
  | 3 => ["end", "begin"]
  | 4 => ["place"]
  | 5 => ["one", "other", "number"]
  | 6 => ["one", "other", "lacking"]
  | 7 => ["number"]
  | 10 => ["one", "other"]
  | 11 => ["most"]
  | 13 => ["place"]
  | 15 => ["number"]
  | _ => []
theorem fld_ix : ∀ i, i < 17 → flds i ≠ [] → i = 0 ∨ i = 1 ∨ i = 3 ∨ i = 4 ∨ i = 5 ∨ i = 6 ∨ i = 7 ∨ i = 10 ∨ i = 11 ∨ i = 13 ∨ i = 15 := by decide +kernel
section
variable {P : Program} {w : World} {K : PySem.W.Frag} {mg : Str → Option Value} {base : Heap} {cs : List Addr}
def tIsT (K : PySem.W.Frag) (cs : List Addr) (js : List Nat) : TE := fun σ H Q => ∃ (v : V) (i : Nat), σ[0]? = some (some v) ∧ Er0 K cs H v i ∧ ∀ H' : Hp, Same H H' → Q (.bl (js.any fun j => decide (i = j))) H'
theorem any3 (T : ET K cs) {i a b c : Nat} (hi : i < 17) (ha : a < 17) (hb : b < 17) (hc : c < 17) : PySem.W.kitAny K (.ref (cl cs i)) ([cl cs a, cl cs b, cl cs c].map Value.ref) = some ([a, b, c].any fun j => decide (i = j)) := by
  have step : ∀ (j : Nat) (r : List Value), j < 17 → PySem.W.kitAny K (.ref (cl cs i)) (.ref (cl cs j) :: r) = if i = j then some true else PySem.W.kitAny K (.ref (cl cs i)) r := fun j r hj => by
    show (match PySem.W.kitOne K (.ref (cl cs i)) (.ref (cl cs j)) with | some true => some true | some false => PySem.W.kitAny K (.ref (cl cs i)) r | none => none) = _
    rw [T.kit i j hi hj]
    by_cases c : i = j
    · rw [decide_eq_true c, if_pos c]
    · rw [decide_eq_false c, if_neg c]
  show PySem.W.kitAny K (.ref (cl cs i)) [.ref (cl cs a), .ref (cl cs b), .ref (cl cs c)] = _
  rw [step a _ ha, step b _ hb, step c _ hc]
  by_cases e1 : i = a
  · simp [e1]
  · by_cases e2 : i = b
    · simp [e1, e2]
    · by_cases e3 : i = c
      · simp [e1, e2, e3]
      · simp [e1, e2, e3, PySem.W.kitAny]
theorem ist_use (T : ET K cs) {a b c : Nat} (ha : a < 17) (hb : b < 17) (hc : c < 17) (σ : L2.St) (H : Hp) (Q : VK) (h : tIsT K cs [a, b, c] σ H Q) : tCB (rIsXT K) (tCons (tVar 0) (tCons (tTup (tCons (tC (.ref (cl cs a))) (tCons (tC (.ref (cl cs b))) (tCons (tC (.ref (cl cs c))) tNil)))) tNil)) σ H Q := by
  obtain ⟨v, i, e, er, q⟩ := h
  obtain ⟨a0, d, rfl, hi, ea, ed⟩ := id er
  refine ⟨.ref a0, e, (by show 3 ≤ sizeLine; decide), fun p np => ?_⟩
  have s1 := same_upd (o := .tup ([cl cs a, cl cs b, cl cs c].map V.ref)) np
  obtain ⟨a1, d1, e1, _, ea1, ed1⟩ := er.keep s1
  cases e1
  exact ⟨a0, cl cs i, p, d1, [cl cs a, cl cs b, cl cs c], _, rfl, ea1, ed1, T.csx i hi, SqT.of upd_same, any3 T hi ha hb hc, q _ s1⟩
def tFld (K : PySem.W.Frag) (cs : List Addr) (f : Str) : TE := fun σ H Q => ∃ (a : Addr) (i : Nat) (fs : List (Str × V)) (v : V), σ[0]? = some (some (.ref a)) ∧ Er cs H a i fs ∧ (∃ fI nm, EF K (cl cs i) fI nm ∧ f ∈ nm) ∧ fs.lookup f = some v ∧ Q v H
theorem fld_use {f : Str} (σ : L2.St) (H : Hp) (Q : VK) (h : tFld K cs f σ H Q) : tXoF K f (tVar 0) σ H Q := by
  obtain ⟨a, i, fs, v, e, ⟨d, hi, ea, ed⟩, ⟨fI, nm, F, m⟩, l, q⟩ := h
  exact ⟨.ref a, e, a, cl cs i, d, fs, v, rfl, ea, ed, F.f, F.no f m, l, q⟩
def spKept (cs : List Addr) : Sp := fun vs H Q _ => ∃ (a : Addr) (i : Nat) (ys : List V), vs = [.ref a] ∧ (flds i).length = ys.length ∧ flds i ≠ [] ∧ Er cs H a i ((flds i).zip ys).reverse ∧ ∀ (H' : Hp) (p : Addr), Same H H' → H p = none → H' p = some (.lst ys) → Q (.ref p) H'
theorem scKept : FnScope ["_law_error_so"] ["_law_error_so"] (defScope sKept) := ⟨rfl, rfl, rfl, by decide +kernel, rfl, by decide +kernel, by decide +kernel⟩
theorem ok_kept {f : Addr} {fd : FuncData} {k : Nat} (F : Fun K "_law_kept" "_law_kept" sKept f fd) (T : ET K cs) (N : NT mg cs) (TF : ∀ i, i < 17 → flds i ≠ [] → ∃ fI, EF K (cl cs i) fI (flds i)) (mI : mg "isinstance" = none) : FnOk P w K mg base CX0 (k + 1) f fd ["_law_error_so"] (spKept cs) := by
  refine F.ok scKept (fun vs H Q E h => ?_) (fun cdv A outer s H vs Q E hr h => ?_)
  · obtain ⟨a, i, ys, rfl, _⟩ := h
    rfl
  · obtain ⟨a, i, ys, rfl, hl, hf, er, q⟩ := h
    have hi : i < 17 := by
      obtain ⟨_, hi, _⟩ := er
      exact hi
    obtain ⟨fI, TI⟩ := TF i hi hf
    refine ⟨_, (pss_cons (ps_if (pt_val (pe_imp (t' := tIsT K cs [0, 4, 13]) (pe_callB call_isXT (by rfl) mI (by decide +kernel) (pa_cons (pv 0) (pa_cons (pe_tup (pa_cons (pe_glob (v := .ref (cl cs 0)) (by rfl) (N.m0) rfl) (pa_cons (pe_glob (v := .ref (cl cs 4)) (by rfl) (N.m4) rfl) (pa_cons (pe_glob (v := .ref (cl cs 13)) (by rfl) (N.m13) rfl) pa_nil)))) pa_nil))) (ist_use T (by decide) (by decide) (by decide)))) (pss_one (ps_ret (pe_lst (pa_cons (pe_imp (t' := tFld K cs "place") (pe_xof (pv 0)) fld_use) pa_nil)))) pss_nil)
      (pss_cons (ps_if (pt_val (pe_imp (t' := tIsT K cs [1, 15, 7]) (pe_callB call_isXT (by rfl) mI (by decide +kernel) (pa_cons (pv 0) (pa_cons (pe_tup (pa_cons (pe_glob (v := .ref (cl cs 1)) (by rfl) (N.m1) rfl) (pa_cons (pe_glob (v := .ref (cl cs 15)) (by rfl) (N.m15) rfl) (pa_cons (pe_glob (v := .ref (cl cs 7)) (by rfl) (N.m7) rfl) pa_nil)))) pa_nil))) (ist_use T (by decide) (by decide) (by decide)))) (pss_one (ps_ret (pe_lst (pa_cons (pe_imp (t' := tFld K cs "number") (pe_xof (pv 0)) fld_use) pa_nil)))) pss_nil)
      (pss_cons (ps_if (pt_val (pe_imp (t' := tIs K cs 11) (pe_callB call_isX (by rfl) mI (by decide +kernel) (pa_cons (pv 0) (pa_cons (pe_glob (v := .ref (cl cs 11)) (by rfl) (N.m11) rfl) pa_nil))) (is_use T 11 (by decide)))) (pss_one (ps_ret (pe_lst (pa_cons (pe_imp (t' := tFld K cs "most") (pe_xof (pv 0)) fld_use) pa_nil)))) pss_nil)
      (pss_cons (ps_if (pt_val (pe_imp (t' := tIs K cs 3) (pe_callB call_isX (by rfl) mI (by decide +kernel) (pa_cons (pv 0) (pa_cons (pe_glob (v := .ref (cl cs 3)) (by rfl) (N.m3) rfl) pa_nil))) (is_use T 3 (by decide)))) (pss_one (ps_ret (pe_lst (pa_cons (pe_imp (t' := tFld K cs "end") (pe_xof (pv 0)) fld_use) (pa_cons (pe_imp (t' := tFld K cs "begin") (pe_xof (pv 0)) fld_use) pa_nil))))) pss_nil)
      (pss_cons (ps_if (pt_val (pe_imp (t' := tIs K cs 10) (pe_callB call_isX (by rfl) mI (by decide +kernel) (pa_cons (pv 0) (pa_cons (pe_glob (v := .ref (cl cs 10)) (by rfl) (N.m10) rfl) pa_nil))) (is_use T 10 (by decide)))) (pss_one (ps_ret (pe_lst (pa_cons (pe_imp (t' := tFld K cs "one") (pe_xof (pv 0)) fld_use) (pa_cons (pe_imp (t' := tFld K cs "other") (pe_xof (pv 0)) fld_use) pa_nil))))) pss_nil)
      (pss_cons (ps_if (pt_val (pe_imp (t' := tIs K cs 5) (pe_callB call_isX (by rfl) mI (by decide +kernel) (pa_cons (pv 0) (pa_cons (pe_glob (v := .ref (cl cs 5)) (by rfl) (N.m5) rfl) pa_nil))) (is_use T 5 (by decide)))) (pss_one (ps_ret (pe_lst (pa_cons (pe_imp (t' := tFld K cs "one") (pe_xof (pv 0)) fld_use) (pa_cons (pe_imp (t' := tFld K cs "other") (pe_xof (pv 0)) fld_use) (pa_cons (pe_imp (t' := tFld K cs "number") (pe_xof (pv 0)) fld_use) pa_nil)))))) pss_nil)
      (pss_one (ps_ret (pe_lst (pa_cons (pe_imp (t' := tFld K cs "one") (pe_xof (pv 0)) fld_use) (pa_cons (pe_imp (t' := tFld K cs "other") (pe_xof (pv 0)) fld_use) (pa_cons (pe_imp (t' := tFld K cs "lacking") (pe_xof (pv 0)) fld_use) pa_nil)))))))))))), ?_⟩
    rcases fld_ix i hi hf with rfl | rfl | rfl | rfl | rfl | rfl | rfl | rfl | rfl | rfl | rfl
    · obtain ⟨y0, rfl⟩ : ∃ y0, ys = [y0] := by
        match ys, hl with
        | [y0], _ => exact ⟨y0, rfl⟩
      have s0 : Same H H := fun _ _ e => e
      refine ⟨.ref a, 0, rfl, (er).zero, fun G1 t1 => ⟨_, rfl, ?_⟩⟩
      have u1 := (s0).trans t1
      have r1 := er.keep u1
      refine ite2 (fun _ => ?_) (fun z => absurd (by decide) z)
      exact ⟨a, 0, _, y0, rfl, r1, ⟨fI, _, TI, by decide +kernel⟩, rfl, (by show 1 ≤ sizeLine; decide), fun l nl => q _ l ((u1).trans (same_upd nl)) ((u1).free nl) upd_same⟩
    · obtain ⟨y0, rfl⟩ : ∃ y0, ys = [y0] := by
        match ys, hl with
        | [y0], _ => exact ⟨y0, rfl⟩
      have s0 : Same H H := fun _ _ e => e
      refine ⟨.ref a, 1, rfl, (er).zero, fun G1 t1 => ⟨_, rfl, ?_⟩⟩
      have u1 := (s0).trans t1
      have r1 := er.keep u1
      refine ite2 (fun z => absurd z (by decide)) (fun _ => ?_)
      refine ⟨.ref a, 1, rfl, (r1).zero, fun G2 t2 => ⟨_, rfl, ?_⟩⟩
      have u2 := (u1).trans t2
      have r2 := er.keep u2
      refine ite2 (fun _ => ?_) (fun z => absurd (by decide) z)
      exact ⟨a, 1, _, y0, rfl, r2, ⟨fI, _, TI, by decide +kernel⟩, rfl, (by show 1 ≤ sizeLine; decide), fun l nl => q _ l ((u2).trans (same_upd nl)) ((u2).free nl) upd_same⟩
    · obtain ⟨y0, y1, rfl⟩ : ∃ y0 y1, ys = [y0, y1] := by
        match ys, hl with
        | [y0, y1], _ => exact ⟨y0, y1, rfl⟩
      have s0 : Same H H := fun _ _ e => e
      refine ⟨.ref a, 3, rfl, (er).zero, fun G1 t1 => ⟨_, rfl, ?_⟩⟩
      have u1 := (s0).trans t1
      have r1 := er.keep u1
      refine ite2 (fun z => absurd z (by decide)) (fun _ => ?_)
      refine ⟨.ref a, 3, rfl, (r1).zero, fun G2 t2 => ⟨_, rfl, ?_⟩⟩
      have u2 := (u1).trans t2
      have r2 := er.keep u2
      refine ite2 (fun z => absurd z (by decide)) (fun _ => ?_)
      refine ⟨.ref a, 3, rfl, (r2).zero, _, rfl, ?_⟩
      refine ite2 (fun z => absurd z (by decide)) (fun _ => ?_)
      refine ⟨.ref a, 3, rfl, (r2).zero, _, rfl, ?_⟩
      refine ite2 (fun _ => ?_) (fun z => absurd (by decide) z)
      exact ⟨a, 3, _, y0, rfl, r2, ⟨fI, _, TI, by decide +kernel⟩, rfl, a, 3, _, y1, rfl, r2, ⟨fI, _, TI, by decide +kernel⟩, rfl, (by show 2 ≤ sizeLine; decide), fun l nl => q _ l ((u2).trans (same_upd nl)) ((u2).free nl) upd_same⟩
    · obtain ⟨y0, rfl⟩ : ∃ y0, ys = [y0] := by
        match ys, hl with
        | [y0], _ => exact ⟨y0, rfl⟩
      have s0 : Same H H := fun _ _ e => e
      refine ⟨.ref a, 4, rfl, (er).zero, fun G1 t1 => ⟨_, rfl, ?_⟩⟩
      have u1 := (s0).trans t1
      have r1 := er.keep u1
      refine ite2 (fun _ => ?_) (fun z => absurd (by decide) z)
      exact ⟨a, 4, _, y0, rfl, r1, ⟨fI, _, TI, by decide +kernel⟩, rfl, (by show 1 ≤ sizeLine; decide), fun l nl => q _ l ((u1).trans (same_upd nl)) ((u1).free nl) upd_same⟩
    · obtain ⟨y0, y1, y2, rfl⟩ : ∃ y0 y1 y2, ys = [y0, y1, y2] := by
        match ys, hl with
        | [y0, y1, y2], _ => exact ⟨y0, y1, y2, rfl⟩
      have s0 : Same H H := fun _ _ e => e
      refine ⟨.ref a, 5, rfl, (er).zero, fun G1 t1 => ⟨_, rfl, ?_⟩⟩
      have u1 := (s0).trans t1
      have r1 := er.keep u1
      refine ite2 (fun z => absurd z (by decide)) (fun _ => ?_)
      refine ⟨.ref a, 5, rfl, (r1).zero, fun G2 t2 => ⟨_, rfl, ?_⟩⟩
      have u2 := (u1).trans t2
      have r2 := er.keep u2
      refine ite2 (fun z => absurd z (by decide)) (fun _ => ?_)
      refine ⟨.ref a, 5, rfl, (r2).zero, _, rfl, ?_⟩
      refine ite2 (fun z => absurd z (by decide)) (fun _ => ?_)
      refine ⟨.ref a, 5, rfl, (r2).zero, _, rfl, ?_⟩
      refine ite2 (fun z => absurd z (by decide)) (fun _ => ?_)
      refine ⟨.ref a, 5, rfl, (r2).zero, _, rfl, ?_⟩
      refine ite2 (fun z => absurd z (by decide)) (fun _ => ?_)
      refine ⟨.ref a, 5, rfl, (r2).zero, _, rfl, ?_⟩
      refine ite2 (fun _ => ?_) (fun z => absurd (by decide) z)
      exact ⟨a, 5, _, y0, rfl, r2, ⟨fI, _, TI, by decide +kernel⟩, rfl, a, 5, _, y1, rfl, r2, ⟨fI, _, TI, by decide +kernel⟩, rfl, a, 5, _, y2, rfl, r2, ⟨fI, _, TI, by decide +kernel⟩, rfl, (by show 3 ≤ sizeLine; decide), fun l nl => q _ l ((u2).trans (same_upd nl)) ((u2).free nl) upd_same⟩
    · obtain ⟨y0, y1, y2, rfl⟩ : ∃ y0 y1 y2, ys = [y0, y1, y2] := by
        match ys, hl with
        | [y0, y1, y2], _ => exact ⟨y0, y1, y2, rfl⟩
      have s0 : Same H H := fun _ _ e => e
      refine ⟨.ref a, 6, rfl, (er).zero, fun G1 t1 => ⟨_, rfl, ?_⟩⟩
      have u1 := (s0).trans t1
      have r1 := er.keep u1
      refine ite2 (fun z => absurd z (by decide)) (fun _ => ?_)
      refine ⟨.ref a, 6, rfl, (r1).zero, fun G2 t2 => ⟨_, rfl, ?_⟩⟩
      have u2 := (u1).trans t2
      have r2 := er.keep u2
      refine ite2 (fun z => absurd z (by decide)) (fun _ => ?_)
      refine ⟨.ref a, 6, rfl, (r2).zero, _, rfl, ?_⟩
      refine ite2 (fun z => absurd z (by decide)) (fun _ => ?_)
      refine ⟨.ref a, 6, rfl, (r2).zero, _, rfl, ?_⟩
      refine ite2 (fun z => absurd z (by decide)) (fun _ => ?_)
      refine ⟨.ref a, 6, rfl, (r2).zero, _, rfl, ?_⟩
      refine ite2 (fun z => absurd z (by decide)) (fun _ => ?_)
      refine ⟨.ref a, 6, rfl, (r2).zero, _, rfl, ?_⟩
      refine ite2 (fun z => absurd z (by decide)) (fun _ => ?_)
      exact ⟨a, 6, _, y0, rfl, r2, ⟨fI, _, TI, by decide +kernel⟩, rfl, a, 6, _, y1, rfl, r2, ⟨fI, _, TI, by decide +kernel⟩, rfl, a, 6, _, y2, rfl, r2, ⟨fI, _, TI, by decide +kernel⟩, rfl, (by show 3 ≤ sizeLine; decide), fun l nl => q _ l ((u2).trans (same_upd nl)) ((u2).free nl) upd_same⟩
    · obtain ⟨y0, rfl⟩ : ∃ y0, ys = [y0] := by
        match ys, hl with
        | [y0], _ => exact ⟨y0, rfl⟩
      have s0 : Same H H := fun _ _ e => e
      refine ⟨.ref a, 7, rfl, (er).zero, fun G1 t1 => ⟨_, rfl, ?_⟩⟩
      have u1 := (s0).trans t1
      have r1 := er.keep u1
      refine ite2 (fun z => absurd z (by decide)) (fun _ => ?_)
      refine ⟨.ref a, 7, rfl, (r1).zero, fun G2 t2 => ⟨_, rfl, ?_⟩⟩
      have u2 := (u1).trans t2
      have r2 := er.keep u2
      refine ite2 (fun _ => ?_) (fun z => absurd (by decide) z)
      exact ⟨a, 7, _, y0, rfl, r2, ⟨fI, _, TI, by decide +kernel⟩, rfl, (by show 1 ≤ sizeLine; decide), fun l nl => q _ l ((u2).trans (same_upd nl)) ((u2).free nl) upd_same⟩
    · obtain ⟨y0, y1, rfl⟩ : ∃ y0 y1, ys = [y0, y1] := by
        match ys, hl with
        | [y0, y1], _ => exact ⟨y0, y1, rfl⟩
      have s0 : Same H H := fun _ _ e => e
      refine ⟨.ref a, 10, rfl, (er).zero, fun G1 t1 => ⟨_, rfl, ?_⟩⟩
      have u1 := (s0).trans t1
      have r1 := er.keep u1
      refine ite2 (fun z => absurd z (by decide)) (fun _ => ?_)
      refine ⟨.ref a, 10, rfl, (r1).zero, fun G2 t2 => ⟨_, rfl, ?_⟩⟩
      have u2 := (u1).trans t2
      have r2 := er.keep u2
      refine ite2 (fun z => absurd z (by decide)) (fun _ => ?_)
      refine ⟨.ref a, 10, rfl, (r2).zero, _, rfl, ?_⟩
      refine ite2 (fun z => absurd z (by decide)) (fun _ => ?_)
      refine ⟨.ref a, 10, rfl, (r2).zero, _, rfl, ?_⟩
      refine ite2 (fun z => absurd z (by decide)) (fun _ => ?_)
      refine ⟨.ref a, 10, rfl, (r2).zero, _, rfl, ?_⟩
      refine ite2 (fun _ => ?_) (fun z => absurd (by decide) z)
      exact ⟨a, 10, _, y0, rfl, r2, ⟨fI, _, TI, by decide +kernel⟩, rfl, a, 10, _, y1, rfl, r2, ⟨fI, _, TI, by decide +kernel⟩, rfl, (by show 2 ≤ sizeLine; decide), fun l nl => q _ l ((u2).trans (same_upd nl)) ((u2).free nl) upd_same⟩
    · obtain ⟨y0, rfl⟩ : ∃ y0, ys = [y0] := by
        match ys, hl with
        | [y0], _ => exact ⟨y0, rfl⟩
      have s0 : Same H H := fun _ _ e => e
      refine ⟨.ref a, 11, rfl, (er).zero, fun G1 t1 => ⟨_, rfl, ?_⟩⟩
      have u1 := (s0).trans t1
      have r1 := er.keep u1
      refine ite2 (fun z => absurd z (by decide)) (fun _ => ?_)
      refine ⟨.ref a, 11, rfl, (r1).zero, fun G2 t2 => ⟨_, rfl, ?_⟩⟩
      have u2 := (u1).trans t2
      have r2 := er.keep u2
      refine ite2 (fun z => absurd z (by decide)) (fun _ => ?_)
      refine ⟨.ref a, 11, rfl, (r2).zero, _, rfl, ?_⟩
      refine ite2 (fun _ => ?_) (fun z => absurd (by decide) z)
      exact ⟨a, 11, _, y0, rfl, r2, ⟨fI, _, TI, by decide +kernel⟩, rfl, (by show 1 ≤ sizeLine; decide), fun l nl => q _ l ((u2).trans (same_upd nl)) ((u2).free nl) upd_same⟩
    · obtain ⟨y0, rfl⟩ : ∃ y0, ys = [y0] := by
        match ys, hl with
        | [y0], _ => exact ⟨y0, rfl⟩
      have s0 : Same H H := fun _ _ e => e
      refine ⟨.ref a, 13, rfl, (er).zero, fun G1 t1 => ⟨_, rfl, ?_⟩⟩
      have u1 := (s0).trans t1
      have r1 := er.keep u1
      refine ite2 (fun _ => ?_) (fun z => absurd (by decide) z)
      exact ⟨a, 13, _, y0, rfl, r1, ⟨fI, _, TI, by decide +kernel⟩, rfl, (by show 1 ≤ sizeLine; decide), fun l nl => q _ l ((u1).trans (same_upd nl)) ((u1).free nl) upd_same⟩
    · obtain ⟨y0, rfl⟩ : ∃ y0, ys = [y0] := by
        match ys, hl with
        | [y0], _ => exact ⟨y0, rfl⟩
      have s0 : Same H H := fun _ _ e => e
      refine ⟨.ref a, 15, rfl, (er).zero, fun G1 t1 => ⟨_, rfl, ?_⟩⟩
      have u1 := (s0).trans t1
      have r1 := er.keep u1
      refine ite2 (fun z => absurd z (by decide)) (fun _ => ?_)
      refine ⟨.ref a, 15, rfl, (r1).zero, fun G2 t2 => ⟨_, rfl, ?_⟩⟩
      have u2 := (u1).trans t2
      have r2 := er.keep u2
      refine ite2 (fun _ => ?_) (fun z => absurd (by decide) z)
      exact ⟨a, 15, _, y0, rfl, r2, ⟨fI, _, TI, by decide +kernel⟩, rfl, (by show 1 ≤ sizeLine; decide), fun l nl => q _ l ((u2).trans (same_upd nl)) ((u2).free nl) upd_same⟩
end
end K97
set_option maxHeartbeats 4000000
namespace K97
open PySem PySem.Spec PyProof.Rows L2 CS RZ
/-! ### rows: an error made by place, made by name, its values -/
def PlainV (v : V) : Prop := (∃ z : Str, v = .str z) ∨ ∃ c : Int, v = .int c
/-- a row at v, its values at l -/
def Rw (cs : List Addr) (H : Hp) (v : V) (l : Addr) : Prop := ∃ (i : Nat) (ys : List V) (t a b : Addr), v = .ref t ∧ H t = some (.tup [.ref a, .ref b, .ref l]) ∧ Er cs H a i ((flds i).zip ys).reverse ∧ Er cs H b i ((flds i).zip ys).reverse ∧ H l = some (.lst ys) ∧ (flds i).length = ys.length ∧ flds i ≠ [] ∧ ∀ y ∈ ys, PlainV y
theorem Rw.keep {cs : List Addr} {H H' : Hp} {v : V} {l : Addr} (h : Rw cs H v l) (s : Same H H') : Rw cs H' v l := by
  obtain ⟨i, ys, t, a, b, rfl, e1, e2, e3, e4, r⟩ := h
  exact ⟨i, ys, t, a, b, rfl, s _ _ e1, e2.keep s, e3.keep s, s _ _ e4, r⟩
theorem xo_lst {cls : Value} {d : Option Addr} {a : Addr} {xs : List V} (h : XO cls d a = .lst xs) : False := by
  unfold XO at h
  cases h
theorem Er.bar {cs : List Addr} {H H' : Hp} {a p : Addr} {i : Nat} {fs : List (Str × V)} {xs : List V} (h : Er cs H a i fs) (s : Keep p H H') (e : H p = some (.lst xs)) : Er cs H' a i fs := by
  obtain ⟨d, hi, h1, h2⟩ := h
  refine ⟨d, hi, s _ _ (fun z => ?_) h1, s _ _ (fun z => ?_) h2⟩
  · rw [z, e] at h1
    exact xo_lst (Option.some.inj h1).symm
  · rw [z, e] at h2
    cases h2
theorem Rw.bar {cs : List Addr} {H H' : Hp} {v : V} {l p : Addr} {xs : List V} (h : Rw cs H v l) (s : Keep p H H') (e : H p = some (.lst xs)) (n : l ≠ p) : Rw cs H' v l := by
  obtain ⟨i, ys, t, a, b, rfl, e1, e2, e3, e4, r⟩ := h
  refine ⟨i, ys, t, a, b, rfl, s _ _ (fun z => ?_) e1, e2.bar s e, e3.bar s e, s _ _ n e4, r⟩
  rw [z, e] at e1
  cases e1
def Rows0 (cs : List Addr) (H : Hp) (vs : List V) : Prop := ∀ v ∈ vs, ∃ l, Rw cs H v l
def RowsP (cs : List Addr) (p : Addr) (H : Hp) (vs : List V) : Prop := ∀ v ∈ vs, ∃ l, l ≠ p ∧ Rw cs H v l
theorem Rows0.keep {cs : List Addr} {H H' : Hp} {vs : List V} (h : Rows0 cs H vs) (s : Same H H') : Rows0 cs H' vs := fun v m => (h v m).elim fun l r => ⟨l, r.keep s⟩
theorem Rows0.add {cs : List Addr} {H : Hp} {vs ws : List V} (h : Rows0 cs H vs) (h2 : Rows0 cs H ws) : Rows0 cs H (vs ++ ws) := fun v m => (List.mem_append.mp m).elim (h v) (h2 v)
theorem Rows0.two {cs : List Addr} {H : Hp} {v w : V} {l m : Addr} (h : Rw cs H v l) (h2 : Rw cs H w m) : Rows0 cs H [v, w] := fun u mm => by
  rcases List.mem_cons.mp mm with rfl | mm
  · exact ⟨l, h⟩
  · rw [List.mem_singleton.mp mm]
    exact ⟨m, h2⟩
theorem Rows0.fresh {cs : List Addr} {H : Hp} {vs : List V} {p : Addr} (h : Rows0 cs H vs) (n : H p = none) : RowsP cs p H vs := fun v m => by
  obtain ⟨l, r⟩ := h v m
  refine ⟨l, ?_, r⟩
  obtain ⟨i, ys, t, a, b, _, _, _, _, e4, _⟩ := r
  exact ne_of_none e4 n
theorem RowsP.keep {cs : List Addr} {H H' : Hp} {vs : List V} {p : Addr} (h : RowsP cs p H vs) (s : Same H H') : RowsP cs p H' vs := fun v m => (h v m).elim fun l r => ⟨l, r.1, r.2.keep s⟩
theorem RowsP.put {cs : List Addr} {H : Hp} {vs xs ys : List V} {p l : Addr} {v : V} (h : RowsP cs p H vs) (r : Rw cs H v l) (n : l ≠ p) (e : H p = some (.lst xs)) : RowsP cs p (upd H p (.lst ys)) (vs ++ [v]) := fun u m => by
  rcases List.mem_append.mp m with m | m
  · obtain ⟨l, n, r⟩ := h u m
    exact ⟨l, n, r.bar (Keep.upd H _) e n⟩
  · rw [List.mem_singleton.mp m]
    exact ⟨l, n, r.bar (Keep.upd H _) e n⟩
/-! ### the readings of a row -/
def tVars : List Nat → TA
  | [] => tNil
  | j :: js => tCons (tVar j) (tVars js)
def Slots (σ : L2.St) (js : List Nat) (ys : List V) : Prop := (js.map fun j => σ[j]?) = ys.map fun y => some (some y)
theorem vars_use : ∀ {js : List Nat} {ys : List V} {σ : L2.St} {H : Hp} {Q : List V → Hp → Prop}, Slots σ js ys → Q ys H → tVars js σ H Q
  | [], [], _, _, _, _, q => q
  | [], _ :: _, _, _, _, h, _ => by cases h
  | _ :: _, [], _, _, _, h, _ => by cases h
  | j :: js, y :: ys, σ, H, Q, h, q => by
    have h1 := (List.cons.inj h).1
    have h2 := (List.cons.inj h).2
    exact ⟨y, h1, vars_use (js := js) (ys := ys) h2 q⟩
def tRow (cs : List Addr) (js jk : List Nat) (n : Nat) (gV : List V → List V → List V) : TE := fun σ H Q => ∃ (ys yk : List V), Slots σ js ys ∧ Slots σ jk yk ∧ ys.length = n ∧ yk.length = n ∧ (∀ a, gV [.ref a] yk = .ref a :: ys) ∧ (∀ y ∈ ys, PlainV y) ∧
  ∀ (H' : Hp) (v : V) (l : Addr), Same H H' → H l = none → Rw cs H' v l → Q v H'
section
variable {P : Program} {w : World} {K : PySem.W.Frag} {mg : Str → Option Value} {base : Heap} {cs : List Addr}
theorem row_use {i n : Nat} {fI : Addr} {fs : List Str} {js jk : List Nat} {gV : List V → List V → List V} {σ : L2.St} {H : Hp} {Q : VK} (T : EF K (cl cs i) fI fs) (hf : flds i = fs) (hi : i < 17) (hn : fs.length = n ∧ 0 < n ∧ n ≤ 900) (h : tRow cs js jk n gV σ H Q) :
    tTup (tCons (tMkX (cl cs i) (spI K (cl cs i) fI fs) (tVars js)) (tCons (tMkXK (cl cs i) n (spI K (cl cs i) fI fs) gV (tVars jk)) (tCons (tLst (tVars js)) tNil))) σ H Q := by
  obtain ⟨ys, yk, h1, h2, ly, lk, hg, hp, q⟩ := h
  subst hf
  refine vars_use h1 ⟨by omega, mk_use T (by omega) fun H1 a d s1 na ea ed => ?_⟩
  refine vars_use h2 ⟨lk, fun b nb => ?_⟩
  rw [hg b]
  refine mk_use T (by omega) (fun H2 b d2 s2 nb eb ed2 => ?_) b nb
  refine vars_use h1 ⟨Nat.le_of_lt (small1000 (by omega)), fun l nl => ⟨(by show 3 ≤ sizeLine; decide), fun t nt => ?_⟩⟩
  have s3 := same_upd (o := .lst ys) nl
  have s4 := same_upd (o := .tup [.ref a, .ref b, .ref l]) nt
  have A : Er cs H1 a i ((flds i).zip ys).reverse := ⟨d, hi, ea, ed⟩
  have B : Er cs H2 b i ((flds i).zip ys).reverse := ⟨d2, hi, eb, ed2⟩
  refine q _ _ l (((s1.trans s2).trans s3).trans s4) ((s1.trans s2).free nl) ⟨i, ys, t, a, b, rfl, upd_same, A.keep ((s2.trans s3).trans s4), B.keep (s3.trans s4), s4 _ _ upd_same, by omega, fun z => ?_, hp⟩
  rw [z] at hn
  simp at hn
  omega
/-- a class with fields, as it is called -/
def MkC (P : Program) (w : World) (K : PySem.W.Frag) (mg : Str → Option Value) (base : Heap) (cs : List Addr) (k i : Nat) (fs ks : List Str) (g : List Value → List Value → List Value) (gV : List V → List V → List V) : Prop :=
  ∃ (fI : Addr) (fd : FuncData), EF K (cl cs i) fI fs ∧ FnOk P w K mg base CX0 k fI fd ("self" :: fs) (spI K (cl cs i) fI fs) ∧ Binds K fd ("self" :: fs) [] ∧ KBn K fd ("self" :: fs) 1 ks g gV
structure MkG (P : Program) (w : World) (K : PySem.W.Frag) (mg : Str → Option Value) (base : Heap) (cs : List Addr) (k : Nat) : Prop where
  c0 : MkC P w K mg base cs k 0 ["place"] ["place"] kx1 kx1
  c1 : MkC P w K mg base cs k 1 ["number"] ["number"] kx1 kx1
  c3 : MkC P w K mg base cs k 3 ["end", "begin"] ["begin", "end"] kx2 kx2
  c4 : MkC P w K mg base cs k 4 ["place"] ["place"] kx1 kx1
  c5 : MkC P w K mg base cs k 5 ["one", "other", "number"] ["number", "other", "one"] kx3 kx3
  c6 : MkC P w K mg base cs k 6 ["one", "other", "lacking"] ["lacking", "one", "other"] kx4 kx4
  c7 : MkC P w K mg base cs k 7 ["number"] ["number"] kx1 kx1
  c10 : MkC P w K mg base cs k 10 ["one", "other"] ["other", "one"] kx2 kx2
  c11 : MkC P w K mg base cs k 11 ["most"] ["most"] kx1 kx1
  c13 : MkC P w K mg base cs k 13 ["place"] ["place"] kx1 kx1
  c15 : MkC P w K mg base cs k 15 ["number"] ["number"] kx1 kx1
def spMade (cs : List Addr) : Sp := fun vs H Q _ => ∃ (b : Addr) (n : Nat), vs = [.ref b] ∧ BoxAt H b n ∧ n ≤ 1000 ∧ ∀ (H' : Hp) (p : Addr) (rows : List V), Keep b H H' → H p = none → H' p = some (.lst rows) → rows.length ≤ 1000 → Rows0 cs H' rows → Q (.ref p) H'
abbrev nMade : List Str := ["_law_box_here", "_law_a_so", "_law_b_so", "_law_c_so", "_law_found"]
theorem scMade : FnScope nMade ["_law_box_here"] (defScope sMade) := ⟨rfl, rfl, rfl, by decide +kernel, rfl, by decide +kernel, by decide +kernel⟩
theorem plS (z : Str) : ∀ y ∈ ([.str z] : List V), PlainV y := fun y m => .inl ⟨z, List.mem_singleton.mp m⟩
theorem plI (c : Int) : ∀ y ∈ ([.int c] : List V), PlainV y := fun y m => .inr ⟨c, List.mem_singleton.mp m⟩
theorem plSS (z u : Str) : ∀ y ∈ ([.str z, .str u] : List V), PlainV y := fun y m => by
  rcases List.mem_cons.mp m with e | m
  · exact .inl ⟨z, e⟩
  · exact .inl ⟨u, List.mem_singleton.mp m⟩
theorem plSSI (z u : Str) (c : Int) : ∀ y ∈ ([.str z, .str u, .int c] : List V), PlainV y := fun y m => by
  rcases List.mem_cons.mp m with e | m
  · exact .inl ⟨z, e⟩
  rcases List.mem_cons.mp m with e | m
  · exact .inl ⟨u, e⟩
  · exact .inr ⟨c, List.mem_singleton.mp m⟩
theorem ok_made {f gv gm : Addr} {fd dv dm : FuncData} {k : Nat} (F : Fun K "_law_made" "_law_made" sMade f fd) (M : MkG P w K mg base cs k) (N : NT mg cs)
    (Gv : FnOk P w K mg base CX0 (k + 1) gv dv ["_law_box_here"] spValue) (bv : Binds K dv ["_law_box_here"] []) (kv : PySem.W.keepIn K (.ref gv) = true) (mv : mg "_law_value" = some (.ref gv))
    (Gm : FnOk P w K mg base CX0 (k + 1) gm dm ["_law_box_here"] spMuch) (bm : Binds K dm ["_law_box_here"] []) (km : PySem.W.keepIn K (.ref gm) = true) (mm : mg "_law_much" = some (.ref gm)) :
    FnOk P w K mg base CX0 (k + 2) f fd ["_law_box_here"] (spMade cs) := by
  refine F.ok scMade (fun vs H Q E h => ?_) (fun cdv A outer s H vs Q E hr h => ?_)
  · obtain ⟨b, n, rfl, _⟩ := h
    rfl
  · obtain ⟨b, n, rfl, hb, hn, q⟩ := h
    obtain ⟨fI0, fd0, E0, F0, B0, K0⟩ := M.c0
    obtain ⟨fI1, fd1, E1, F1, B1, K1⟩ := M.c1
    obtain ⟨fI3, fd3, E3, F3, B3, K3⟩ := M.c3
    obtain ⟨fI4, fd4, E4, F4, B4, K4⟩ := M.c4
    obtain ⟨fI5, fd5, E5, F5, B5, K5⟩ := M.c5
    obtain ⟨fI6, fd6, E6, F6, B6, K6⟩ := M.c6
    obtain ⟨fI7, fd7, E7, F7, B7, K7⟩ := M.c7
    obtain ⟨fI10, fd10, E10, F10, B10, K10⟩ := M.c10
    obtain ⟨fI11, fd11, E11, F11, B11, K11⟩ := M.c11
    obtain ⟨fI13, fd13, E13, F13, B13, K13⟩ := M.c13
    obtain ⟨fI15, fd15, E15, F15, B15, K15⟩ := M.c15
    refine ⟨_, (pss_cons (ps_par3 (i := 1) (j := 2) (l := 3) (by rfl) scMade.nd rfl rfl rfl (by decide) (by decide) (by decide) rfl rfl rfl (pa_cons (pe_call Gv hr (by rfl) mv kv bv .nil pass0 (pa_cons (pv 0) pa_nil)) (pa_cons (pe_call Gv hr (by rfl) mv kv bv .nil pass0 (pa_cons (pv 0) pa_nil)) (pa_cons (pe_call Gm hr (by rfl) mm km bm .nil pass0 (pa_cons (pv 0) pa_nil)) pa_nil))) (by rfl))
      (pss_cons (ps_set (i := 4) scMade.nd rfl (.inl rfl) (pe_lst (pa_cons (pe_imp (t' := tRow cs [1] [1] 1 kx1) (pe_tup (pa_cons (pe_ox E0.o F0 hr B0 pass0 (by rfl) N.m0 (pa_cons (pv 1) pa_nil)) (pa_cons (pe_oxK E0.o F0 hr K0 pass0 (by rfl) N.m0 (pk_cons (pv 1) pk_nil)) (pa_cons (pe_lst (pa_cons (pv 1) pa_nil)) pa_nil)))) (fun _ _ _ h => row_use (js := [1]) (jk := [1]) (n := 1) E0 rfl (by decide) (by decide) h)) (pa_cons (pe_imp (t' := tRow cs [3] [3] 1 kx1) (pe_tup (pa_cons (pe_ox E1.o F1 hr B1 pass0 (by rfl) N.m1 (pa_cons (pv 3) pa_nil)) (pa_cons (pe_oxK E1.o F1 hr K1 pass0 (by rfl) N.m1 (pk_cons (pv 3) pk_nil)) (pa_cons (pe_lst (pa_cons (pv 3) pa_nil)) pa_nil)))) (fun _ _ _ h => row_use (js := [3]) (jk := [3]) (n := 1) E1 rfl (by decide) (by decide) h)) pa_nil))))
      (pss_cons (ps_set (i := 4) scMade.nd rfl (.inl rfl) (pe_op op_cat (pv 4) (pe_lst (pa_cons (pe_imp (t' := tRow cs [1] [1] 1 kx1) (pe_tup (pa_cons (pe_ox E4.o F4 hr B4 pass0 (by rfl) N.m4 (pa_cons (pv 1) pa_nil)) (pa_cons (pe_oxK E4.o F4 hr K4 pass0 (by rfl) N.m4 (pk_cons (pv 1) pk_nil)) (pa_cons (pe_lst (pa_cons (pv 1) pa_nil)) pa_nil)))) (fun _ _ _ h => row_use (js := [1]) (jk := [1]) (n := 1) E4 rfl (by decide) (by decide) h)) (pa_cons (pe_imp (t' := tRow cs [3] [3] 1 kx1) (pe_tup (pa_cons (pe_ox E7.o F7 hr B7 pass0 (by rfl) N.m7 (pa_cons (pv 3) pa_nil)) (pa_cons (pe_oxK E7.o F7 hr K7 pass0 (by rfl) N.m7 (pk_cons (pv 3) pk_nil)) (pa_cons (pe_lst (pa_cons (pv 3) pa_nil)) pa_nil)))) (fun _ _ _ h => row_use (js := [3]) (jk := [3]) (n := 1) E7 rfl (by decide) (by decide) h)) pa_nil)))))
      (pss_cons (ps_set (i := 4) scMade.nd rfl (.inl rfl) (pe_op op_cat (pv 4) (pe_lst (pa_cons (pe_imp (t' := tRow cs [1] [1] 1 kx1) (pe_tup (pa_cons (pe_ox E13.o F13 hr B13 pass0 (by rfl) N.m13 (pa_cons (pv 1) pa_nil)) (pa_cons (pe_oxK E13.o F13 hr K13 pass0 (by rfl) N.m13 (pk_cons (pv 1) pk_nil)) (pa_cons (pe_lst (pa_cons (pv 1) pa_nil)) pa_nil)))) (fun _ _ _ h => row_use (js := [1]) (jk := [1]) (n := 1) E13 rfl (by decide) (by decide) h)) (pa_cons (pe_imp (t' := tRow cs [3] [3] 1 kx1) (pe_tup (pa_cons (pe_ox E15.o F15 hr B15 pass0 (by rfl) N.m15 (pa_cons (pv 3) pa_nil)) (pa_cons (pe_oxK E15.o F15 hr K15 pass0 (by rfl) N.m15 (pk_cons (pv 3) pk_nil)) (pa_cons (pe_lst (pa_cons (pv 3) pa_nil)) pa_nil)))) (fun _ _ _ h => row_use (js := [3]) (jk := [3]) (n := 1) E15 rfl (by decide) (by decide) h)) pa_nil)))))
      (pss_cons (ps_set (i := 4) scMade.nd rfl (.inl rfl) (pe_op op_cat (pv 4) (pe_lst (pa_cons (pe_imp (t' := tRow cs [3] [3] 1 kx1) (pe_tup (pa_cons (pe_ox E11.o F11 hr B11 pass0 (by rfl) N.m11 (pa_cons (pv 3) pa_nil)) (pa_cons (pe_oxK E11.o F11 hr K11 pass0 (by rfl) N.m11 (pk_cons (pv 3) pk_nil)) (pa_cons (pe_lst (pa_cons (pv 3) pa_nil)) pa_nil)))) (fun _ _ _ h => row_use (js := [3]) (jk := [3]) (n := 1) E11 rfl (by decide) (by decide) h)) (pa_cons (pe_imp (t' := tRow cs [1, 2] [2, 1] 2 kx2) (pe_tup (pa_cons (pe_ox E3.o F3 hr B3 pass0 (by rfl) N.m3 (pa_cons (pv 1) (pa_cons (pv 2) pa_nil))) (pa_cons (pe_oxK E3.o F3 hr K3 pass0 (by rfl) N.m3 (pk_cons (pv 2) (pk_cons (pv 1) pk_nil))) (pa_cons (pe_lst (pa_cons (pv 1) (pa_cons (pv 2) pa_nil))) pa_nil)))) (fun _ _ _ h => row_use (js := [1, 2]) (jk := [2, 1]) (n := 2) E3 rfl (by decide) (by decide) h)) pa_nil)))))
      (pss_cons (ps_expr (pe_bm PySem.F.plainAttrs_list PySem.F.slot_list_append PySem.F.type_list_append mt_append (pv 4) (pa_cons (pe_imp (t' := tRow cs [1, 2] [2, 1] 2 kx2) (pe_tup (pa_cons (pe_ox E10.o F10 hr B10 pass0 (by rfl) N.m10 (pa_cons (pv 1) (pa_cons (pv 2) pa_nil))) (pa_cons (pe_oxK E10.o F10 hr K10 pass0 (by rfl) N.m10 (pk_cons (pv 2) (pk_cons (pv 1) pk_nil))) (pa_cons (pe_lst (pa_cons (pv 1) (pa_cons (pv 2) pa_nil))) pa_nil)))) (fun _ _ _ h => row_use (js := [1, 2]) (jk := [2, 1]) (n := 2) E10 rfl (by decide) (by decide) h)) pa_nil)))
      (pss_cons (ps_expr (pe_bm PySem.F.plainAttrs_list PySem.F.slot_list_append PySem.F.type_list_append mt_append (pv 4) (pa_cons (pe_imp (t' := tRow cs [1, 2, 3] [3, 2, 1] 3 kx3) (pe_tup (pa_cons (pe_ox E5.o F5 hr B5 pass0 (by rfl) N.m5 (pa_cons (pv 1) (pa_cons (pv 2) (pa_cons (pv 3) pa_nil)))) (pa_cons (pe_oxK E5.o F5 hr K5 pass0 (by rfl) N.m5 (pk_cons (pv 3) (pk_cons (pv 2) (pk_cons (pv 1) pk_nil)))) (pa_cons (pe_lst (pa_cons (pv 1) (pa_cons (pv 2) (pa_cons (pv 3) pa_nil)))) pa_nil)))) (fun _ _ _ h => row_use (js := [1, 2, 3]) (jk := [3, 2, 1]) (n := 3) E5 rfl (by decide) (by decide) h)) pa_nil)))
      (pss_cons (ps_expr (pe_bm PySem.F.plainAttrs_list PySem.F.slot_list_append PySem.F.type_list_append mt_append (pv 4) (pa_cons (pe_imp (t' := tRow cs [1, 2, 3] [3, 1, 2] 3 kx4) (pe_tup (pa_cons (pe_ox E6.o F6 hr B6 pass0 (by rfl) N.m6 (pa_cons (pv 1) (pa_cons (pv 2) (pa_cons (pv 3) pa_nil)))) (pa_cons (pe_oxK E6.o F6 hr K6 pass0 (by rfl) N.m6 (pk_cons (pv 3) (pk_cons (pv 1) (pk_cons (pv 2) pk_nil)))) (pa_cons (pe_lst (pa_cons (pv 1) (pa_cons (pv 2) (pa_cons (pv 3) pa_nil)))) pa_nil)))) (fun _ _ _ h => row_use (js := [1, 2, 3]) (jk := [3, 1, 2]) (n := 3) E6 rfl (by decide) (by decide) h)) pa_nil)))
      (pss_one (ps_ret (pv 4))))))))))), ?_⟩
    refine ⟨.ref b, rfl, b, n, rfl, hb, by omega, fun H1 xa k1 b1 => ?_⟩
    refine ⟨.ref b, rfl, b, n + 1, rfl, b1, by omega, fun H2 xb k2 b2 => ?_⟩
    refine ⟨.ref b, rfl, b, n + 2, rfl, b2, by omega, fun H3 xc k3 b3 => ?_⟩
    refine ⟨.str xa, .str xb, .int xc, rfl, ?_⟩
    have K0 := (k1.trans k2).trans k3
    refine ⟨[.str xa], [.str xa], rfl, rfl, rfl, rfl, fun _ => rfl, (plS xa), fun A1 v1 l1 s1 n1 w1 => ?_⟩
    refine ⟨[.int xc], [.int xc], rfl, rfl, rfl, rfl, fun _ => rfl, (plI xc), fun A2 v2 l2 s2 n2 w2 => ⟨(by show 2 ≤ sizeLine; decide), fun p0 np0 => ?_⟩⟩
    have t1 := (s1.trans s2).trans (same_upd (o := .lst [v1, v2]) np0)
    have r1 : Rows0 cs (upd A2 p0 (.lst [v1, v2])) [v1, v2] := (Rows0.two (w1.keep s2) w2).keep (same_upd np0)
    have e1 : (upd A2 p0 (.lst [v1, v2])) p0 = some (.lst [v1, v2]) := upd_same
    show tSeq _ _ _ _ (upd A2 p0 (.lst [v1, v2]))
    generalize upd A2 p0 (.lst [v1, v2]) = G1 at t1 r1 e1 ⊢
    refine ⟨.ref p0, rfl, ?_⟩
    refine ⟨[.str xa], [.str xa], rfl, rfl, rfl, rfl, fun _ => rfl, (plS xa), fun A3 v3 l3 s3 n3 w3 => ?_⟩
    refine ⟨[.int xc], [.int xc], rfl, rfl, rfl, rfl, fun _ => rfl, (plI xc), fun A4 v4 l4 s4 n4 w4 => ⟨(by show 2 ≤ sizeLine; decide), fun z1 nz1 => ?_⟩⟩
    have u1 := (s3.trans s4).trans (same_upd (o := .lst [v3, v4]) nz1)
    refine cat_use (u1 _ _ e1) upd_same (by show 2 + 2 ≤ 1000; decide) fun G2 p1 s np1 e2 => ?_
    have rr1 := (r1.keep u1).add ((Rows0.two (w3.keep s4) w4).keep (same_upd nz1))
    have t2 := (t1.trans u1).trans s
    have r2 := rr1.keep s
    refine ⟨.ref p1, rfl, ?_⟩
    refine ⟨[.str xa], [.str xa], rfl, rfl, rfl, rfl, fun _ => rfl, (plS xa), fun A5 v5 l5 s5 n5 w5 => ?_⟩
    refine ⟨[.int xc], [.int xc], rfl, rfl, rfl, rfl, fun _ => rfl, (plI xc), fun A6 v6 l6 s6 n6 w6 => ⟨(by show 2 ≤ sizeLine; decide), fun z2 nz2 => ?_⟩⟩
    have u2 := (s5.trans s6).trans (same_upd (o := .lst [v5, v6]) nz2)
    refine cat_use (u2 _ _ e2) upd_same (by show 4 + 2 ≤ 1000; decide) fun G3 p2 s np2 e3 => ?_
    have rr2 := (r2.keep u2).add ((Rows0.two (w5.keep s6) w6).keep (same_upd nz2))
    have t3 := (t2.trans u2).trans s
    have r3 := rr2.keep s
    refine ⟨.ref p2, rfl, ?_⟩
    refine ⟨[.int xc], [.int xc], rfl, rfl, rfl, rfl, fun _ => rfl, (plI xc), fun A7 v7 l7 s7 n7 w7 => ?_⟩
    refine ⟨[.str xa, .str xb], [.str xb, .str xa], rfl, rfl, rfl, rfl, fun _ => rfl, (plSS xa xb), fun A8 v8 l8 s8 n8 w8 => ⟨(by show 2 ≤ sizeLine; decide), fun z3 nz3 => ?_⟩⟩
    have u3 := (s7.trans s8).trans (same_upd (o := .lst [v7, v8]) nz3)
    refine cat_use (u3 _ _ e3) upd_same (by show 6 + 2 ≤ 1000; decide) fun G4 p3 s np3 e4 => ?_
    have rr3 := (r3.keep u3).add ((Rows0.two (w7.keep s8) w8).keep (same_upd nz3))
    have t4 := (t3.trans u3).trans s
    have q4 := (rr3.fresh np3).keep s
    have m3 : H p3 = none := by
      cases c : H p3 with
      | none => rfl
      | some o =>
        exfalso
        by_cases z : p3 = b
        · obtain ⟨_, _, _, e, _⟩ := b3.same (t3.trans u3)
          rw [← z, np3] at e
          cases e
        · have e := (t3.trans u3) _ _ (K0 _ _ z c)
          rw [np3] at e
          cases e
    have far : ∀ {c : Addr} {o : HO}, G4 c = some o → True := fun _ => trivial
    have kk4 : Keep b H G4 := K0.trans (Keep.of_same t4)
    have npb : p3 ≠ b := fun z => by
      obtain ⟨_, _, _, e, _⟩ := hb
      rw [← z, m3] at e
      cases e
    generalize hvs : ([v1, v2] ++ [v3, v4] ++ [v5, v6] ++ [v7, v8] : List V) = rows at e4 q4
    have lr : rows.length = 8 := by
      rw [← hvs]
      rfl
    refine ⟨.ref p3, rfl, .inl ⟨rfl, _, SqL.of e4⟩, ?_⟩
    refine ⟨[.str xa, .str xb], [.str xb, .str xa], rfl, rfl, rfl, rfl, fun _ => rfl, (plSS xa xb), fun A9 v9 l9 s9 n9 w9 => ?_⟩
    refine ⟨p3, _, v9, rfl, rfl, s9 _ _ e4, small1000 (by omega), ?_⟩
    have q5 := (q4.keep s9).put (ys := rows ++ [v9]) w9 (fun z => by rw [z, e4] at n9; cases n9) (s9 _ _ e4)
    have e5 : (upd A9 p3 (.lst (rows ++ [v9]))) p3 = some (.lst (rows ++ [v9])) := upd_same
    have kk5 : Keep b H (upd A9 p3 (.lst (rows ++ [v9]))) := fun c o nb ec => by
      rw [upd_ne (ne_of_none ec m3)]
      exact s9 _ _ (kk4 c o nb ec)
    have lr5 : (rows ++ [v9]).length = 8 + 1 := by
      rw [List.length_append, lr]
      rfl
    show tSeq _ _ _ _ (upd A9 p3 (.lst (rows ++ [v9])))
    generalize upd A9 p3 (.lst (rows ++ [v9])) = G5 at q5 e5 kk5 ⊢
    generalize (rows ++ [v9]) = rows5 at q5 e5 lr5
    refine ⟨.ref p3, rfl, .inl ⟨rfl, _, SqL.of e5⟩, ?_⟩
    refine ⟨[.str xa, .str xb, .int xc], [.int xc, .str xb, .str xa], rfl, rfl, rfl, rfl, fun _ => rfl, (plSSI xa xb xc), fun A10 v10 l10 s10 n10 w10 => ?_⟩
    refine ⟨p3, _, v10, rfl, rfl, s10 _ _ e5, small1000 (by omega), ?_⟩
    have q6 := (q5.keep s10).put (ys := rows5 ++ [v10]) w10 (fun z => by rw [z, e5] at n10; cases n10) (s10 _ _ e5)
    have e6 : (upd A10 p3 (.lst (rows5 ++ [v10]))) p3 = some (.lst (rows5 ++ [v10])) := upd_same
    have kk6 : Keep b H (upd A10 p3 (.lst (rows5 ++ [v10]))) := fun c o nb ec => by
      rw [upd_ne (ne_of_none ec m3)]
      exact s10 _ _ (kk5 c o nb ec)
    have lr6 : (rows5 ++ [v10]).length = 9 + 1 := by
      rw [List.length_append, lr5]
      rfl
    show tSeq _ _ _ _ (upd A10 p3 (.lst (rows5 ++ [v10])))
    generalize upd A10 p3 (.lst (rows5 ++ [v10])) = G6 at q6 e6 kk6 ⊢
    generalize (rows5 ++ [v10]) = rows6 at q6 e6 lr6
    refine ⟨.ref p3, rfl, .inl ⟨rfl, _, SqL.of e6⟩, ?_⟩
    refine ⟨[.str xa, .str xb, .int xc], [.int xc, .str xa, .str xb], rfl, rfl, rfl, rfl, fun _ => rfl, (plSSI xa xb xc), fun A11 v11 l11 s11 n11 w11 => ?_⟩
    refine ⟨p3, _, v11, rfl, rfl, s11 _ _ e6, small1000 (by omega), ?_⟩
    have q7 := (q6.keep s11).put (ys := rows6 ++ [v11]) w11 (fun z => by rw [z, e6] at n11; cases n11) (s11 _ _ e6)
    have e7 : (upd A11 p3 (.lst (rows6 ++ [v11]))) p3 = some (.lst (rows6 ++ [v11])) := upd_same
    have kk7 : Keep b H (upd A11 p3 (.lst (rows6 ++ [v11]))) := fun c o nb ec => by
      rw [upd_ne (ne_of_none ec m3)]
      exact s11 _ _ (kk6 c o nb ec)
    have lr7 : (rows6 ++ [v11]).length = 10 + 1 := by
      rw [List.length_append, lr6]
      rfl
    generalize upd A11 p3 (.lst (rows6 ++ [v11])) = G7 at q7 e7 kk7 ⊢
    generalize (rows6 ++ [v11]) = rows7 at q7 e7 lr7
    refine ⟨.ref p3, rfl, q G7 p3 rows7 kk7 m3 e7 (by omega) fun v m => ?_⟩
    obtain ⟨l, _, r⟩ := q7 v m
    exact ⟨l, r⟩
end
end K97
set_option maxHeartbeats 4000000
namespace K97
open PySem PySem.Spec PyProof.Rows L2 CS RZ
section
variable {P : Program} {w : World} {K : PySem.W.Frag} {mg : Str → Option Value} {base : Heap} {cs : List Addr}
def isV (i : Nat) : Bool := decide (2 ≤ i)
def isL (i : Nat) : Bool := decide (i < 2)
def tIsO (K : PySem.W.Frag) (cs : List Addr) (s : Nat) (f : Nat → Bool) : TE := fun σ H Q => ∃ (v : V) (i : Nat), σ[s]? = some (some v) ∧ Er0 K cs H v i ∧ Q (.bl (f i)) H
theorem isV_use (T : ET K cs) {s : Nat} (σ : L2.St) (H : Hp) (Q : VK) (h : tIsO K cs s isV σ H Q) : tCB (rIsX K) (tCons (tVar s) (tCons (tC (.ty "ValueError")) tNil)) σ H Q := by
  obtain ⟨v, i, e, ⟨a, d, rfl, hi, ea, ed⟩, q⟩ := h
  exact ⟨.ref a, e, a, cl cs i, d, _, _, _, rfl, ea, ed, T.csx i hi, fun _ r => r, T.kV i hi, q⟩
theorem isL_use (T : ET K cs) {s : Nat} (σ : L2.St) (H : Hp) (Q : VK) (h : tIsO K cs s isL σ H Q) : tCB (rIsX K) (tCons (tVar s) (tCons (tC (.ty "LookupError")) tNil)) σ H Q := by
  obtain ⟨v, i, e, ⟨a, d, rfl, hi, ea, ed⟩, q⟩ := h
  exact ⟨.ref a, e, a, cl cs i, d, _, _, _, rfl, ea, ed, T.csx i hi, fun _ r => r, T.kL i hi, q⟩
def tIs2 (K : PySem.W.Frag) (cs : List Addr) (s : Nat) (js : List Nat) : TE := fun σ H Q => ∃ (v : V) (i : Nat), σ[s]? = some (some v) ∧ Er0 K cs H v i ∧ ∀ H' : Hp, Same H H' → Q (.bl (js.any fun j => decide (i = j))) H'
theorem any2 (T : ET K cs) {i a b : Nat} (hi : i < 17) (ha : a < 17) (hb : b < 17) : PySem.W.kitAny K (.ref (cl cs i)) ([cl cs a, cl cs b].map Value.ref) = some ([a, b].any fun j => decide (i = j)) := by
  have step : ∀ (j : Nat) (r : List Value), j < 17 → PySem.W.kitAny K (.ref (cl cs i)) (.ref (cl cs j) :: r) = if i = j then some true else PySem.W.kitAny K (.ref (cl cs i)) r := fun j r hj => by
    show (match PySem.W.kitOne K (.ref (cl cs i)) (.ref (cl cs j)) with | some true => some true | some false => PySem.W.kitAny K (.ref (cl cs i)) r | none => none) = _
    rw [T.kit i j hi hj]
    by_cases c : i = j
    · rw [decide_eq_true c, if_pos c]
    · rw [decide_eq_false c, if_neg c]
  show PySem.W.kitAny K (.ref (cl cs i)) [.ref (cl cs a), .ref (cl cs b)] = _
  rw [step a _ ha, step b _ hb]
  by_cases e1 : i = a
  · simp [e1]
  · by_cases e2 : i = b
    · simp [e1, e2]
    · simp [e1, e2, PySem.W.kitAny]
theorem is2_use (T : ET K cs) {s a b : Nat} (ha : a < 17) (hb : b < 17) (σ : L2.St) (H : Hp) (Q : VK) (h : tIs2 K cs s [a, b] σ H Q) : tCB (rIsXT K) (tCons (tVar s) (tCons (tTup (tCons (tC (.ref (cl cs a))) (tCons (tC (.ref (cl cs b))) tNil))) tNil)) σ H Q := by
  obtain ⟨v, i, e, er, q⟩ := h
  obtain ⟨a0, d, rfl, hi, ea, ed⟩ := id er
  refine ⟨.ref a0, e, (by show 2 ≤ sizeLine; decide), fun p np => ?_⟩
  have s1 := same_upd (o := .tup ([cl cs a, cl cs b].map V.ref)) np
  obtain ⟨a1, d1, e1, _, ea1, ed1⟩ := er.keep s1
  cases e1
  exact ⟨a0, cl cs i, p, d1, [cl cs a, cl cs b], _, rfl, ea1, ed1, T.csx i hi, SqT.of upd_same, any2 T hi ha hb, q _ s1⟩
def tFl (K : PySem.W.Frag) (cs : List Addr) (s : Nat) (f : Str) : TE := fun σ H Q => ∃ (a : Addr) (i : Nat) (fs : List (Str × V)) (v : V), σ[s]? = some (some (.ref a)) ∧ Er cs H a i fs ∧ (∃ fI nm, EF K (cl cs i) fI nm ∧ f ∈ nm) ∧ fs.lookup f = some v ∧ Q v H
theorem fl_use {s : Nat} {f : Str} (σ : L2.St) (H : Hp) (Q : VK) (h : tFl K cs s f σ H Q) : tXoF K f (tVar s) σ H Q := by
  obtain ⟨a, i, fs, v, e, ⟨d, hi, ea, ed⟩, ⟨fI, nm, F, m⟩, l, q⟩ := h
  exact ⟨.ref a, e, a, cl cs i, d, fs, v, rfl, ea, ed, F.f, F.no f m, l, q⟩
/-- errors without fields -/
def tBare (K : PySem.W.Frag) (cs : List Addr) : TE := fun _ H Q => ∀ (H' : Hp) (p : Addr) (es : List V), Same H H' → H' p = some (.lst es) → (∀ e ∈ es, ∃ i, 2 ≤ i ∧ Er0 K cs H' e i) → Q (.ref p) H'
def tEx0 (cs : List Addr) (i : Nat) : TE := fun _ H Q => ∀ a, H a = none → Q (.ref a) (upd H a (XO (.ref (cl cs i)) none a))
theorem ex0_at {H : Hp} {a : Addr} {i : Nat} (hi : i < 17) : Er0 K cs (upd H a (XO (.ref (cl cs i)) none a)) (.ref a) i := ⟨a, none, rfl, hi, upd_same, .inl rfl⟩
theorem bare_use (σ : L2.St) (H : Hp) (Q : VK) (h : tBare K cs σ H Q) : tLst (tCons (tEx0 cs 2) (tCons (tEx0 cs 8) (tCons (tEx0 cs 9) (tCons (tEx0 cs 12) (tCons (tEx0 cs 14) (tCons (tEx0 cs 16) tNil)))))) σ H Q := by
  intro a0 n0 a1 n1 a2 n2 a3 n3 a4 n4 a5 n5
  refine ⟨(by show 6 ≤ sizeLine; decide), fun p np => ?_⟩
  have s0 := same_upd (o := XO (.ref (cl cs 2)) none a0) n0
  have x0 : Er0 K cs (upd H a0 (XO (.ref (cl cs 2)) none a0)) (.ref a0) 2 := ex0_at (by decide)
  generalize upd H a0 (XO (.ref (cl cs 2)) none a0) = H0 at *
  have s1 := same_upd (o := XO (.ref (cl cs 8)) none a1) n1
  have x1 : Er0 K cs (upd H0 a1 (XO (.ref (cl cs 8)) none a1)) (.ref a1) 8 := ex0_at (by decide)
  generalize upd H0 a1 (XO (.ref (cl cs 8)) none a1) = H1 at *
  have s2 := same_upd (o := XO (.ref (cl cs 9)) none a2) n2
  have x2 : Er0 K cs (upd H1 a2 (XO (.ref (cl cs 9)) none a2)) (.ref a2) 9 := ex0_at (by decide)
  generalize upd H1 a2 (XO (.ref (cl cs 9)) none a2) = H2 at *
  have s3 := same_upd (o := XO (.ref (cl cs 12)) none a3) n3
  have x3 : Er0 K cs (upd H2 a3 (XO (.ref (cl cs 12)) none a3)) (.ref a3) 12 := ex0_at (by decide)
  generalize upd H2 a3 (XO (.ref (cl cs 12)) none a3) = H3 at *
  have s4 := same_upd (o := XO (.ref (cl cs 14)) none a4) n4
  have x4 : Er0 K cs (upd H3 a4 (XO (.ref (cl cs 14)) none a4)) (.ref a4) 14 := ex0_at (by decide)
  generalize upd H3 a4 (XO (.ref (cl cs 14)) none a4) = H4 at *
  have s5 := same_upd (o := XO (.ref (cl cs 16)) none a5) n5
  have x5 : Er0 K cs (upd H4 a5 (XO (.ref (cl cs 16)) none a5)) (.ref a5) 16 := ex0_at (by decide)
  generalize upd H4 a5 (XO (.ref (cl cs 16)) none a5) = H5 at *
  have s6 := same_upd (o := .lst [.ref a0, .ref a1, .ref a2, .ref a3, .ref a4, .ref a5]) np
  refine h _ p [.ref a0, .ref a1, .ref a2, .ref a3, .ref a4, .ref a5] ((((((s0.trans s1).trans s2).trans s3).trans s4).trans s5).trans s6) upd_same fun e m => ?_
  rcases List.mem_cons.mp m with rfl | m
  · exact ⟨2, by decide, x0.keep (((((s1.trans s2).trans s3).trans s4).trans s5).trans s6)⟩
  rcases List.mem_cons.mp m with rfl | m
  · exact ⟨8, by decide, x1.keep ((((s2.trans s3).trans s4).trans s5).trans s6)⟩
  rcases List.mem_cons.mp m with rfl | m
  · exact ⟨9, by decide, x2.keep (((s3.trans s4).trans s5).trans s6)⟩
  rcases List.mem_cons.mp m with rfl | m
  · exact ⟨12, by decide, x3.keep ((s4.trans s5).trans s6)⟩
  rcases List.mem_cons.mp m with rfl | m
  · exact ⟨14, by decide, x4.keep (s5.trans s6)⟩
  rw [List.mem_singleton.mp m]
  exact ⟨16, by decide, x5.keep s6⟩
structure XBare (K : PySem.W.Frag) (cs : List Addr) : Prop where
  q2 : PySem.W.excIn K (cl cs 2) [.type "ValueError", .type "Exception", .type "BaseException", .type "object"] "ValueError.__new__" = true
  k2 : PySem.W.keepIn K (.ref (cl cs 2)) = true
  q8 : PySem.W.excIn K (cl cs 8) [.type "ValueError", .type "Exception", .type "BaseException", .type "object"] "ValueError.__new__" = true
  k8 : PySem.W.keepIn K (.ref (cl cs 8)) = true
  q9 : PySem.W.excIn K (cl cs 9) [.type "ValueError", .type "Exception", .type "BaseException", .type "object"] "ValueError.__new__" = true
  k9 : PySem.W.keepIn K (.ref (cl cs 9)) = true
  q12 : PySem.W.excIn K (cl cs 12) [.type "ValueError", .type "Exception", .type "BaseException", .type "object"] "ValueError.__new__" = true
  k12 : PySem.W.keepIn K (.ref (cl cs 12)) = true
  q14 : PySem.W.excIn K (cl cs 14) [.type "ValueError", .type "Exception", .type "BaseException", .type "object"] "ValueError.__new__" = true
  k14 : PySem.W.keepIn K (.ref (cl cs 14)) = true
  q16 : PySem.W.excIn K (cl cs 16) [.type "ValueError", .type "Exception", .type "BaseException", .type "object"] "ValueError.__new__" = true
  k16 : PySem.W.keepIn K (.ref (cl cs 16)) = true
structure RiG (P : Program) (w : World) (K : PySem.W.Frag) (mg : Str → Option Value) (base : Heap) (cs : List Addr) (k : Nat) (fS : Addr) (dS : FuncData) (fK : Addr) (dK : FuncData) (fC : Addr) (dC : FuncData) (fM : Addr) (dM : FuncData) : Prop where
  gS : FnOk P w K mg base CX0 k fS dS ["_law_got", "_law_due"] (spSame K 2)
  bS : Binds K dS ["_law_got", "_law_due"] []
  kS : PySem.W.keepIn K (.ref fS) = true
  mS : mg "_law_same" = some (.ref fS)
  gK : FnOk P w K mg base CX0 k fK dK ["_law_error_so"] (spKept cs)
  bK : Binds K dK ["_law_error_so"] []
  kK : PySem.W.keepIn K (.ref fK) = true
  mK : mg "_law_kept" = some (.ref fK)
  gC : FnOk P w K mg base CX0 k fC dC ["_law_e"] (spClasses K cs)
  bC : Binds K dC ["_law_e"] []
  kC : PySem.W.keepIn K (.ref fC) = true
  mC : mg "_law_classes" = some (.ref fC)
  gM : FnOk P w K mg base CX0 k fM dM ["_law_box_here"] (spMade cs)
  bM : Binds K dM ["_law_box_here"] []
  kM : PySem.W.keepIn K (.ref fM) = true
  mM : mg "_law_made" = some (.ref fM)
/-- values that are told as they are -/
theorem plain_dp {H : Hp} : ∀ {ys : List V}, (∀ y ∈ ys, PlainV y) → ∃ ds : List PyData, DpAll K H ys ds ∧ ∀ d ∈ ds, okD 1 d
  | [], _ => ⟨[], .nil, fun d m => by cases m⟩
  | y :: ys, h => by
    obtain ⟨ds, h1, h2⟩ := plain_dp (H := H) fun z m => h z (List.mem_cons_of_mem _ m)
    rcases h y List.mem_cons_self with ⟨z, rfl⟩ | ⟨c, rfl⟩
    · refine ⟨.str z :: ds, .cons (.str z) h1, fun d m => ?_⟩
      rcases List.mem_cons.mp m with rfl | m
      · trivial
      · exact h2 d m
    · refine ⟨.int c :: ds, .cons (.int c) h1, fun d m => ?_⟩
      rcases List.mem_cons.mp m with rfl | m
      · trivial
      · exact h2 d m
theorem okD_six (z1 z2 z3 z4 : Str) (c1 c2 : Int) : okD 2 (.list [.str z1, .str z2, .int c1, .str z3, .str z4, .int c2]) := ⟨by show 6 ≤ 1000; decide, fun d m => by
  simp only [List.mem_cons, List.mem_nil_iff, or_false] at m
  rcases m with rfl | rfl | rfl | rfl | rfl | rfl <;> trivial⟩
theorem okD_bb (c1 c2 : Bool) : okD 2 (.list [.bool c1, .bool c2]) := ⟨by show 2 ≤ 1000; decide, fun d m => by
  simp only [List.mem_cons, List.mem_nil_iff, or_false] at m
  rcases m with rfl | rfl <;> trivial⟩
theorem flds_len : ∀ i, i < 17 → (flds i).length ≤ 3 := by decide
theorem low_high : ∀ i, i < 17 → isL i = ([0, 1].any fun j => decide (i = j)) ∧ isV i = !([0, 1].any fun j => decide (i = j)) := by decide
def spRight : Sp := fun vs H Q _ => ∃ (b : Addr), vs = [.ref b] ∧ BoxAt H b 0 ∧ ∀ H' : Hp, Keep b H H' → Q (.bl true) H'
abbrev nRight : List Str := ["_law_box_here", "_law_own", "_law_far", "_law_bare", "_law_one_so", "_law_far_so", "_law_due", "_law_high"]
theorem scRight : FnScope nRight ["_law_box_here"] (defScope sRight) := ⟨rfl, rfl, rfl, by decide +kernel, rfl, by decide +kernel, by decide +kernel⟩
theorem ok_right {f fS fK fC fM : Addr} {fd dS dK dC dM : FuncData} {k : Nat} (F : Fun K "_law_right" "_law_right" sRight f fd) (G : RiG P w K mg base cs (k + 1) fS dS fK dK fC dC fM dM) (T : SmT mg) (TE : ET K cs) (N : NT mg cs) (XB : XBare K cs) (TF : ∀ i, i < 17 → flds i ≠ [] → ∃ fI, EF K (cl cs i) fI (flds i)) (mV : mg "ValueError" = none) (mL : mg "LookupError" = none)
    (M6 : MkC P w K mg base cs k 6 ["one", "other", "lacking"] ["lacking", "one", "other"] kx4 kx4) (M5 : MkC P w K mg base cs k 5 ["one", "other", "number"] ["one", "other", "number"] kx5 kx5) : FnOk P w K mg base CX0 (k + 2) f fd ["_law_box_here"] spRight := by
  refine F.ok scRight (fun vs H Q E h => ?_) (fun cdv A outer s H vs Q E hr h => ?_)
  · obtain ⟨b, rfl, _⟩ := h
    rfl
  · obtain ⟨b, rfl, hb, q⟩ := h
    obtain ⟨fI6, fd6, E6, F6, B6, _⟩ := M6
    obtain ⟨fI5, fd5, E5, F5, _, K5⟩ := M5
    refine ⟨_, (pss_cons (ps_par (i := 1) (j := 2) (by rfl) scRight.nd rfl rfl (by decide) rfl rfl (pa_cons (pe_ox E6.o F6 hr B6 pass0 (by rfl) N.m6 (pa_cons pe_str (pa_cons pe_str (pa_cons pe_int pa_nil)))) (pa_cons (pe_oxK E5.o F5 hr K5 pass0 (by rfl) N.m5 (pk_cons pe_str (pk_cons pe_str (pk_cons (pe_un un_neg pe_int) pk_nil)))) pa_nil)) (by rfl))
      (pss_cons (ps_if (pt_not (pt_val (pe_call G.gS hr (by rfl) G.mS G.kS G.bS .nil pass0 (pa_cons (pe_lst (pa_cons (pe_imp (t' := tFl K cs 1 "one") (pe_xof (pv 1)) fl_use) (pa_cons (pe_imp (t' := tFl K cs 1 "other") (pe_xof (pv 1)) fl_use) (pa_cons (pe_imp (t' := tFl K cs 1 "lacking") (pe_xof (pv 1)) fl_use) (pa_cons (pe_imp (t' := tFl K cs 2 "one") (pe_xof (pv 2)) fl_use) (pa_cons (pe_imp (t' := tFl K cs 2 "other") (pe_xof (pv 2)) fl_use) (pa_cons (pe_imp (t' := tFl K cs 2 "number") (pe_xof (pv 2)) fl_use) pa_nil))))))) (pa_cons (pe_lst (pa_cons pe_str (pa_cons pe_str (pa_cons pe_int (pa_cons pe_str (pa_cons pe_str (pa_cons (pe_un un_neg pe_int) pa_nil))))))) pa_nil))))) (pss_one (ps_ret pe_bl)) pss_nil)
      (pss_cons (ps_set (i := 3) scRight.nd rfl (.inl rfl) (pe_imp (t' := tBare K cs) (pe_lst (pa_cons (pe_ox0 PySem.F.excBase_ValueError (XB.q2) N.m2 (XB.k2) (by rfl)) (pa_cons (pe_ox0 PySem.F.excBase_ValueError (XB.q8) N.m8 (XB.k8) (by rfl)) (pa_cons (pe_ox0 PySem.F.excBase_ValueError (XB.q9) N.m9 (XB.k9) (by rfl)) (pa_cons (pe_ox0 PySem.F.excBase_ValueError (XB.q12) N.m12 (XB.k12) (by rfl)) (pa_cons (pe_ox0 PySem.F.excBase_ValueError (XB.q14) N.m14 (XB.k14) (by rfl)) (pa_cons (pe_ox0 PySem.F.excBase_ValueError (XB.q16) N.m16 (XB.k16) (by rfl)) pa_nil))))))) bare_use))
      (pss_cons (ps_for PassesOwn.never rfl (pi_list (pv 3)) (pg_name (i := 1) scRight.nd rfl (.inl rfl)) (pss_one (ps_if (PW.pt (pw_or (pt_cmpR op_ne (pe_call G.gC hr (by rfl) G.mC G.kC G.bC .nil pass0 (pa_cons (pv 1) pa_nil)) pe_int (nomark _)) (pw_or (pt_not (pt_val (pe_imp (t' := tIsO K cs 1 isV) (pe_callB call_isX (by rfl) T.is (by decide +kernel) (pa_cons (pv 1) (pa_cons (pe_bltn (v := .ty "ValueError") (by rfl) mV (by decide +kernel) rfl) pa_nil))) (isV_use TE)))) (pw_or1 (pt_val (pe_imp (t' := tIsO K cs 1 isL) (pe_callB call_isX (by rfl) T.is (by decide +kernel) (pa_cons (pv 1) (pa_cons (pe_bltn (v := .ty "LookupError") (by rfl) mL (by decide +kernel) rfl) pa_nil))) (isL_use TE))))))) (pss_one (ps_ret pe_bl)) pss_nil)))
      (pss_cons (ps_for PassesOwn.never rfl (pi_list (pe_call G.gM hr (by rfl) G.mM G.kM G.bM .nil pass0 (pa_cons (pv 0) pa_nil))) (pg_tup rfl (pgs_cons (pg_name (i := 4) scRight.nd rfl (.inl rfl)) (pgs_cons (pg_name (i := 5) scRight.nd rfl (.inl rfl)) (pgs_cons (pg_name (i := 6) scRight.nd rfl (.inl rfl)) pgs_nil)))) (pss_one (ps_for PassesOwn.never rfl (pi_tup (pe_tup (pa_cons (pv 4) (pa_cons (pv 5) pa_nil)))) (pg_name (i := 1) scRight.nd rfl (.inl rfl))
        (pss_cons (ps_set (i := 7) scRight.nd rfl (.inl rfl) (pe_imp (t' := tIs2 K cs 1 [0, 1]) (pe_callB call_isXT (by rfl) T.is (by decide +kernel) (pa_cons (pv 1) (pa_cons (pe_tup (pa_cons (pe_glob (v := .ref (cl cs 0)) (by rfl) (N.m0) rfl) (pa_cons (pe_glob (v := .ref (cl cs 1)) (by rfl) (N.m1) rfl) pa_nil))) pa_nil))) (is2_use TE (by decide) (by decide))))
          (pss_cons (ps_if (PW.pt (pw_or (pt_not (pt_val (pe_call G.gS hr (by rfl) G.mS G.kS G.bS .nil pass0 (pa_cons (pe_call G.gK hr (by rfl) G.mK G.kK G.bK .nil pass0 (pa_cons (pv 1) pa_nil)) (pa_cons (pv 6) pa_nil))))) (pw_or1 (pt_cmpR op_ne (pe_call G.gC hr (by rfl) G.mC G.kC G.bC .nil pass0 (pa_cons (pv 1) pa_nil)) pe_int (nomark _))))) (pss_one (ps_ret pe_bl)) pss_nil)
          (pss_one (ps_if (pt_not (pt_val (pe_call G.gS hr (by rfl) G.mS G.kS G.bS .nil pass0 (pa_cons (pe_lst (pa_cons (pe_imp (t' := tIsO K cs 1 isL) (pe_callB call_isX (by rfl) T.is (by decide +kernel) (pa_cons (pv 1) (pa_cons (pe_bltn (v := .ty "LookupError") (by rfl) mL (by decide +kernel) rfl) pa_nil))) (isL_use TE)) (pa_cons (pe_imp (t' := tIsO K cs 1 isV) (pe_callB call_isX (by rfl) T.is (by decide +kernel) (pa_cons (pv 1) (pa_cons (pe_bltn (v := .ty "ValueError") (by rfl) mV (by decide +kernel) rfl) pa_nil))) (isV_use TE)) pa_nil))) (pa_cons (pe_lst (pa_cons (pv 7) (pa_cons (pe_not (pv 7)) pa_nil))) pa_nil))))) (pss_one (ps_ret pe_bl)) pss_nil)))))))
      (pss_one (ps_ret pe_bl))))))), ?_⟩
    refine ⟨(by show 3 ≤ 1000; decide), mk_use (ys := [.str "a", .str "b", .int 3]) E6 rfl fun H1 a d s1 na ea ed => ?_⟩
    refine ⟨2, rfl, rfl, fun c nc => mk_use (ys := [.str "a", .str "b", .int (-2)]) E5 rfl (fun H2 c d2 s2 nc ec ed2 => ?_) c nc⟩
    refine ⟨_, _, rfl, ?_⟩
    have A : Er cs H2 a 6 [("lacking", .int 3), ("other", .str "b"), ("one", .str "a")] := ⟨d, by decide, s2 _ _ ea, s2 _ _ ed⟩
    have B : Er cs H2 c 5 [("number", .int (-2)), ("other", .str "b"), ("one", .str "a")] := ⟨d2, by decide, ec, ed2⟩
    refine ⟨a, 6, _, .str "a", rfl, A, ⟨fI6, _, E6, by decide +kernel⟩, rfl, a, 6, _, .str "b", rfl, A, ⟨fI6, _, E6, by decide +kernel⟩, rfl, a, 6, _, .int 3, rfl, A, ⟨fI6, _, E6, by decide +kernel⟩, rfl,
      c, 5, _, .str "a", rfl, B, ⟨fI5, _, E5, by decide +kernel⟩, rfl, c, 5, _, .str "b", rfl, B, ⟨fI5, _, E5, by decide +kernel⟩, rfl, c, 5, _, .int (-2), rfl, B, ⟨fI5, _, E5, by decide +kernel⟩, rfl, (by show 6 ≤ sizeLine; decide), fun p np => ?_⟩
    have t3 := same_upd (o := .lst [V.str "a", V.str "b", V.int 3, V.str "a", V.str "b", V.int (-2)]) np
    have e3 : (upd H2 p (.lst [V.str "a", V.str "b", V.int 3, V.str "a", V.str "b", V.int (-2)])) p = some (.lst [V.str "a", V.str "b", V.int 3, V.str "a", V.str "b", V.int (-2)]) := upd_same
    generalize upd H2 p (.lst [V.str "a", V.str "b", V.int 3, V.str "a", V.str "b", V.int (-2)]) = H3 at t3 e3 ⊢
    refine ⟨2, rfl, (by show 6 ≤ sizeLine; decide), fun r nr => ?_⟩
    have t4 := same_upd (o := .lst [V.str "a", V.str "b", V.int 3, V.str "a", V.str "b", V.int (-2)]) nr
    have e4 : (upd H3 r (.lst [V.str "a", V.str "b", V.int 3, V.str "a", V.str "b", V.int (-2)])) r = some (.lst [V.str "a", V.str "b", V.int 3, V.str "a", V.str "b", V.int (-2)]) := upd_same
    generalize upd H3 r (.lst [V.str "a", V.str "b", V.int 3, V.str "a", V.str "b", V.int (-2)]) = H4 at t4 e4 ⊢
    refine ⟨.ref p, .ref r, .list [.str "a", .str "b", .int 3, .str "a", .str "b", .int (-2)], rfl, .lst (SqL.of (t4 _ _ e3)) (.cons (.str _) (.cons (.str _) (.cons (.int _) (.cons (.str _) (.cons (.str _) (.cons (.int _) .nil)))))), .lst (SqL.of e4) (.cons (.str _) (.cons (.str _) (.cons (.int _) (.cons (.str _) (.cons (.str _) (.cons (.int _) .nil)))))), okD_six _ _ _ _ _ _, fun H5 t5 => ⟨_, rfl, ?_⟩⟩
    refine ite2 (fun z => by cases z) (fun _ => ?_)
    have s5 : Same H H5 := (((s1.trans s2).trans t3).trans t4).trans t5
    clear A B t3 t4 t5 e3 e4 s1 s2
    refine fun H6 p6 es s6 e6 hes => ?_
    refine ⟨.ref p6, rfl, p6, rfl, ⟨_, SqL.of e6⟩, for_list (K := K) (a := p6) (xs := es) (fun i σ H' => ∃ y1 : Option V, σ = [some (.ref b), y1, some (.ref c), some (.ref p6), none, none, none, none] ∧ Same H6 H') ⟨_, rfl, fun _ _ e => e⟩ (fun i σ H' _ z => by
        obtain ⟨_, _, s⟩ := z
        exact SqL.of (s _ _ e6)) ?_ ?_⟩
    · rintro i x σ H7 hx ⟨y1, rfl, s7⟩
      obtain ⟨j, hj, er⟩ := hes x (List.mem_of_getElem? hx)
      have er7 := er.keep s7
      have isv : isV j = true := decide_eq_true hj
      have isl : isL j = false := decide_eq_false (by omega)
      refine ⟨x, rfl, x, j, rfl, er7, fun H8 s8 => ⟨rfl, _, rfl, ?_⟩⟩
      refine ite2 (fun z => by simp at z) (fun _ => ?_)
      have er8 := er7.keep s8
      refine ⟨x, j, rfl, er8, ⟨_, rfl, ?_⟩⟩
      rw [isv]
      refine ite2 (fun z => by cases z) (fun _ => ?_)
      refine ⟨x, j, rfl, er8, ⟨_, rfl, ?_⟩⟩
      rw [isl]
      refine ite2 (fun z => by cases z) (fun _ => ?_)
      exact ⟨_, rfl, s7.trans s8⟩
    rintro σ H7 ⟨y1, rfl, s7⟩
    have b7 := (hb.same s5).same (s6.trans s7)
    have k7 : Keep b H H7 := Keep.of_same ((s5.trans s6).trans s7)
    clear hes e6 s5 s6 s7
    refine ⟨.ref b, rfl, b, 0, rfl, b7, by omega, fun H8 p8 rows k8 n8 e8 l8 r8 => ?_⟩
    refine ⟨p8, rfl, ⟨_, SqL.of e8⟩, for_list (K := K) (a := p8) (xs := rows) (fun i σ H' => ∃ y1 y4 y5 y6 y7 : Option V, σ = [some (.ref b), y1, some (.ref c), some (.ref p6), y4, y5, y6, y7] ∧ Same H8 H') ⟨_, _, _, _, _, rfl, fun _ _ e => e⟩ (fun i σ H' _ z => by
        obtain ⟨_, _, _, _, _, _, s⟩ := z
        exact SqL.of (s _ _ e8)) ?_ ?_⟩
    · rintro i x σ H9 hx ⟨y1, y4, y5, y6, y7, rfl, s9⟩
      obtain ⟨l, rw⟩ := r8 x (List.mem_of_getElem? hx)
      obtain ⟨j, ys, t, a1, a2, rfl, et, A1, A2, el, hl, hf, hp⟩ := rw.keep s9
      have hj : j < 17 := A1.elim fun _ z => z.1
      obtain ⟨lo, hi⟩ := low_high j hj
      generalize eh : ([0, 1].any fun m => decide (j = m)) = high at lo hi
      refine ⟨t, [.ref a1, .ref a2, .ref l], rfl, SqT.of et, rfl, .ref a1, [.ref a2, .ref l], rfl, .ref a2, [.ref l], rfl, .ref l, [], rfl, rfl, ?_⟩
      refine ⟨.ref a1, rfl, .ref a2, rfl, (by show 2 ≤ sizeLine; decide), fun t2 nt2 => ?_⟩
      have sT := same_upd (o := .tup [V.ref a1, V.ref a2]) nt2
      have eT : (upd H9 t2 (.tup [V.ref a1, V.ref a2])) t2 = some (.tup [V.ref a1, V.ref a2]) := upd_same
      generalize upd H9 t2 (.tup [V.ref a1, V.ref a2]) = H10 at sT eT ⊢
      refine ⟨t2, rfl, ⟨_, SqT.of eT⟩, for_tup (K := K) (a := t2) (xs := [.ref a1, .ref a2]) (fun i σ H' => ∃ y1 y7 : Option V, σ = [some (.ref b), y1, some (.ref c), some (.ref p6), some (.ref a1), some (.ref a2), some (.ref l), y7] ∧ Same H10 H') ⟨_, _, rfl, fun _ _ e => e⟩ (fun i σ H' _ z => by
        obtain ⟨_, _, _, s⟩ := z
        exact SqT.of (s _ _ eT)) ?_ ?_⟩
      · rintro i2 x σ H11 hx ⟨y1, y7, rfl, s11⟩
        obtain ⟨a0, rfl, A0⟩ : ∃ a0, x = .ref a0 ∧ Er cs H10 a0 j ((flds j).zip ys).reverse := by
          match i2, hx with
          | 0, hx => exact ⟨a1, (Option.some.inj hx).symm, A1.keep sT⟩
          | 1, hx => exact ⟨a2, (Option.some.inj hx).symm, A2.keep sT⟩
          | n + 2, hx => cases hx
        have A11 := A0.keep s11
        have el11 := s11 _ _ (sT _ _ el)
        refine ⟨.ref a0, j, rfl, A11.zero, fun H12 s12 => ?_⟩
        rw [eh]
        have A12 := A11.keep s12
        refine ⟨.ref a0, rfl, a0, j, ys, rfl, hl, hf, A12, fun H13 pk s13 nk ek => ?_⟩
        have el13 := s13 _ _ (s12 _ _ el11)
        obtain ⟨ds, dd, ok⟩ := plain_dp (K := K) (H := H13) hp
        refine ⟨.ref l, rfl, .ref pk, .ref l, .list ds, rfl, .lst (SqL.of ek) dd, .lst (SqL.of el13) dd, ⟨?_, ok⟩, fun H14 s14 => ⟨_, rfl, ?_⟩⟩
        · rw [← dpAll_len dd, ← hl]
          exact Nat.le_trans (flds_len j hj) (by decide)
        refine ite2 (fun z => by cases z) (fun _ => ?_)
        have A14 := A12.keep (s13.trans s14)
        refine ⟨.ref a0, rfl, .ref a0, j, rfl, A14.zero, fun H15 s15 => ⟨rfl, _, rfl, ?_⟩⟩
        refine ite2 (fun z => by simp at z) (fun _ => ?_)
        have A15 := A14.keep s15
        refine ⟨.ref a0, j, rfl, A15.zero, .ref a0, j, rfl, A15.zero, (by show 2 ≤ sizeLine; decide), fun q1 nq1 => ?_⟩
        rw [lo, hi]
        have t16 := same_upd (o := .lst [V.bl high, V.bl !high]) nq1
        have e16 : (upd H15 q1 (.lst [V.bl high, V.bl !high])) q1 = some (.lst [V.bl high, V.bl !high]) := upd_same
        generalize upd H15 q1 (.lst [V.bl high, V.bl !high]) = H16 at t16 e16 ⊢
        refine ⟨.bl high, rfl, .bl high, rfl, high, rfl, (by show 2 ≤ sizeLine; decide), fun q2 nq2 => ?_⟩
        refine ⟨.ref q1, .ref q2, .list [.bool high, .bool !high], rfl, .lst (SqL.of (same_upd nq2 _ _ e16)) (.cons (.bl _) (.cons (.bl _) .nil)), .lst (SqL.of upd_same) (.cons (.bl _) (.cons (.bl _) .nil)), okD_bb _ _, fun H17 t17 => ⟨_, rfl, ?_⟩⟩
        refine ite2 (fun z => by cases z) (fun _ => ?_)
        exact ⟨_, _, rfl, s11.trans (s12.trans (s13.trans (s14.trans (s15.trans (t16.trans ((same_upd nq2).trans t17))))))⟩
      · rintro σ H11 ⟨y1, y7, rfl, s11⟩
        exact ⟨_, _, _, _, _, rfl, s9.trans (sT.trans s11)⟩
    · rintro σ H9 ⟨y1, y4, y5, y6, y7, rfl, s9⟩
      exact q H9 ((k7.trans k8).trans (Keep.of_same s9))
end
end K97
namespace K97
open PySem PySem.Spec PyProof.Rows L2 CS RZ
section
variable {P : Program} {w : World} {K : PySem.W.Frag} {mg : Str → Option Value} {base : Heap}
def spLaw (K : PySem.W.Frag) : Sp := fun vs H Q _ => ∃ (a : Addr) (ns : List Int), vs = [.ref a] ∧ SqL K H a (ns.map V.int) ∧ ns.length ≤ 63 ∧ ∀ H', Q (.bl true) H'
abbrev nLaw : List Str := ["_law_script", "_law_cells_here", "_law_k"]
theorem scLaw : FnScope nLaw ["_law_script"] (defScope sLaw) := ⟨rfl, rfl, rfl, by decide +kernel, rfl, by decide +kernel, by decide +kernel⟩
theorem ok_law {f gc gr gb : Addr} {fd dc dr db : FuncData} {k : Nat} (F : Fun K "law" "law" sLaw f fd)
    (Gc : FnOk P w K mg base CX0 k gc dc ["_law_script", "_law_most_so"] (spCells K)) (bc : Binds K dc ["_law_script", "_law_most_so"] []) (kc : PySem.W.keepIn K (.ref gc) = true) (mc : mg "_law_cells" = some (.ref gc))
    (Gr : FnOk P w K mg base CX0 k gr dr ["_law_box_here"] spRight) (br : Binds K dr ["_law_box_here"] []) (kr : PySem.W.keepIn K (.ref gr) = true) (mR : mg "_law_right" = some (.ref gr))
    (Gb : FnOk P w K mg base CX0 k gb db ["_law_script", "_law_k"] (spBox K)) (bb : Binds K db ["_law_script", "_law_k"] []) (kb : PySem.W.keepIn K (.ref gb) = true) (mb : mg "_law_box" = some (.ref gb)) (mr : mg "range" = none) (ma : mg "all" = none) (ml : mg "len" = none) :
    FnOk P w K mg base CX0 (k + 1) f fd ["_law_script"] (spLaw K) := by
  refine F.ok scLaw (fun vs H Q E h => ?_) (fun cdv A outer s H vs Q E hr h => ?_)
  · obtain ⟨a, ns, rfl, _⟩ := h
    rfl
  · obtain ⟨a, ns, rfl, hS, hn, q⟩ := h
    refine ⟨_, (pss_cons (ps_set (i := 1) scLaw.nd rfl (.inr rfl) (pe_call Gc hr (by rfl) mc kc bc .nil pass0 (pa_cons (pv 0) (pa_cons pe_int pa_nil))))
      (pss_one (ps_ret (pe_callB (cr_all rfl) (by rfl) ma (by decide +kernel) (pa_cons (pe_lc (own := [("_law_k", 2)]) (g := gName 2) (by rfl) scLaw.nd (pi_range1 (by rfl) mr (pa_cons (pe_callB call_len_seq (by rfl) ml PySem.boot_len (pa_cons (pv 1) pa_nil)) pa_nil))
        (blkOk_by (own := [("_law_k", 2)]) (N := nLaw) (sc := defScope sLaw) (by decide +kernel)) (fun _ _ _ _ _ => pg_name (i := 2) scLaw.nd rfl (Or.inl rfl) (.inr rfl)) (fun _ _ _ _ _ => pts_nil)
        (fun _ _ _ _ _ => pe_call Gr hr (by rfl) mR kr br .nil pass0 (pa_cons (pe_call Gb hr (by rfl) mb kb bb .nil pass0 (pa_cons (pv 1) (pa_cons (pv 2) pa_nil))) pa_nil))) pa_nil))))), ?_⟩
    refine ⟨.ref a, rfl, a, ns, rfl, hS, hn, fun H2 p ms s2 _ e2 m1 m3 => ?_⟩
    refine ⟨.ref p, rfl, p, _, rfl, .inl (SqL.of e2), _, rfl, (by rw [List.length_map]; omega), (by rw [List.length_map]; omega), fun D nD => lc_range (fun i H' => H' p = some (.lst (ms.map V.int)) ∧ H' D = some (.lst ((List.replicate i true).map V.bl))) ⟨?_, upd_same⟩ ?_ ?_⟩
    · rw [upd_ne (ne_of_none e2 nD)]
      exact e2
    · rintro i H3 hi ⟨e3, eD⟩
      rw [List.length_map] at hi
      have hi' : i < ms.length := by omega
      have npD : p ≠ D := ne_of_none e2 nD
      refine ⟨rfl, ?_⟩
      unfold tYes
      refine ite2 (fun _ => ?_) (fun z => absurd rfl z)
      refine ⟨.ref p, rfl, .int (0 + (i : Nat)), rfl, p, ms, i, (by rw [Int.zero_add]; rfl), SqL.of e3, hi', by omega, fun H4 b s4 nb b4 => ?_⟩
      have npb : p ≠ b := ne_of_none e3 nb
      have nDb : D ≠ b := ne_of_none eD nb
      refine ⟨b, rfl, b4, fun H5 k5 => ?_⟩
      refine ⟨_, k5 _ _ nDb (s4 _ _ eD), ?_, ?_, ?_⟩
      · rw [List.length_map, List.length_replicate]
        exact small1000 (by omega)
      · rw [upd_ne npD]
        exact k5 _ _ npb (s4 _ _ e3)
      · rw [upd_same, List.replicate_succ', List.map_append]
        rfl
    · rintro H3 ⟨e3, eD⟩
      refine ⟨D, _, rfl, SqL.of eD, ?_⟩
      rw [all_yes]
      exact q H3

end
end K97
namespace K97
open PySem PySem.Spec PyProof.Rows L2 CS RZ
/-! ### what the written part says of the classes, as truth values -/
def csxB (K : PySem.W.Frag) (C : Addr) : Bool :=
  PySem.W.findIn K (.ref C) "__getattribute__" == some (some (.builtin "BaseException.__getattribute__")) && (PySem.W.findIn K (.ref C) "__getattr__" == some none && (PySem.W.subIn K (.ref C) (.type "BaseException") == some true && (PySem.W.hasDictIn K C &&
    (PySem.W.findIn K (.ref C) "__class__" == some (some (.builtin "object.__class__")) && (PySem.W.specialIn K (.builtin "object.__class__") "__get__" == some (some (.builtin "getset_descriptor.__get__")) && (PySem.W.takesIn K (.builtin "object.__class__") == some true && PySem.W.mroIn K C (.type "object") == some true))))))
theorem csxB_ok {K : PySem.W.Frag} {C : Addr} (h : csxB K C = true) : PySem.W.CsxC K C ∧ XfC K C := by
  unfold csxB at h
  simp only [Bool.and_eq_true, beq_iff_eq] at h
  obtain ⟨h1, h2, h3, h4, h5, h6, h7, h8⟩ := h
  exact ⟨⟨h1, h2, h3, h4, h5, h6, h7, h8⟩, ⟨h1, h2, h3, h4⟩⟩
def efB (K : PySem.W.Frag) (C fI : Addr) (fs : List Str) (bm : List Value) : Bool :=
  PySem.W.findIn K (.ref C) "__setattr__" == some (some (.builtin "object.__setattr__")) && (PySem.W.keepIn K (.ref C) && (PySem.W.findIn K (.ref C) "__init__" == some (some (.ref fI)) && (PySem.W.typeIn K (.ref fI) == some (.type "function") && (PySem.W.excOver K C bm && fs.all fun f => PySem.W.findIn K (.ref C) f == some none))))
def chV : List Value := [.type "ValueError", .type "Exception", .type "BaseException", .type "object"]
def chL : List Value := [.type "LookupError", .type "Exception", .type "BaseException", .type "object"]
theorem efB_ok {K : PySem.W.Frag} {C fI : Addr} {fs : List Str} {bm : List Value} {B newId initId : String} (F : ExcBaseFacts B newId initId bm) (S : StoreFacts B bm "object.__setattr__" "object") {nm q : Str} {N : Addr} {bs : List Value} {sn : List Str} {sub : List Value} {ab : Bool} {col : Option Bool} {dd : Option Addr} {u0 u1 u2 u3 u5 : Option Value}
    (hC : K.lookup C = some (excClassObj nm q C N bs bm true sn sub ab col dd u0 u1 u2 u3 u5 newId)) (hx : csxB K C = true) (h : efB K C fI fs bm = true) : EF K C fI fs := by
  unfold efB at h
  simp only [Bool.and_eq_true, beq_iff_eq, List.all_eq_true] at h
  obtain ⟨h1, h2, h3, h4, h5, h6⟩ := h
  obtain ⟨X, Y⟩ := csxB_ok hx
  exact ⟨⟨⟨B, newId, initId, bm, F, S, h5, nm, q, N, bs, sn, sub, ab, col, dd, u0, u1, u2, u3, u5, hC⟩, h1, Y.hdC, h2, h3, h4⟩, Y, h6⟩
def kitB17 (K : PySem.W.Frag) (cs : List Addr) : Bool := (List.range 17).all fun i => (List.range 17).all fun j => PySem.W.kitOne K (.ref (cl cs i)) (.ref (cl cs j)) == some (decide (i = j))
def kvB17 (K : PySem.W.Frag) (cs : List Addr) : Bool := (List.range 17).all fun i => PySem.W.kitOne K (.ref (cl cs i)) (.type "ValueError") == some (decide (2 ≤ i)) && (PySem.W.kitOne K (.ref (cl cs i)) (.type "LookupError") == some (decide (i < 2)) && csxB K (cl cs i))
theorem et_ok {K : PySem.W.Frag} {cs : List Addr} (h1 : kitB17 K cs = true) (h2 : kvB17 K cs = true) : ET K cs := by
  unfold kitB17 at h1
  unfold kvB17 at h2
  simp only [List.all_eq_true, List.mem_range, Bool.and_eq_true, beq_iff_eq] at h1 h2
  exact ⟨fun i j hi hj => h1 i hi j hj, fun i hi => (h2 i hi).1, fun i hi => (h2 i hi).2.1, fun i hi => (csxB_ok (h2 i hi).2.2).1⟩
theorem csx_at {K : PySem.W.Frag} {cs : List Addr} (h2 : kvB17 K cs = true) (i : Nat) (hi : i < 17) : csxB K (cl cs i) = true := by
  unfold kvB17 at h2
  simp only [List.all_eq_true, List.mem_range, Bool.and_eq_true, beq_iff_eq] at h2
  exact (h2 i hi).2.2
end K97
namespace K97
open PySem PySem.Spec PyProof.Rows L2 CS RZ
theorem fn_up {P : Program} {w : World} {K : PySem.W.Frag} {mg : Str → Option Value} {base : Heap} {CX : CXT} {j k : Nat} {f : Addr} {fd : FuncData} {ps : List Str} {sp : Sp} (F : FnOk P w K mg base CX j f fd ps sp) (h : j ≤ k) : FnOk P w K mg base CX k f fd ps sp :=
  ⟨F.len, fun A outer s H args us vs Q E hr e0 hb r q => F.run A outer s H args us vs Q E (hr.mono h) e0 hb r q⟩
theorem all_mk {l : PySem.W.OpenLaw} {w : World} {K : PySem.W.Frag} {h : Heap} {mg : Str → Option Value} {fa f1 f2 f3 f4 f5 f6 f7 f8 f9 f10 f11 f12 : Addr} (X : K.In h) (G : h.Ns mainGlobals mg) (hfa : mg "law" = some (.ref fa))
    {od1 an1 od2 an2 od3 an3 od4 an4 od5 an5 od6 an6 od7 an7 od8 an8 od9 an9 od10 an10 od11 an11 od12 an12 : Option Addr} {sl1 sl2 sl3 sl4 sl5 sl6 sl7 sl8 sl9 sl10 sl11 sl12 : Array (Option Value)} {oc1 kV1 dc1 pm1 cd1 ct1 oc2 kV2 dc2 pm2 cd2 ct2 oc3 kV3 dc3 pm3 cd3 ct3 oc4 kV4 dc4 pm4 cd4 ct4 oc5 kV5 dc5 pm5 cd5 ct5 oc6 kV6 dc6 pm6 cd6 ct6 oc7 kV7 dc7 pm7 cd7 ct7 oc8 kV8 dc8 pm8 cd8 ct8 oc9 kV9 dc9 pm9 cd9 ct9 oc10 kV10 dc10 pm10 cd10 ct10 oc11 kV11 dc11 pm11 cd11 ct11 oc12 kV12 dc12 pm12 cd12 ct12 : Value}
    (a1 : PySem.W.nsIn K mainGlobals "_law_box" = some (some (.ref f1))) (l1 : K.lookup f1 = some ⟨oc1, od1, .func (PySem.W.fnOf "_law_box" "_law_box" (defArgs sBox) (defBody sBox) (defScope sBox) .none kV1 dc1 pm1 an1 cd1 ct1), sl1⟩) (c1 : PySem.W.codeIn K cd1 "_law_box" = true) (k1 : PySem.W.keepIn K (.ref f1) = true)
    (a2 : PySem.W.nsIn K mainGlobals "_law_take" = some (some (.ref f2))) (l2 : K.lookup f2 = some ⟨oc2, od2, .func (PySem.W.fnOf "_law_take" "_law_take" (defArgs sTake) (defBody sTake) (defScope sTake) .none kV2 dc2 pm2 an2 cd2 ct2), sl2⟩) (c2 : PySem.W.codeIn K cd2 "_law_take" = true) (k2 : PySem.W.keepIn K (.ref f2) = true)
    (a3 : PySem.W.nsIn K mainGlobals "_law_cells" = some (some (.ref f3))) (l3 : K.lookup f3 = some ⟨oc3, od3, .func (PySem.W.fnOf "_law_cells" "_law_cells" (defArgs sCells) (defBody sCells) (defScope sCells) .none kV3 dc3 pm3 an3 cd3 ct3), sl3⟩) (c3 : PySem.W.codeIn K cd3 "_law_cells" = true) (k3 : PySem.W.keepIn K (.ref f3) = true)
    (a4 : PySem.W.nsIn K mainGlobals "_law_of" = some (some (.ref f4))) (l4 : K.lookup f4 = some ⟨oc4, od4, .func (PySem.W.fnOf "_law_of" "_law_of" (defArgs sOf) (defBody sOf) (defScope sOf) .none kV4 dc4 pm4 an4 cd4 ct4), sl4⟩) (c4 : PySem.W.codeIn K cd4 "_law_of" = true) (k4 : PySem.W.keepIn K (.ref f4) = true)
    (a5 : PySem.W.nsIn K mainGlobals "_law_same" = some (some (.ref f5))) (l5 : K.lookup f5 = some ⟨oc5, od5, .func (PySem.W.fnOf "_law_same" "_law_same" (defArgs sSame) (defBody sSame) (defScope sSame) .none kV5 dc5 pm5 an5 cd5 ct5), sl5⟩) (c5 : PySem.W.codeIn K cd5 "_law_same" = true) (k5 : PySem.W.keepIn K (.ref f5) = true)
    (a6 : PySem.W.nsIn K mainGlobals "_law_value" = some (some (.ref f6))) (l6 : K.lookup f6 = some ⟨oc6, od6, .func (PySem.W.fnOf "_law_value" "_law_value" (defArgs sValue) (defBody sValue) (defScope sValue) .none kV6 dc6 pm6 an6 cd6 ct6), sl6⟩) (c6 : PySem.W.codeIn K cd6 "_law_value" = true) (k6 : PySem.W.keepIn K (.ref f6) = true)
    (a7 : PySem.W.nsIn K mainGlobals "_law_much" = some (some (.ref f7))) (l7 : K.lookup f7 = some ⟨oc7, od7, .func (PySem.W.fnOf "_law_much" "_law_much" (defArgs sMuch) (defBody sMuch) (defScope sMuch) .none kV7 dc7 pm7 an7 cd7 ct7), sl7⟩) (c7 : PySem.W.codeIn K cd7 "_law_much" = true) (k7 : PySem.W.keepIn K (.ref f7) = true)
    (a8 : PySem.W.nsIn K mainGlobals "_law_made" = some (some (.ref f8))) (l8 : K.lookup f8 = some ⟨oc8, od8, .func (PySem.W.fnOf "_law_made" "_law_made" (defArgs sMade) (defBody sMade) (defScope sMade) .none kV8 dc8 pm8 an8 cd8 ct8), sl8⟩) (c8 : PySem.W.codeIn K cd8 "_law_made" = true) (k8 : PySem.W.keepIn K (.ref f8) = true)
    (a9 : PySem.W.nsIn K mainGlobals "_law_kept" = some (some (.ref f9))) (l9 : K.lookup f9 = some ⟨oc9, od9, .func (PySem.W.fnOf "_law_kept" "_law_kept" (defArgs sKept) (defBody sKept) (defScope sKept) .none kV9 dc9 pm9 an9 cd9 ct9), sl9⟩) (c9 : PySem.W.codeIn K cd9 "_law_kept" = true) (k9 : PySem.W.keepIn K (.ref f9) = true)
    (a10 : PySem.W.nsIn K mainGlobals "_law_classes" = some (some (.ref f10))) (l10 : K.lookup f10 = some ⟨oc10, od10, .func (PySem.W.fnOf "_law_classes" "_law_classes" (defArgs sClasses) (defBody sClasses) (defScope sClasses) .none kV10 dc10 pm10 an10 cd10 ct10), sl10⟩) (c10 : PySem.W.codeIn K cd10 "_law_classes" = true) (k10 : PySem.W.keepIn K (.ref f10) = true)
    (a11 : PySem.W.nsIn K mainGlobals "_law_right" = some (some (.ref f11))) (l11 : K.lookup f11 = some ⟨oc11, od11, .func (PySem.W.fnOf "_law_right" "_law_right" (defArgs sRight) (defBody sRight) (defScope sRight) .none kV11 dc11 pm11 an11 cd11 ct11), sl11⟩) (c11 : PySem.W.codeIn K cd11 "_law_right" = true) (k11 : PySem.W.keepIn K (.ref f11) = true)
    (a12 : PySem.W.nsIn K mainGlobals "law" = some (some (.ref f12))) (l12 : K.lookup f12 = some ⟨oc12, od12, .func (PySem.W.fnOf "law" "law" (defArgs sLaw) (defBody sLaw) (defScope sLaw) .none kV12 dc12 pm12 an12 cd12 ct12), sl12⟩) (c12 : PySem.W.codeIn K cd12 "law" = true) (k12 : PySem.W.keepIn K (.ref f12) = true)
    (z1 : PySem.W.nsIn K mainGlobals "tuple" = some none)
    (z2 : PySem.W.nsIn K mainGlobals "zip" = some none)
    (z3 : PySem.W.nsIn K mainGlobals "enumerate" = some none)
    (z4 : PySem.W.nsIn K mainGlobals "len" = some none)
    (z5 : PySem.W.nsIn K mainGlobals "abs" = some none)
    (z6 : PySem.W.nsIn K mainGlobals "int" = some none)
    (z7 : PySem.W.nsIn K mainGlobals "list" = some none)
    (z8 : PySem.W.nsIn K mainGlobals "range" = some none)
    (z9 : PySem.W.nsIn K mainGlobals "isinstance" = some none)
    (z10 : PySem.W.nsIn K mainGlobals "all" = some none)
    (z11 : PySem.W.nsIn K mainGlobals "bool" = some none)
    (z12 : PySem.W.nsIn K mainGlobals "str" = some none)
    (z13 : PySem.W.nsIn K mainGlobals "ValueError" = some none)
    (z14 : PySem.W.nsIn K mainGlobals "LookupError" = some none)
    {x_0 : Addr} (aC_0 : PySem.W.nsIn K mainGlobals "NoPlace" = some (some (.ref x_0)))
    {x_1 : Addr} (aC_1 : PySem.W.nsIn K mainGlobals "NoNumber" = some (some (.ref x_1)))
    {x_2 : Addr} (aC_2 : PySem.W.nsIn K mainGlobals "NoJourney" = some (some (.ref x_2)))
    {x_3 : Addr} (aC_3 : PySem.W.nsIn K mainGlobals "Apart" = some (some (.ref x_3)))
    {x_4 : Addr} (aC_4 : PySem.W.nsIn K mainGlobals "Still" = some (some (.ref x_4)))
    {x_5 : Addr} (aC_5 : PySem.W.nsIn K mainGlobals "Below" = some (some (.ref x_5)))
    {x_6 : Addr} (aC_6 : PySem.W.nsIn K mainGlobals "Short" = some (some (.ref x_6)))
    {x_7 : Addr} (aC_7 : PySem.W.nsIn K mainGlobals "NoSize" = some (some (.ref x_7)))
    {x_8 : Addr} (aC_8 : PySem.W.nsIn K mainGlobals "Unlike" = some (some (.ref x_8)))
    {x_9 : Addr} (aC_9 : PySem.W.nsIn K mainGlobals "NoTree" = some (some (.ref x_9)))
    {x_10 : Addr} (aC_10 : PySem.W.nsIn K mainGlobals "NotCounted" = some (some (.ref x_10)))
    {x_11 : Addr} (aC_11 : PySem.W.nsIn K mainGlobals "TooMany" = some (some (.ref x_11)))
    {x_12 : Addr} (aC_12 : PySem.W.nsIn K mainGlobals "BadTable" = some (some (.ref x_12)))
    {x_13 : Addr} (aC_13 : PySem.W.nsIn K mainGlobals "BadLists" = some (some (.ref x_13)))
    {x_14 : Addr} (aC_14 : PySem.W.nsIn K mainGlobals "BadText" = some (some (.ref x_14)))
    {x_15 : Addr} (aC_15 : PySem.W.nsIn K mainGlobals "BadLine" = some (some (.ref x_15)))
    {x_16 : Addr} (aC_16 : PySem.W.nsIn K mainGlobals "NothingDone" = some (some (.ref x_16)))
    {g_0 : Addr} (iC_0 : PySem.W.findIn K (.ref x_0) "__init__" = some (some (.ref g_0)))
    {oci_0 : Value} {odi_0 : Option Addr} {kVi_0 dci_0 pmi_0 : Value} {ani_0 : Option Addr} {cdi_0 cti_0 : Value} {sli_0 : Array (Option Value)} (lI_0 : K.lookup g_0 = some ⟨oci_0, odi_0, .func (PySem.W.fnOf "__init__" "NoPlace.__init__" (defArgs (sIni 1)) (defBody (sIni 1)) (defScope (sIni 1)) .none kVi_0 dci_0 pmi_0 ani_0 cdi_0 cti_0), sli_0⟩)
     (cI_0 : PySem.W.codeIn K cdi_0 "NoPlace.__init__" = true)
     (kI_0 : PySem.W.keepIn K (.ref g_0) = true)
    {nm_0 q_0 : Str} {N_0 : Addr} {bs_0 : List Value} {sn_0 : List Str} {sub_0 : List Value} {ab_0 : Bool} {col_0 : Option Bool} {dd_0 : Option Addr} {u0_0 u1_0 u2_0 u3_0 u5_0 : Option Value} (xL_0 : K.lookup x_0 = some (excClassObj nm_0 q_0 x_0 N_0 bs_0 [.type "LookupError", .type "Exception", .type "BaseException", .type "object"] true sn_0 sub_0 ab_0 col_0 dd_0 u0_0 u1_0 u2_0 u3_0 u5_0 "LookupError.__new__"))
     (eB_0 : efB K x_0 g_0 ["place"] [.type "LookupError", .type "Exception", .type "BaseException", .type "object"] = true)
    {g_1 : Addr} (iC_1 : PySem.W.findIn K (.ref x_1) "__init__" = some (some (.ref g_1)))
    {oci_1 : Value} {odi_1 : Option Addr} {kVi_1 dci_1 pmi_1 : Value} {ani_1 : Option Addr} {cdi_1 cti_1 : Value} {sli_1 : Array (Option Value)} (lI_1 : K.lookup g_1 = some ⟨oci_1, odi_1, .func (PySem.W.fnOf "__init__" "NoNumber.__init__" (defArgs (sIni 2)) (defBody (sIni 2)) (defScope (sIni 2)) .none kVi_1 dci_1 pmi_1 ani_1 cdi_1 cti_1), sli_1⟩)
     (cI_1 : PySem.W.codeIn K cdi_1 "NoNumber.__init__" = true)
     (kI_1 : PySem.W.keepIn K (.ref g_1) = true)
    {nm_1 q_1 : Str} {N_1 : Addr} {bs_1 : List Value} {sn_1 : List Str} {sub_1 : List Value} {ab_1 : Bool} {col_1 : Option Bool} {dd_1 : Option Addr} {u0_1 u1_1 u2_1 u3_1 u5_1 : Option Value} (xL_1 : K.lookup x_1 = some (excClassObj nm_1 q_1 x_1 N_1 bs_1 [.type "LookupError", .type "Exception", .type "BaseException", .type "object"] true sn_1 sub_1 ab_1 col_1 dd_1 u0_1 u1_1 u2_1 u3_1 u5_1 "LookupError.__new__"))
     (eB_1 : efB K x_1 g_1 ["number"] [.type "LookupError", .type "Exception", .type "BaseException", .type "object"] = true)
    {g_3 : Addr} (iC_3 : PySem.W.findIn K (.ref x_3) "__init__" = some (some (.ref g_3)))
    {oci_3 : Value} {odi_3 : Option Addr} {kVi_3 dci_3 pmi_3 : Value} {ani_3 : Option Addr} {cdi_3 cti_3 : Value} {sli_3 : Array (Option Value)} (lI_3 : K.lookup g_3 = some ⟨oci_3, odi_3, .func (PySem.W.fnOf "__init__" "Apart.__init__" (defArgs (sIni 4)) (defBody (sIni 4)) (defScope (sIni 4)) .none kVi_3 dci_3 pmi_3 ani_3 cdi_3 cti_3), sli_3⟩)
     (cI_3 : PySem.W.codeIn K cdi_3 "Apart.__init__" = true)
     (kI_3 : PySem.W.keepIn K (.ref g_3) = true)
    {nm_3 q_3 : Str} {N_3 : Addr} {bs_3 : List Value} {sn_3 : List Str} {sub_3 : List Value} {ab_3 : Bool} {col_3 : Option Bool} {dd_3 : Option Addr} {u0_3 u1_3 u2_3 u3_3 u5_3 : Option Value} (xL_3 : K.lookup x_3 = some (excClassObj nm_3 q_3 x_3 N_3 bs_3 [.type "ValueError", .type "Exception", .type "BaseException", .type "object"] true sn_3 sub_3 ab_3 col_3 dd_3 u0_3 u1_3 u2_3 u3_3 u5_3 "ValueError.__new__"))
     (eB_3 : efB K x_3 g_3 ["end", "begin"] [.type "ValueError", .type "Exception", .type "BaseException", .type "object"] = true)
    {g_4 : Addr} (iC_4 : PySem.W.findIn K (.ref x_4) "__init__" = some (some (.ref g_4)))
    {oci_4 : Value} {odi_4 : Option Addr} {kVi_4 dci_4 pmi_4 : Value} {ani_4 : Option Addr} {cdi_4 cti_4 : Value} {sli_4 : Array (Option Value)} (lI_4 : K.lookup g_4 = some ⟨oci_4, odi_4, .func (PySem.W.fnOf "__init__" "Still.__init__" (defArgs (sIni 5)) (defBody (sIni 5)) (defScope (sIni 5)) .none kVi_4 dci_4 pmi_4 ani_4 cdi_4 cti_4), sli_4⟩)
     (cI_4 : PySem.W.codeIn K cdi_4 "Still.__init__" = true)
     (kI_4 : PySem.W.keepIn K (.ref g_4) = true)
    {nm_4 q_4 : Str} {N_4 : Addr} {bs_4 : List Value} {sn_4 : List Str} {sub_4 : List Value} {ab_4 : Bool} {col_4 : Option Bool} {dd_4 : Option Addr} {u0_4 u1_4 u2_4 u3_4 u5_4 : Option Value} (xL_4 : K.lookup x_4 = some (excClassObj nm_4 q_4 x_4 N_4 bs_4 [.type "ValueError", .type "Exception", .type "BaseException", .type "object"] true sn_4 sub_4 ab_4 col_4 dd_4 u0_4 u1_4 u2_4 u3_4 u5_4 "ValueError.__new__"))
     (eB_4 : efB K x_4 g_4 ["place"] [.type "ValueError", .type "Exception", .type "BaseException", .type "object"] = true)
    {g_5 : Addr} (iC_5 : PySem.W.findIn K (.ref x_5) "__init__" = some (some (.ref g_5)))
    {oci_5 : Value} {odi_5 : Option Addr} {kVi_5 dci_5 pmi_5 : Value} {ani_5 : Option Addr} {cdi_5 cti_5 : Value} {sli_5 : Array (Option Value)} (lI_5 : K.lookup g_5 = some ⟨oci_5, odi_5, .func (PySem.W.fnOf "__init__" "Below.__init__" (defArgs (sIni 6)) (defBody (sIni 6)) (defScope (sIni 6)) .none kVi_5 dci_5 pmi_5 ani_5 cdi_5 cti_5), sli_5⟩)
     (cI_5 : PySem.W.codeIn K cdi_5 "Below.__init__" = true)
     (kI_5 : PySem.W.keepIn K (.ref g_5) = true)
    {nm_5 q_5 : Str} {N_5 : Addr} {bs_5 : List Value} {sn_5 : List Str} {sub_5 : List Value} {ab_5 : Bool} {col_5 : Option Bool} {dd_5 : Option Addr} {u0_5 u1_5 u2_5 u3_5 u5_5 : Option Value} (xL_5 : K.lookup x_5 = some (excClassObj nm_5 q_5 x_5 N_5 bs_5 [.type "ValueError", .type "Exception", .type "BaseException", .type "object"] true sn_5 sub_5 ab_5 col_5 dd_5 u0_5 u1_5 u2_5 u3_5 u5_5 "ValueError.__new__"))
     (eB_5 : efB K x_5 g_5 ["one", "other", "number"] [.type "ValueError", .type "Exception", .type "BaseException", .type "object"] = true)
    {g_6 : Addr} (iC_6 : PySem.W.findIn K (.ref x_6) "__init__" = some (some (.ref g_6)))
    {oci_6 : Value} {odi_6 : Option Addr} {kVi_6 dci_6 pmi_6 : Value} {ani_6 : Option Addr} {cdi_6 cti_6 : Value} {sli_6 : Array (Option Value)} (lI_6 : K.lookup g_6 = some ⟨oci_6, odi_6, .func (PySem.W.fnOf "__init__" "Short.__init__" (defArgs (sIni 7)) (defBody (sIni 7)) (defScope (sIni 7)) .none kVi_6 dci_6 pmi_6 ani_6 cdi_6 cti_6), sli_6⟩)
     (cI_6 : PySem.W.codeIn K cdi_6 "Short.__init__" = true)
     (kI_6 : PySem.W.keepIn K (.ref g_6) = true)
    {nm_6 q_6 : Str} {N_6 : Addr} {bs_6 : List Value} {sn_6 : List Str} {sub_6 : List Value} {ab_6 : Bool} {col_6 : Option Bool} {dd_6 : Option Addr} {u0_6 u1_6 u2_6 u3_6 u5_6 : Option Value} (xL_6 : K.lookup x_6 = some (excClassObj nm_6 q_6 x_6 N_6 bs_6 [.type "ValueError", .type "Exception", .type "BaseException", .type "object"] true sn_6 sub_6 ab_6 col_6 dd_6 u0_6 u1_6 u2_6 u3_6 u5_6 "ValueError.__new__"))
     (eB_6 : efB K x_6 g_6 ["one", "other", "lacking"] [.type "ValueError", .type "Exception", .type "BaseException", .type "object"] = true)
    {g_7 : Addr} (iC_7 : PySem.W.findIn K (.ref x_7) "__init__" = some (some (.ref g_7)))
    {oci_7 : Value} {odi_7 : Option Addr} {kVi_7 dci_7 pmi_7 : Value} {ani_7 : Option Addr} {cdi_7 cti_7 : Value} {sli_7 : Array (Option Value)} (lI_7 : K.lookup g_7 = some ⟨oci_7, odi_7, .func (PySem.W.fnOf "__init__" "NoSize.__init__" (defArgs (sIni 8)) (defBody (sIni 8)) (defScope (sIni 8)) .none kVi_7 dci_7 pmi_7 ani_7 cdi_7 cti_7), sli_7⟩)
     (cI_7 : PySem.W.codeIn K cdi_7 "NoSize.__init__" = true)
     (kI_7 : PySem.W.keepIn K (.ref g_7) = true)
    {nm_7 q_7 : Str} {N_7 : Addr} {bs_7 : List Value} {sn_7 : List Str} {sub_7 : List Value} {ab_7 : Bool} {col_7 : Option Bool} {dd_7 : Option Addr} {u0_7 u1_7 u2_7 u3_7 u5_7 : Option Value} (xL_7 : K.lookup x_7 = some (excClassObj nm_7 q_7 x_7 N_7 bs_7 [.type "ValueError", .type "Exception", .type "BaseException", .type "object"] true sn_7 sub_7 ab_7 col_7 dd_7 u0_7 u1_7 u2_7 u3_7 u5_7 "ValueError.__new__"))
     (eB_7 : efB K x_7 g_7 ["number"] [.type "ValueError", .type "Exception", .type "BaseException", .type "object"] = true)
    {g_10 : Addr} (iC_10 : PySem.W.findIn K (.ref x_10) "__init__" = some (some (.ref g_10)))
    {oci_10 : Value} {odi_10 : Option Addr} {kVi_10 dci_10 pmi_10 : Value} {ani_10 : Option Addr} {cdi_10 cti_10 : Value} {sli_10 : Array (Option Value)} (lI_10 : K.lookup g_10 = some ⟨oci_10, odi_10, .func (PySem.W.fnOf "__init__" "NotCounted.__init__" (defArgs (sIni 11)) (defBody (sIni 11)) (defScope (sIni 11)) .none kVi_10 dci_10 pmi_10 ani_10 cdi_10 cti_10), sli_10⟩)
     (cI_10 : PySem.W.codeIn K cdi_10 "NotCounted.__init__" = true)
     (kI_10 : PySem.W.keepIn K (.ref g_10) = true)
    {nm_10 q_10 : Str} {N_10 : Addr} {bs_10 : List Value} {sn_10 : List Str} {sub_10 : List Value} {ab_10 : Bool} {col_10 : Option Bool} {dd_10 : Option Addr} {u0_10 u1_10 u2_10 u3_10 u5_10 : Option Value} (xL_10 : K.lookup x_10 = some (excClassObj nm_10 q_10 x_10 N_10 bs_10 [.type "ValueError", .type "Exception", .type "BaseException", .type "object"] true sn_10 sub_10 ab_10 col_10 dd_10 u0_10 u1_10 u2_10 u3_10 u5_10 "ValueError.__new__"))
     (eB_10 : efB K x_10 g_10 ["one", "other"] [.type "ValueError", .type "Exception", .type "BaseException", .type "object"] = true)
    {g_11 : Addr} (iC_11 : PySem.W.findIn K (.ref x_11) "__init__" = some (some (.ref g_11)))
    {oci_11 : Value} {odi_11 : Option Addr} {kVi_11 dci_11 pmi_11 : Value} {ani_11 : Option Addr} {cdi_11 cti_11 : Value} {sli_11 : Array (Option Value)} (lI_11 : K.lookup g_11 = some ⟨oci_11, odi_11, .func (PySem.W.fnOf "__init__" "TooMany.__init__" (defArgs (sIni 12)) (defBody (sIni 12)) (defScope (sIni 12)) .none kVi_11 dci_11 pmi_11 ani_11 cdi_11 cti_11), sli_11⟩)
     (cI_11 : PySem.W.codeIn K cdi_11 "TooMany.__init__" = true)
     (kI_11 : PySem.W.keepIn K (.ref g_11) = true)
    {nm_11 q_11 : Str} {N_11 : Addr} {bs_11 : List Value} {sn_11 : List Str} {sub_11 : List Value} {ab_11 : Bool} {col_11 : Option Bool} {dd_11 : Option Addr} {u0_11 u1_11 u2_11 u3_11 u5_11 : Option Value} (xL_11 : K.lookup x_11 = some (excClassObj nm_11 q_11 x_11 N_11 bs_11 [.type "ValueError", .type "Exception", .type "BaseException", .type "object"] true sn_11 sub_11 ab_11 col_11 dd_11 u0_11 u1_11 u2_11 u3_11 u5_11 "ValueError.__new__"))
     (eB_11 : efB K x_11 g_11 ["most"] [.type "ValueError", .type "Exception", .type "BaseException", .type "object"] = true)
    {g_13 : Addr} (iC_13 : PySem.W.findIn K (.ref x_13) "__init__" = some (some (.ref g_13)))
    {oci_13 : Value} {odi_13 : Option Addr} {kVi_13 dci_13 pmi_13 : Value} {ani_13 : Option Addr} {cdi_13 cti_13 : Value} {sli_13 : Array (Option Value)} (lI_13 : K.lookup g_13 = some ⟨oci_13, odi_13, .func (PySem.W.fnOf "__init__" "BadLists.__init__" (defArgs (sIni 14)) (defBody (sIni 14)) (defScope (sIni 14)) .none kVi_13 dci_13 pmi_13 ani_13 cdi_13 cti_13), sli_13⟩)
     (cI_13 : PySem.W.codeIn K cdi_13 "BadLists.__init__" = true)
     (kI_13 : PySem.W.keepIn K (.ref g_13) = true)
    {nm_13 q_13 : Str} {N_13 : Addr} {bs_13 : List Value} {sn_13 : List Str} {sub_13 : List Value} {ab_13 : Bool} {col_13 : Option Bool} {dd_13 : Option Addr} {u0_13 u1_13 u2_13 u3_13 u5_13 : Option Value} (xL_13 : K.lookup x_13 = some (excClassObj nm_13 q_13 x_13 N_13 bs_13 [.type "ValueError", .type "Exception", .type "BaseException", .type "object"] true sn_13 sub_13 ab_13 col_13 dd_13 u0_13 u1_13 u2_13 u3_13 u5_13 "ValueError.__new__"))
     (eB_13 : efB K x_13 g_13 ["place"] [.type "ValueError", .type "Exception", .type "BaseException", .type "object"] = true)
    {g_15 : Addr} (iC_15 : PySem.W.findIn K (.ref x_15) "__init__" = some (some (.ref g_15)))
    {oci_15 : Value} {odi_15 : Option Addr} {kVi_15 dci_15 pmi_15 : Value} {ani_15 : Option Addr} {cdi_15 cti_15 : Value} {sli_15 : Array (Option Value)} (lI_15 : K.lookup g_15 = some ⟨oci_15, odi_15, .func (PySem.W.fnOf "__init__" "BadLine.__init__" (defArgs (sIni 16)) (defBody (sIni 16)) (defScope (sIni 16)) .none kVi_15 dci_15 pmi_15 ani_15 cdi_15 cti_15), sli_15⟩)
     (cI_15 : PySem.W.codeIn K cdi_15 "BadLine.__init__" = true)
     (kI_15 : PySem.W.keepIn K (.ref g_15) = true)
    {nm_15 q_15 : Str} {N_15 : Addr} {bs_15 : List Value} {sn_15 : List Str} {sub_15 : List Value} {ab_15 : Bool} {col_15 : Option Bool} {dd_15 : Option Addr} {u0_15 u1_15 u2_15 u3_15 u5_15 : Option Value} (xL_15 : K.lookup x_15 = some (excClassObj nm_15 q_15 x_15 N_15 bs_15 [.type "ValueError", .type "Exception", .type "BaseException", .type "object"] true sn_15 sub_15 ab_15 col_15 dd_15 u0_15 u1_15 u2_15 u3_15 u5_15 "ValueError.__new__"))
     (eB_15 : efB K x_15 g_15 ["number"] [.type "ValueError", .type "Exception", .type "BaseException", .type "object"] = true)
     (qB_2 : PySem.W.excIn K x_2 [.type "ValueError", .type "Exception", .type "BaseException", .type "object"] "ValueError.__new__" = true)
     (kB_2 : PySem.W.keepIn K (.ref x_2) = true)
     (qB_8 : PySem.W.excIn K x_8 [.type "ValueError", .type "Exception", .type "BaseException", .type "object"] "ValueError.__new__" = true)
     (kB_8 : PySem.W.keepIn K (.ref x_8) = true)
     (qB_9 : PySem.W.excIn K x_9 [.type "ValueError", .type "Exception", .type "BaseException", .type "object"] "ValueError.__new__" = true)
     (kB_9 : PySem.W.keepIn K (.ref x_9) = true)
     (qB_12 : PySem.W.excIn K x_12 [.type "ValueError", .type "Exception", .type "BaseException", .type "object"] "ValueError.__new__" = true)
     (kB_12 : PySem.W.keepIn K (.ref x_12) = true)
     (qB_14 : PySem.W.excIn K x_14 [.type "ValueError", .type "Exception", .type "BaseException", .type "object"] "ValueError.__new__" = true)
     (kB_14 : PySem.W.keepIn K (.ref x_14) = true)
     (qB_16 : PySem.W.excIn K x_16 [.type "ValueError", .type "Exception", .type "BaseException", .type "object"] "ValueError.__new__" = true)
     (kB_16 : PySem.W.keepIn K (.ref x_16) = true)
     (kt : kitB17 K [x_0, x_1, x_2, x_3, x_4, x_5, x_6, x_7, x_8, x_9, x_10, x_11, x_12, x_13, x_14, x_15, x_16] = true)
     (kv : kvB17 K [x_0, x_1, x_2, x_3, x_4, x_5, x_6, x_7, x_8, x_9, x_10, x_11, x_12, x_13, x_14, x_15, x_16] = true) :
    ∃ fd : FuncData, (∀ (s : Shared) (v : Value), BindsTo s fd ⟨[v], []⟩ [("_law_script", v)]) ∧ ∀ base : Heap, K.In base → base.Ns mainGlobals mg → FnOk l.prog w K mg base CX0 6 fa fd ["_law_script"] (spLaw K) := by
  have e := hfa.symm.trans (PySem.W.mg_of X G a12)
  cases e
  have F1 := fun_mk (st := sBox) l1 c1 k1
  have b1 := F1.binds (ps := ["_law_script", "_law_k"]) fun _ _ _ _ _ _ us hl => match us, hl with | [_, _], _ => rfl
  have m1 := PySem.W.mg_of X G a1
  have F2 := fun_mk (st := sTake) l2 c2 k2
  have b2 := F2.binds (ps := ["_law_box_here", "_law_below"]) fun _ _ _ _ _ _ us hl => match us, hl with | [_, _], _ => rfl
  have m2 := PySem.W.mg_of X G a2
  have F3 := fun_mk (st := sCells) l3 c3 k3
  have b3 := F3.binds (ps := ["_law_script", "_law_most_so"]) fun _ _ _ _ _ _ us hl => match us, hl with | [_, _], _ => rfl
  have m3 := PySem.W.mg_of X G a3
  have F4 := fun_mk (st := sOf) l4 c4 k4
  have b4 := F4.binds (ps := ["_law_box_here", "_law_some"]) fun _ _ _ _ _ _ us hl => match us, hl with | [_, _], _ => rfl
  have m4 := PySem.W.mg_of X G a4
  have F5 := fun_mk (st := sSame) l5 c5 k5
  have b5 := F5.binds (ps := ["_law_got", "_law_due"]) fun _ _ _ _ _ _ us hl => match us, hl with | [_, _], _ => rfl
  have m5 := PySem.W.mg_of X G a5
  have F6 := fun_mk (st := sValue) l6 c6 k6
  have b6 := F6.binds (ps := ["_law_box_here"]) fun _ _ _ _ _ _ us hl => match us, hl with | [_], _ => rfl
  have m6 := PySem.W.mg_of X G a6
  have F7 := fun_mk (st := sMuch) l7 c7 k7
  have b7 := F7.binds (ps := ["_law_box_here"]) fun _ _ _ _ _ _ us hl => match us, hl with | [_], _ => rfl
  have m7 := PySem.W.mg_of X G a7
  have F8 := fun_mk (st := sMade) l8 c8 k8
  have b8 := F8.binds (ps := ["_law_box_here"]) fun _ _ _ _ _ _ us hl => match us, hl with | [_], _ => rfl
  have m8 := PySem.W.mg_of X G a8
  have F9 := fun_mk (st := sKept) l9 c9 k9
  have b9 := F9.binds (ps := ["_law_error_so"]) fun _ _ _ _ _ _ us hl => match us, hl with | [_], _ => rfl
  have m9 := PySem.W.mg_of X G a9
  have F10 := fun_mk (st := sClasses) l10 c10 k10
  have b10 := F10.binds (ps := ["_law_e"]) fun _ _ _ _ _ _ us hl => match us, hl with | [_], _ => rfl
  have m10 := PySem.W.mg_of X G a10
  have F11 := fun_mk (st := sRight) l11 c11 k11
  have b11 := F11.binds (ps := ["_law_box_here"]) fun _ _ _ _ _ _ us hl => match us, hl with | [_], _ => rfl
  have m11 := PySem.W.mg_of X G a11
  have F12 := fun_mk (st := sLaw) l12 c12 k12
  have y1 := PySem.W.mg_none_of X G z1
  have y2 := PySem.W.mg_none_of X G z2
  have y3 := PySem.W.mg_none_of X G z3
  have y4 := PySem.W.mg_none_of X G z4
  have y5 := PySem.W.mg_none_of X G z5
  have y6 := PySem.W.mg_none_of X G z6
  have y7 := PySem.W.mg_none_of X G z7
  have y8 := PySem.W.mg_none_of X G z8
  have y9 := PySem.W.mg_none_of X G z9
  have y10 := PySem.W.mg_none_of X G z10
  have y11 := PySem.W.mg_none_of X G z11
  have y12 := PySem.W.mg_none_of X G z12
  have y13 := PySem.W.mg_none_of X G z13
  have y14 := PySem.W.mg_none_of X G z14
  refine ⟨PySem.W.fnOf "law" "law" (defArgs sLaw) (defBody sLaw) (defScope sLaw) .none kV12 dc12 pm12 an12 cd12 ct12, fun s v => .of_eq rfl, fun base _ _ => ?_⟩
  have FI_0 := fun_mk (st := sIni 1) lI_0 cI_0 kI_0
  have bI_0 := FI_0.binds (ps := ["self", "place"]) fun _ _ _ _ _ _ us hl => match us, hl with | [_, _], _ => rfl
  have E_0 : EF K x_0 g_0 ["place"] := efB_ok PySem.F.excBase_LookupError PySem.F.store_LookupError xL_0 (csx_at (cs := [x_0, x_1, x_2, x_3, x_4, x_5, x_6, x_7, x_8, x_9, x_10, x_11, x_12, x_13, x_14, x_15, x_16]) kv 0 (by decide)) eB_0
  have FI_1 := fun_mk (st := sIni 2) lI_1 cI_1 kI_1
  have bI_1 := FI_1.binds (ps := ["self", "number"]) fun _ _ _ _ _ _ us hl => match us, hl with | [_, _], _ => rfl
  have E_1 : EF K x_1 g_1 ["number"] := efB_ok PySem.F.excBase_LookupError PySem.F.store_LookupError xL_1 (csx_at (cs := [x_0, x_1, x_2, x_3, x_4, x_5, x_6, x_7, x_8, x_9, x_10, x_11, x_12, x_13, x_14, x_15, x_16]) kv 1 (by decide)) eB_1
  have FI_3 := fun_mk (st := sIni 4) lI_3 cI_3 kI_3
  have bI_3 := FI_3.binds (ps := ["self", "end", "begin"]) fun _ _ _ _ _ _ us hl => match us, hl with | [_, _, _], _ => rfl
  have E_3 : EF K x_3 g_3 ["end", "begin"] := efB_ok PySem.F.excBase_ValueError PySem.F.store_ValueError xL_3 (csx_at (cs := [x_0, x_1, x_2, x_3, x_4, x_5, x_6, x_7, x_8, x_9, x_10, x_11, x_12, x_13, x_14, x_15, x_16]) kv 3 (by decide)) eB_3
  have FI_4 := fun_mk (st := sIni 5) lI_4 cI_4 kI_4
  have bI_4 := FI_4.binds (ps := ["self", "place"]) fun _ _ _ _ _ _ us hl => match us, hl with | [_, _], _ => rfl
  have E_4 : EF K x_4 g_4 ["place"] := efB_ok PySem.F.excBase_ValueError PySem.F.store_ValueError xL_4 (csx_at (cs := [x_0, x_1, x_2, x_3, x_4, x_5, x_6, x_7, x_8, x_9, x_10, x_11, x_12, x_13, x_14, x_15, x_16]) kv 4 (by decide)) eB_4
  have FI_5 := fun_mk (st := sIni 6) lI_5 cI_5 kI_5
  have bI_5 := FI_5.binds (ps := ["self", "one", "other", "number"]) fun _ _ _ _ _ _ us hl => match us, hl with | [_, _, _, _], _ => rfl
  have E_5 : EF K x_5 g_5 ["one", "other", "number"] := efB_ok PySem.F.excBase_ValueError PySem.F.store_ValueError xL_5 (csx_at (cs := [x_0, x_1, x_2, x_3, x_4, x_5, x_6, x_7, x_8, x_9, x_10, x_11, x_12, x_13, x_14, x_15, x_16]) kv 5 (by decide)) eB_5
  have FI_6 := fun_mk (st := sIni 7) lI_6 cI_6 kI_6
  have bI_6 := FI_6.binds (ps := ["self", "one", "other", "lacking"]) fun _ _ _ _ _ _ us hl => match us, hl with | [_, _, _, _], _ => rfl
  have E_6 : EF K x_6 g_6 ["one", "other", "lacking"] := efB_ok PySem.F.excBase_ValueError PySem.F.store_ValueError xL_6 (csx_at (cs := [x_0, x_1, x_2, x_3, x_4, x_5, x_6, x_7, x_8, x_9, x_10, x_11, x_12, x_13, x_14, x_15, x_16]) kv 6 (by decide)) eB_6
  have FI_7 := fun_mk (st := sIni 8) lI_7 cI_7 kI_7
  have bI_7 := FI_7.binds (ps := ["self", "number"]) fun _ _ _ _ _ _ us hl => match us, hl with | [_, _], _ => rfl
  have E_7 : EF K x_7 g_7 ["number"] := efB_ok PySem.F.excBase_ValueError PySem.F.store_ValueError xL_7 (csx_at (cs := [x_0, x_1, x_2, x_3, x_4, x_5, x_6, x_7, x_8, x_9, x_10, x_11, x_12, x_13, x_14, x_15, x_16]) kv 7 (by decide)) eB_7
  have FI_10 := fun_mk (st := sIni 11) lI_10 cI_10 kI_10
  have bI_10 := FI_10.binds (ps := ["self", "one", "other"]) fun _ _ _ _ _ _ us hl => match us, hl with | [_, _, _], _ => rfl
  have E_10 : EF K x_10 g_10 ["one", "other"] := efB_ok PySem.F.excBase_ValueError PySem.F.store_ValueError xL_10 (csx_at (cs := [x_0, x_1, x_2, x_3, x_4, x_5, x_6, x_7, x_8, x_9, x_10, x_11, x_12, x_13, x_14, x_15, x_16]) kv 10 (by decide)) eB_10
  have FI_11 := fun_mk (st := sIni 12) lI_11 cI_11 kI_11
  have bI_11 := FI_11.binds (ps := ["self", "most"]) fun _ _ _ _ _ _ us hl => match us, hl with | [_, _], _ => rfl
  have E_11 : EF K x_11 g_11 ["most"] := efB_ok PySem.F.excBase_ValueError PySem.F.store_ValueError xL_11 (csx_at (cs := [x_0, x_1, x_2, x_3, x_4, x_5, x_6, x_7, x_8, x_9, x_10, x_11, x_12, x_13, x_14, x_15, x_16]) kv 11 (by decide)) eB_11
  have FI_13 := fun_mk (st := sIni 14) lI_13 cI_13 kI_13
  have bI_13 := FI_13.binds (ps := ["self", "place"]) fun _ _ _ _ _ _ us hl => match us, hl with | [_, _], _ => rfl
  have E_13 : EF K x_13 g_13 ["place"] := efB_ok PySem.F.excBase_ValueError PySem.F.store_ValueError xL_13 (csx_at (cs := [x_0, x_1, x_2, x_3, x_4, x_5, x_6, x_7, x_8, x_9, x_10, x_11, x_12, x_13, x_14, x_15, x_16]) kv 13 (by decide)) eB_13
  have FI_15 := fun_mk (st := sIni 16) lI_15 cI_15 kI_15
  have bI_15 := FI_15.binds (ps := ["self", "number"]) fun _ _ _ _ _ _ us hl => match us, hl with | [_, _], _ => rfl
  have E_15 : EF K x_15 g_15 ["number"] := efB_ok PySem.F.excBase_ValueError PySem.F.store_ValueError xL_15 (csx_at (cs := [x_0, x_1, x_2, x_3, x_4, x_5, x_6, x_7, x_8, x_9, x_10, x_11, x_12, x_13, x_14, x_15, x_16]) kv 15 (by decide)) eB_15
  have TE : ET K [x_0, x_1, x_2, x_3, x_4, x_5, x_6, x_7, x_8, x_9, x_10, x_11, x_12, x_13, x_14, x_15, x_16] := et_ok kt kv
  have NN : NT mg [x_0, x_1, x_2, x_3, x_4, x_5, x_6, x_7, x_8, x_9, x_10, x_11, x_12, x_13, x_14, x_15, x_16] := ⟨PySem.W.mg_of X G aC_0, PySem.W.mg_of X G aC_1, PySem.W.mg_of X G aC_2, PySem.W.mg_of X G aC_3, PySem.W.mg_of X G aC_4, PySem.W.mg_of X G aC_5, PySem.W.mg_of X G aC_6, PySem.W.mg_of X G aC_7, PySem.W.mg_of X G aC_8, PySem.W.mg_of X G aC_9, PySem.W.mg_of X G aC_10, PySem.W.mg_of X G aC_11, PySem.W.mg_of X G aC_12, PySem.W.mg_of X G aC_13, PySem.W.mg_of X G aC_14, PySem.W.mg_of X G aC_15, PySem.W.mg_of X G aC_16⟩
  have MG : MkG l.prog w K mg base [x_0, x_1, x_2, x_3, x_4, x_5, x_6, x_7, x_8, x_9, x_10, x_11, x_12, x_13, x_14, x_15, x_16] 2 := ⟨⟨g_0, _, E_0, ok_i0 (k := 1) FI_0, bI_0, (kbn1 FI_0 fun _ _ _ _ _ _ _ _ => rfl)⟩, ⟨g_1, _, E_1, ok_i1 (k := 1) FI_1, bI_1, (kbn1 FI_1 fun _ _ _ _ _ _ _ _ => rfl)⟩, ⟨g_3, _, E_3, ok_i3 (k := 1) FI_3, bI_3, (kbn2 FI_3 fun _ _ _ _ _ _ _ _ _ => rfl)⟩, ⟨g_4, _, E_4, ok_i4 (k := 1) FI_4, bI_4, (kbn1 FI_4 fun _ _ _ _ _ _ _ _ => rfl)⟩, ⟨g_5, _, E_5, ok_i5 (k := 1) FI_5, bI_5, (kbn3 FI_5 fun _ _ _ _ _ _ _ _ _ _ => rfl)⟩, ⟨g_6, _, E_6, ok_i6 (k := 1) FI_6, bI_6, (kbn4 FI_6 fun _ _ _ _ _ _ _ _ _ _ => rfl)⟩, ⟨g_7, _, E_7, ok_i7 (k := 1) FI_7, bI_7, (kbn1 FI_7 fun _ _ _ _ _ _ _ _ => rfl)⟩, ⟨g_10, _, E_10, ok_i10 (k := 1) FI_10, bI_10, (kbn2 FI_10 fun _ _ _ _ _ _ _ _ _ => rfl)⟩, ⟨g_11, _, E_11, ok_i11 (k := 1) FI_11, bI_11, (kbn1 FI_11 fun _ _ _ _ _ _ _ _ => rfl)⟩, ⟨g_13, _, E_13, ok_i13 (k := 1) FI_13, bI_13, (kbn1 FI_13 fun _ _ _ _ _ _ _ _ => rfl)⟩, ⟨g_15, _, E_15, ok_i15 (k := 1) FI_15, bI_15, (kbn1 FI_15 fun _ _ _ _ _ _ _ _ => rfl)⟩⟩
  have M6 : MkC l.prog w K mg base [x_0, x_1, x_2, x_3, x_4, x_5, x_6, x_7, x_8, x_9, x_10, x_11, x_12, x_13, x_14, x_15, x_16] 3 6 ["one", "other", "lacking"] ["lacking", "one", "other"] kx4 kx4 := ⟨g_6, _, E_6, ok_i6 (k := 2) FI_6, bI_6, (kbn4 FI_6 fun _ _ _ _ _ _ _ _ _ _ => rfl)⟩
  have M5 : MkC l.prog w K mg base [x_0, x_1, x_2, x_3, x_4, x_5, x_6, x_7, x_8, x_9, x_10, x_11, x_12, x_13, x_14, x_15, x_16] 3 5 ["one", "other", "number"] ["one", "other", "number"] kx5 kx5 := ⟨g_5, _, E_5, ok_i5 (k := 2) FI_5, bI_5, (kbn5 FI_5 fun _ _ _ _ _ _ _ _ _ _ => rfl)⟩
  have XB : XBare K [x_0, x_1, x_2, x_3, x_4, x_5, x_6, x_7, x_8, x_9, x_10, x_11, x_12, x_13, x_14, x_15, x_16] := ⟨qB_2, kB_2, qB_8, kB_8, qB_9, kB_9, qB_12, kB_12, qB_14, kB_14, qB_16, kB_16⟩
  have TF : ∀ i, i < 17 → flds i ≠ [] → ∃ fI, EF K (cl [x_0, x_1, x_2, x_3, x_4, x_5, x_6, x_7, x_8, x_9, x_10, x_11, x_12, x_13, x_14, x_15, x_16] i) fI (flds i) := fun i hi hf => by
    rcases fld_ix i hi hf with rfl | rfl | rfl | rfl | rfl | rfl | rfl | rfl | rfl | rfl | rfl
    · exact ⟨_, E_0⟩
    · exact ⟨_, E_1⟩
    · exact ⟨_, E_3⟩
    · exact ⟨_, E_4⟩
    · exact ⟨_, E_5⟩
    · exact ⟨_, E_6⟩
    · exact ⟨_, E_7⟩
    · exact ⟨_, E_10⟩
    · exact ⟨_, E_11⟩
    · exact ⟨_, E_13⟩
    · exact ⟨_, E_15⟩
  have T : SmT mg := ⟨y9, y7, y1, y4, y10, y2, y11, y12, y6⟩
  have gM1 : FnOk l.prog w K mg base CX0 1 f5 _ ["_law_got", "_law_due"] (spSame K 1) := ok_same F5 same_none b5 m5 T
  have gM2 : FnOk l.prog w K mg base CX0 2 f5 _ ["_law_got", "_law_due"] (spSame K 2) := ok_same F5 gM1 b5 m5 T
  have gK : FnOk l.prog w K mg base CX0 1 f2 _ ["_law_box_here", "_law_below"] spTake := ok_take F2 y6
  have gO : FnOk l.prog w K mg base CX0 2 f4 _ ["_law_box_here", "_law_some"] (spOf K) := ok_of F4 gK b2 k2 m2 y4
  have gV : FnOk l.prog w K mg base CX0 3 f6 _ ["_law_box_here"] spValue := ok_value F6 gO b4 k4 m4
  have gU : FnOk l.prog w K mg base CX0 3 f7 _ ["_law_box_here"] spMuch := ok_much F7 gO b4 k4 m4
  have gA : FnOk l.prog w K mg base CX0 4 f8 _ ["_law_box_here"] (spMade [x_0, x_1, x_2, x_3, x_4, x_5, x_6, x_7, x_8, x_9, x_10, x_11, x_12, x_13, x_14, x_15, x_16]) := ok_made F8 MG NN gV b6 k6 m6 gU b7 k7 m7
  have gP : FnOk l.prog w K mg base CX0 4 f9 _ ["_law_error_so"] (spKept [x_0, x_1, x_2, x_3, x_4, x_5, x_6, x_7, x_8, x_9, x_10, x_11, x_12, x_13, x_14, x_15, x_16]) := ok_kept F9 TE NN TF y9
  have gC : FnOk l.prog w K mg base CX0 4 f10 _ ["_law_e"] (spClasses K [x_0, x_1, x_2, x_3, x_4, x_5, x_6, x_7, x_8, x_9, x_10, x_11, x_12, x_13, x_14, x_15, x_16]) := ok_classes F10 TE NN y9
  have R4 : RiG l.prog w K mg base [x_0, x_1, x_2, x_3, x_4, x_5, x_6, x_7, x_8, x_9, x_10, x_11, x_12, x_13, x_14, x_15, x_16] 4 f5 _ f9 _ f10 _ f8 _ := ⟨fn_up gM2 (show 2 ≤ 4 by decide), b5, k5, m5, gP, b9, k9, m9, gC, b10, k10, m10, gA, b8, k8, m8⟩
  have gR : FnOk l.prog w K mg base CX0 5 f11 _ ["_law_box_here"] spRight := ok_right F11 R4 T TE NN XB TF y13 y14 M6 M5
  have gE : FnOk l.prog w K mg base CX0 5 f3 _ ["_law_script", "_law_most_so"] (spCells K) := ok_cells F3 y7 y3 y6
  have gB : FnOk l.prog w K mg base CX0 5 f1 _ ["_law_script", "_law_k"] (spBox K) := ok_box F1 y4 y5 y6
  exact ok_law F12 gE b3 k3 m3 gR b11 k11 m11 gB b1 k1 m1 y8 y10 y4
theorem walk {l : PySem.W.OpenLaw} {q : Program} {loose : List Str} {XP : (Str → Option Value) → Heap → Prop} {YP : World → Heap → Prop} {d : DefRec} {K : Params → PySem.W.Frag} (hn : l.most = some 63) (hdf : d.params.defaults = [])
    (hY : ∀ (w : World) (h : Heap), YP w h → (K w.params).In h)
    (F : ∀ (w : World) (mg : Str → Option Value) (fa : Addr) (h : Heap), (K w.params).In h → h.Ns mainGlobals mg → mg d.name = some (.ref fa) →
      ∃ fd : FuncData, (∀ (s : Shared) (u : Value), BindsTo s fd ⟨[u], []⟩ [("_law_script", u)]) ∧ ∀ base : Heap, (K w.params).In base → base.Ns mainGlobals mg → FnOk l.prog w (K w.params) mg base CX0 6 fa fd ["_law_script"] (spLaw (K w.params))) :
    PySem.W.WalkO q loose XP YP l.row.toRowW d [] (fun f vs => PySem.call f vs) :=
  L2.walk_of (n := 63) (k := 6) (x := "_law_script") (CX := fun _ => CX0) (sp := fun w => spLaw (K w.params)) hn (by decide) hdf ⟨rfl, by decide, by decide⟩ hY F (fun _ _ a ns hl _ hS => ⟨a, ns, rfl, hS, hl, fun _ => rfl⟩) fun _ _ _ _ _ z => z
end K97
open PySem PySem.W PyProof.Rows in
set_option maxRecDepth 100000 in
set_option maxHeartbeats 0 in
theorem PySem.Challenge.cw_countedsteps_k97_errors_and_values_holds : PySem.Challenge.rw_countedsteps_k97_errors_and_values.Holds := by
  w_on; o_law; k_head; (case hw => w_witness2)
  k_fill
  refine K97.walk (l := PySem.Challenge.rw_countedsteps_k97_errors_and_values) rfl rfl (fun w h Y => PySem.W.kIn_of Y) ?F
  case F =>
    intro w mg fa h KX G hmg
    refine' K97.all_mk KX G hmg ?a1 ?l1 ?c1 ?k1 ?a2 ?l2 ?c2 ?k2 ?a3 ?l3 ?c3 ?k3 ?a4 ?l4 ?c4 ?k4 ?a5 ?l5 ?c5 ?k5 ?a6 ?l6 ?c6 ?k6 ?a7 ?l7 ?c7 ?k7 ?a8 ?l8 ?c8 ?k8 ?a9 ?l9 ?c9 ?k9 ?a10 ?l10 ?c10 ?k10 ?a11 ?l11 ?c11 ?k11 ?a12 ?l12 ?c12 ?k12 ?z1 ?z2 ?z3 ?z4 ?z5 ?z6 ?z7 ?z8 ?z9 ?z10 ?z11 ?z12 ?z13 ?z14 ?aC_0 ?aC_1 ?aC_2 ?aC_3 ?aC_4 ?aC_5 ?aC_6 ?aC_7 ?aC_8 ?aC_9 ?aC_10 ?aC_11 ?aC_12 ?aC_13 ?aC_14 ?aC_15 ?aC_16 ?iC_0 ?lI_0 ?cI_0 ?kI_0 ?xL_0 ?eB_0 ?iC_1 ?lI_1 ?cI_1 ?kI_1 ?xL_1 ?eB_1 ?iC_3 ?lI_3 ?cI_3 ?kI_3 ?xL_3 ?eB_3 ?iC_4 ?lI_4 ?cI_4 ?kI_4 ?xL_4 ?eB_4 ?iC_5 ?lI_5 ?cI_5 ?kI_5 ?xL_5 ?eB_5 ?iC_6 ?lI_6 ?cI_6 ?kI_6 ?xL_6 ?eB_6 ?iC_7 ?lI_7 ?cI_7 ?kI_7 ?xL_7 ?eB_7 ?iC_10 ?lI_10 ?cI_10 ?kI_10 ?xL_10 ?eB_10 ?iC_11 ?lI_11 ?cI_11 ?kI_11 ?xL_11 ?eB_11 ?iC_13 ?lI_13 ?cI_13 ?kI_13 ?xL_13 ?eB_13 ?iC_15 ?lI_15 ?cI_15 ?kI_15 ?xL_15 ?eB_15 ?qB_2 ?kB_2 ?qB_8 ?kB_8 ?qB_9 ?kB_9 ?qB_12 ?kB_12 ?qB_14 ?kB_14 ?qB_16 ?kB_16 ?kt ?kv
    (case a1 => k_is); (case l1 => k_is); (case c1 => k_is); (case k1 => k_is)
    (case a2 => k_is); (case l2 => k_is); (case c2 => k_is); (case k2 => k_is)
    (case a3 => k_is); (case l3 => k_is); (case c3 => k_is); (case k3 => k_is)
    (case a4 => k_is); (case l4 => k_is); (case c4 => k_is); (case k4 => k_is)
    (case a5 => k_is); (case l5 => k_is); (case c5 => k_is); (case k5 => k_is)
    (case a6 => k_is); (case l6 => k_is); (case c6 => k_is); (case k6 => k_is)
    (case a7 => k_is); (case l7 => k_is); (case c7 => k_is); (case k7 => k_is)
    (case a8 => k_is); (case l8 => k_is); (case c8 => k_is); (case k8 => k_is)
    (case a9 => k_is); (case l9 => k_is); (case c9 => k_is); (case k9 => k_is)
    (case a10 => k_is); (case l10 => k_is); (case c10 => k_is); (case k10 => k_is)
    (case a11 => k_is); (case l11 => k_is); (case c11 => k_is); (case k11 => k_is)
    (case a12 => k_is); (case l12 => k_is); (case c12 => k_is); (case k12 => k_is)
    (case z1 => k_is)
    (case z2 => k_is)
    (case z3 => k_is)
    (case z4 => k_is)
    (case z5 => k_is)
    (case z6 => k_is)
    (case z7 => k_is)
    (case z8 => k_is)
    (case z9 => k_is)
    (case z10 => k_is)
    (case z11 => k_is)
    (case z12 => k_is)
    (case z13 => k_is)
    (case z14 => k_is)
    (case aC_0 => k_is)
    (case aC_1 => k_is)
    (case aC_2 => k_is)
    (case aC_3 => k_is)
    (case aC_4 => k_is)
    (case aC_5 => k_is)
    (case aC_6 => k_is)
    (case aC_7 => k_is)
    (case aC_8 => k_is)
    (case aC_9 => k_is)
    (case aC_10 => k_is)
    (case aC_11 => k_is)
    (case aC_12 => k_is)
    (case aC_13 => k_is)
    (case aC_14 => k_is)
    (case aC_15 => k_is)
    (case aC_16 => k_is)
    (case iC_0 => k_is)
    (case lI_0 => k_is)
    (case cI_0 => k_is)
    (case kI_0 => k_is)
    (case xL_0 => k_is)
    (case eB_0 => kernel_rfl)
    (case iC_1 => k_is)
    (case lI_1 => k_is)
    (case cI_1 => k_is)
    (case kI_1 => k_is)
    (case xL_1 => k_is)
    (case eB_1 => kernel_rfl)
    (case iC_3 => k_is)
    (case lI_3 => k_is)
    (case cI_3 => k_is)
    (case kI_3 => k_is)
    (case xL_3 => k_is)
    (case eB_3 => kernel_rfl)
    (case iC_4 => k_is)
    (case lI_4 => k_is)
    (case cI_4 => k_is)
    (case kI_4 => k_is)
    (case xL_4 => k_is)
    (case eB_4 => kernel_rfl)
    (case iC_5 => k_is)
    (case lI_5 => k_is)
    (case cI_5 => k_is)
    (case kI_5 => k_is)
    (case xL_5 => k_is)
    (case eB_5 => kernel_rfl)
    (case iC_6 => k_is)
    (case lI_6 => k_is)
    (case cI_6 => k_is)
    (case kI_6 => k_is)
    (case xL_6 => k_is)
    (case eB_6 => kernel_rfl)
    (case iC_7 => k_is)
    (case lI_7 => k_is)
    (case cI_7 => k_is)
    (case kI_7 => k_is)
    (case xL_7 => k_is)
    (case eB_7 => kernel_rfl)
    (case iC_10 => k_is)
    (case lI_10 => k_is)
    (case cI_10 => k_is)
    (case kI_10 => k_is)
    (case xL_10 => k_is)
    (case eB_10 => kernel_rfl)
    (case iC_11 => k_is)
    (case lI_11 => k_is)
    (case cI_11 => k_is)
    (case kI_11 => k_is)
    (case xL_11 => k_is)
    (case eB_11 => kernel_rfl)
    (case iC_13 => k_is)
    (case lI_13 => k_is)
    (case cI_13 => k_is)
    (case kI_13 => k_is)
    (case xL_13 => k_is)
    (case eB_13 => kernel_rfl)
    (case iC_15 => k_is)
    (case lI_15 => k_is)
    (case cI_15 => k_is)
    (case kI_15 => k_is)
    (case xL_15 => k_is)
    (case eB_15 => kernel_rfl)
    (case qB_2 => first | kernel_rfl)
    (case kB_2 => k_is)
    (case qB_8 => first | kernel_rfl)
    (case kB_8 => k_is)
    (case qB_9 => first | kernel_rfl)
    (case kB_9 => k_is)
    (case qB_12 => first | kernel_rfl)
    (case kB_12 => k_is)
    (case qB_14 => first | kernel_rfl)
    (case kB_14 => k_is)
    (case qB_16 => first | kernel_rfl)
    (case kB_16 => k_is)
    (case kt => kernel_rfl)
    (case kv => kernel_rfl)
