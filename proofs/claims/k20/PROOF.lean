import PyProof.Rows.All
import Wide.All
import OpenK.AllK
import Wide.FinOn
import HandS.ForMost
import HandS.Zip
import HandS.TupAny
import KE.KRevSl
import KE.GoesNew
import KE.KDictZip
import HandS.Walk
import HandS.Conv
import HandS.Flow
import HandS.IsInst
import HandS.Wide
import HandS.ForExc
import HandS.ExcInit
import HandS.ExcIs
import HandS.ExcField
import KE.KExcInit
import HandS.Defaults
import HandS.ExcValue
import HandS.SetFor
import KE.SortData
import HandS.Dict
import HandS.Iter
import HandS.Deep
import HandS.CallSlots
import HandS.Style
import HandS.Text
import PyProof.P3In
import HandS.RaiseMore
import HandS.Comp
import HandS.TryOnly
import HandS.WordsExc
import HandS.More
import HandS.Property
import HandS.DictComp
import HandS.Star
import KE.KOpsOwn
import HandS.Codes
import PyProof.Rows.SortStr
import PyProof.Rows.StrMeet
import HandS.Set
import KE.KTryMore
import KE.KDictPairs
import KE.KDictKeyed
import PyProof.InstNe
import PyProof.ListNew
import KE.DataFind
import HandS.ClsMeth
import HandS.FStr
import PyProof.StrLaws
import PyProof.Rows.RegStrFacts
import PyProof.ExcBaseAll.ValueError
import HandS.TupMul
import HandS.SetKeys
import HandS.Gcd
import HandS.WideBits
import KE.KMathGC
import KE.GoesZip
import KE.GoesMore
import PyProof.StrLawsFirst
import PyProof.SumWalkG
import PyProof.ReprRoads
import HandS.FStrTup
import PyProof.TupleOfSeq
import PyProof.CollectStr
import PySem.Challenge.RW_countedsteps_k20_exit_lists
set_option Elab.async false
set_option linter.all false
set_option maxRecDepth 100000
set_option maxHeartbeats 2000000
/-! Rules that the hand layer lacks: the reversed slice, enumerate of a tuple, tuple(zip(..)) -/
namespace CS
open PySem PySem.Spec PyProof.Rows L2
/-! ### x[::-1] -/
end CS
namespace CS
open PySem PySem.Spec PyProof.Rows L2
/-! ### enumerate(x) of anything whose iterator is known -/
end CS
namespace CS
open PySem PySem.Spec PyProof.Rows L2
section
variable {prog : Program} {w : World} {A : Around} {E : Value → Shared → Prop} {s : Shared} {z TI TO T i1 i2 : Addr} {fp1 fp2 : List Addr} {n1 n2 i : Nat} {P1 P2 : Nat → Value → Prop} {St1 St2 : Nat → Heap → Prop} {f : Bool} {oT : Obj}
/-- one more of a zip whose tuple is still held by somebody -/
theorem held_item {Q : Value → Shared → Prop} (S : ZipSep2 z TI TO i1 i2 fp1 fp2) (D1 : Draws prog w A i1 fp1 n1 P1 St1) (D2 : Draws prog w A i2 fp2 n2 P2 St2)
    (hz : IsZipHeld s.heap z TI TO T f) (hT : s.heap.get? T = some oT) (hTI : IsTupOf2 s.heap TI (.ref i1) (.ref i2)) (st1 : St1 i s.heap) (st2 : St2 i s.heap) (lt1 : i < n1) (lt2 : i < n2)
    (hq : ∀ x y h' tk, P1 i x → P2 i y → IsZipHeld h' z TI TO T true → St1 (i + 1) h' → St2 (i + 1) h' → IsTupOf2 h' s.heap.objs.size x y → h'.objs.size = s.heap.objs.size + 1 →
      (∀ c u, c ≠ z → c ≠ i1 → c ≠ i2 → s.heap.get? c = some u → h'.get? c = some u) → Q (.ref s.heap.objs.size) { s with heap := h', toks := tk }) :
    wpAny (model prog w) A (Builtin.«zip.__next__» ⟨[.ref z], []⟩) (fun fin s' => ∃ v, fin = .done (.ret v) ∧ Q v s') E s := by
  obtain ⟨hp, gn, dr, tk0, os⟩ := s
  show wpAny _ _ (field (.ref z) 2 >>= _) _ _ _
  refine wpAny_bind (wpAny_field hz rfl (x := .bool false) rfl ?_)
  show wpAny _ _ (field (.ref z) 3 >>= _) _ _ _
  refine wpAny_bind (wpAny_field hz rfl (x := .ref TI) rfl (wpAny_bind (wpAny_seqItems hTI rfl ?_)))
  show wpAny _ _ (Builtin.SmallTypes.ownedTupleIsFree (.ref z) >>= _) _ _ _
  refine wpAny_bind (wpAny_tupleHeld_zip hz hT fun g1 hz1 hs1 => ?_)
  replace hs1 : Heap.SameBut z hp g1 := hs1
  simp only [Bool.false_eq_true, if_false]
  refine wpAny_bind ?_
  rw [← Array.forIn_toList]
  simp only [List.forIn_cons, List.forIn_nil]
  refine wpAny_bind (wpAny_bind (wpAny_holding ?_))
  show wpAny _ _ (Builtin.SmallTypes.nextOf (.ref i1) >>= _) _ _ ⟨g1, gn, dr, tk0, os⟩
  refine wpAny_bind (D1.item i _ _ _ lt1 (D1.over st1 hs1 S.zf1) fun x g2 tk1 hx sn1 hs2 => wpAny_pure (wpAny_pure ?_))
  replace hs2 : Heap.SameBut i1 g1 g2 := hs2
  refine wpAny_bind (wpAny_bind (wpAny_holding ?_))
  show wpAny _ _ (Builtin.SmallTypes.nextOf (.ref i2) >>= _) _ _ ⟨g2, gn, dr, tk1, os⟩
  refine wpAny_bind (D2.item i _ _ _ lt2 (D2.over (D2.over st2 hs1 S.zf2) hs2 S.sep1_2) fun y g3 tk2 hy sn2 hs3 => wpAny_pure (wpAny_pure (wpAny_pure ?_)))
  replace hs3 : Heap.SameBut i2 g2 g3 := hs3
  show wpAny _ _ (newTuple [x, y] >>= _) _ _ ⟨g3, gn, dr, tk2, os⟩
  refine wpAny_bind (wpAny_newTuple ?_)
  have esz : g3.objs.size = hp.objs.size := by rw [hs3.1, hs2.1, hs1.1]
  have hz3 : IsZipHeld g3 z TI TO T true := hs3.extBut _ _ S.zi2 (hs2.extBut _ _ S.zi1 hz1)
  have kept : ∀ c u, c ≠ z → c ≠ i1 → c ≠ i2 → hp.get? c = some u → g3.get? c = some u := fun c u c1 c2 c3 q => hs3.extBut _ _ c3 (hs2.extBut _ _ c2 (hs1.extBut _ _ c1 q))
  have j1 : St1 (i + 1) g3 := D1.over sn1 hs3 S.sep2_1
  refine wpAny_pure ⟨_, rfl, ?_⟩
  show Q (.ref g3.objs.size) _
  have tp : IsTupOf2 (g3.push { cls := .type "tuple", data := .seq #[x, y] }) g3.objs.size x y := Heap.get?_push_size _ rfl
  have sz4 : (g3.push { cls := .type "tuple", data := .seq #[x, y] }).objs.size = g3.objs.size + 1 := Heap.size_push ..
  rw [esz] at tp sz4 ⊢
  exact hq x y _ tk2 hx hy (Heap.get?_push_of_some _ hz3) (D1.frame _ _ _ j1 fun b _ u q => Heap.get?_push_of_some _ q) (D2.frame _ _ _ sn2 fun b _ u q => Heap.get?_push_of_some _ q) tp sz4 fun c u c1 c2 c3 q => Heap.get?_push_of_some _ (kept c u c1 c2 c3 q)
theorem held_end {Q : Fin → Shared → Prop} (S : ZipSep2 z TI TO i1 i2 fp1 fp2) (D1 : Draws prog w A i1 fp1 n1 P1 St1) (D2 : Draws prog w A i2 fp2 n2 P2 St2)
    (hz : IsZipHeld s.heap z TI TO T f) (hT : s.heap.get? T = some oT) (hTI : IsTupOf2 s.heap TI (.ref i1) (.ref i2)) (st1 : St1 i s.heap) (st2 : St2 i s.heap) (le1 : i ≤ n1) (le2 : i ≤ n2) (fin : i = n1 ∨ i = n2)
    (he : ∀ h' tk e, (∀ c u, c ≠ z → c ≠ i1 → c ≠ i2 → s.heap.get? c = some u → h'.get? c = some u) → (∃ u, h'.get? e = some u ∧ u.cls = .type "StopIteration") → E (.ref e) { s with heap := h', toks := tk }) :
    wpAny (model prog w) A (Builtin.«zip.__next__» ⟨[.ref z], []⟩) Q E s := by
  obtain ⟨hp, gn, dr, tk0, os⟩ := s
  show wpAny _ _ (field (.ref z) 2 >>= _) _ _ _
  refine wpAny_bind (wpAny_field hz rfl (x := .bool false) rfl ?_)
  show wpAny _ _ (field (.ref z) 3 >>= _) _ _ _
  refine wpAny_bind (wpAny_field hz rfl (x := .ref TI) rfl (wpAny_bind (wpAny_seqItems hTI rfl ?_)))
  show wpAny _ _ (Builtin.SmallTypes.ownedTupleIsFree (.ref z) >>= _) _ _ _
  refine wpAny_bind (wpAny_tupleHeld_zip hz hT fun g1 hz1 hs1 => ?_)
  replace hs1 : Heap.SameBut z hp g1 := hs1
  simp only [Bool.false_eq_true, if_false]
  refine wpAny_bind ?_
  rw [← Array.forIn_toList]
  simp only [List.forIn_cons, List.forIn_nil]
  refine wpAny_bind (wpAny_bind (wpAny_holding ?_))
  show wpAny _ _ (Builtin.SmallTypes.nextOf (.ref i1) >>= _) _ _ ⟨g1, gn, dr, tk0, os⟩
  by_cases lt1 : i < n1
  · refine wpAny_bind (D1.item i _ _ _ lt1 (D1.over st1 hs1 S.zf1) fun x g2 tk1 hx sn1 hs2 => wpAny_pure (wpAny_pure ?_))
    replace hs2 : Heap.SameBut i1 g1 g2 := hs2
    have ei : i = n2 := by omega
    refine wpAny_bind (wpAny_bind (wpAny_holding ?_))
    show wpAny _ _ (Builtin.SmallTypes.nextOf (.ref i2) >>= _) _ _ ⟨g2, gn, dr, tk1, os⟩
    refine wpAny_bind (D2.done ⟨g2, gn, dr, tk1, os⟩ _ _ (by rw [← ei]; exact D2.over (D2.over st2 hs1 S.zf2) hs2 S.sep1_2) fun q e hq hE => ?_)
    replace hq : Heap.ExtBut i2 g2 q := hq
    exact he q tk1 e (fun c u c1 c2 c3 r => hq _ _ c3 (hs2.extBut _ _ c2 (hs1.extBut _ _ c1 r))) hE
  · have ei : i = n1 := by omega
    refine wpAny_bind (D1.done ⟨g1, gn, dr, tk0, os⟩ _ _ (by rw [← ei]; exact D1.over st1 hs1 S.zf1) fun q e hq hE => ?_)
    replace hq : Heap.ExtBut i1 g1 q := hq
    exact he q tk0 e (fun c u c1 c2 c3 r => hq _ _ c2 (hs1.extBut _ _ c1 r)) hE
/-- where a zip stands ahead of its i-th turn, if what it gave is kept -/
def ZAt (z TI TO i1 i2 : Addr) (S : Addr) (St1 St2 : Nat → Heap → Prop) (i : Nat) (h : Heap) : Prop :=
  IsTupOf2 h TI (.ref i1) (.ref i2) ∧ St1 i h ∧ St2 i h ∧ ((IsZip h z TI TO .none ∧ ∃ a b, IsTupOf2 h TO a b) ∨ ∃ T f oT, IsZipHeld h z TI TO T f ∧ h.get? T = some oT ∧ T ≠ z ∧ T ≠ i1 ∧ T ≠ i2 ∧ T ≠ S)
theorem z_item {S0 : Addr} {Q : Option Value → Shared → Prop} (S : ZipSep2 z TI TO i1 i2 fp1 fp2) (D1 : Draws prog w A.in1 i1 fp1 n1 P1 St1) (D2 : Draws prog w A.in1 i2 fp2 n2 P2 St2)
    (hz : ZAt z TI TO i1 i2 S0 St1 St2 i s.heap) (hS : S0 < s.heap.objs.size) (lt1 : i < n1) (lt2 : i < n2)
    (hq : ∀ x y h' tk, P1 i x → P2 i y → ZAt z TI TO i1 i2 S0 St1 St2 (i + 1) h' → IsTupOf2 h' s.heap.objs.size x y → h'.objs.size = s.heap.objs.size + 1 →
      (∀ c u, c ≠ z → c ≠ TO → c ≠ i1 → c ≠ i2 → s.heap.get? c = some u → h'.get? c = some u) → Q (some (.ref s.heap.objs.size)) { s with heap := h', toks := tk }) :
    wpAny (model prog w) A (pyNext (.ref z)) Q E s := by
  obtain ⟨hTI, st1, st2, q⟩ := hz
  have lti1 : i1 < s.heap.objs.size := by obtain ⟨_, q⟩ := D1.live _ _ st1; exact Heap.lt_size q
  have lti2 : i2 < s.heap.objs.size := by obtain ⟨_, q⟩ := D2.live _ _ st2; exact Heap.lt_size q
  rcases q with ⟨hz, a, b, hTO⟩ | ⟨T, f, oT, hz, hT, t1, t2, t3, t4⟩
  · have ltz : z < s.heap.objs.size := Heap.lt_size hz
    refine wpAny_pyNext_zipD2_item S D1 D2 hz hTI hTO st1 st2 lt1 lt2 fun x y h' tk p1 p2 b1 b2 d1 d2 b5 b6 b7 => hq x y h' tk p1 p2 ⟨b7 _ _ S.TIz S.TITO S.TIi1 S.TIi2 hTI, d1, d2, .inr ⟨s.heap.objs.size, false, _, b1, b5, ?_⟩⟩ b5 b6 b7
    exact ⟨Nat.ne_of_gt ltz, Nat.ne_of_gt lti1, Nat.ne_of_gt lti2, Nat.ne_of_gt hS⟩
  · have hty : s.TypeIs (.ref z) "zip" := ⟨_, hz, rfl⟩
    unfold pyNext
    exact wpAny_bind (wpAny_attempt (wpAny_callSpecial?_slot (name := Str.ofString "__next__") hty F.slot_zip_next (wpAny_call_entry F.slot_zip_next hty F.entry_zip_next
      (held_item S D1 D2 hz hT hTI st1 st2 lt1 lt2 fun x y h' tk p1 p2 b1 d1 d2 b5 b6 b7 => wpAny_pure (hq x y h' tk p1 p2
        ⟨b7 _ _ S.TIz S.TIi1 S.TIi2 hTI, d1, d2, .inr ⟨T, true, oT, b1, b7 _ _ t1 t2 t3 hT, t1, t2, t3, t4⟩⟩ b5 b6 fun c u c1 _ c3 c4 q => b7 c u c1 c3 c4 q)) (F.args_zip_next_1 _))))
theorem z_end {S0 : Addr} {Q : Option Value → Shared → Prop} (S : ZipSep2 z TI TO i1 i2 fp1 fp2) (D1 : Draws prog w A.in1 i1 fp1 n1 P1 St1) (D2 : Draws prog w A.in1 i2 fp2 n2 P2 St2)
    (hz : ZAt z TI TO i1 i2 S0 St1 St2 i s.heap) (le1 : i ≤ n1) (le2 : i ≤ n2) (fin : i = n1 ∨ i = n2)
    (hq : ∀ h' tk, (∀ c u, c ≠ z → c ≠ TO → c ≠ i1 → c ≠ i2 → s.heap.get? c = some u → h'.get? c = some u) → Q none { s with heap := h', toks := tk }) : wpAny (model prog w) A (pyNext (.ref z)) Q E s := by
  obtain ⟨hTI, st1, st2, q⟩ := hz
  rcases q with ⟨hz, a, b, hTO⟩ | ⟨T, f, oT, hz, hT, t1, t2, t3, t4⟩
  · exact wpAny_pyNext_zipD2_end S D1 D2 hz hTI hTO st1 st2 le1 le2 fin hq
  · have hty : s.TypeIs (.ref z) "zip" := ⟨_, hz, rfl⟩
    unfold pyNext
    refine wpAny_bind (wpAny_attempt (wpAny_callSpecial?_slot (name := Str.ofString "__next__") hty F.slot_zip_next (wpAny_call_entry F.slot_zip_next hty F.entry_zip_next
      (held_end S D1 D2 hz hT hTI st1 st2 le1 le2 fin fun h' tk e hk hE => ?_) (F.args_zip_next_1 _))))
    obtain ⟨u, hu, hcl⟩ := hE
    exact wpAny_bind (wpAny_isInstance (T := "StopIteration") (b := true) ⟨u, hu, hcl⟩ isSubtype_stop (wpAny_pure (hq _ _ fun c v c1 _ c3 c4 q => hk c v c1 c3 c4 q)))
theorem ZAt.through {S0 : Addr} {h h' : Heap} (S : ZipSep2 z TI TO i1 i2 fp1 fp2) (D1 : Draws prog w A i1 fp1 n1 P1 St1) (D2 : Draws prog w A i2 fp2 n2 P2 St2) (n1' : S0 ∉ fp1) (n2' : S0 ∉ fp2) (nT : TI ≠ S0) (nz : z ≠ S0) (nO : TO ≠ S0)
    (hz : ZAt z TI TO i1 i2 S0 St1 St2 i h) (k : ∀ c u, c ≠ S0 → h.get? c = some u → h'.get? c = some u) : ZAt z TI TO i1 i2 S0 St1 St2 i h' := by
  obtain ⟨hTI, st1, st2, q⟩ := hz
  refine ⟨k _ _ nT hTI, D1.frame _ _ _ st1 fun b hb u e => k _ _ (fun z => n1' (z ▸ hb)) e, D2.frame _ _ _ st2 fun b hb u e => k _ _ (fun z => n2' (z ▸ hb)) e, ?_⟩
  rcases q with ⟨hz, a, b, hTO⟩ | ⟨T, f, oT, hz, hT, t1, t2, t3, t4⟩
  · exact .inl ⟨k _ _ nz hz, a, b, k _ _ nO hTO⟩
  · exact .inr ⟨T, f, oT, k _ _ nz hz, k _ _ t4 hT, t1, t2, t3, t4⟩
end
end CS
namespace CS
open PySem PySem.Spec PyProof.Rows L2
theorem zip_nolen : typeLookup (.type "zip") "__len__" = pure none := am_miss_of_fast (by decide +kernel)
theorem zip_nohint : typeLookup (.type "zip") "__length_hint__" = pure none := am_miss_of_fast (by decide +kernel)
/-- the j-th address of as holds the pair of the j-th of xs and the j-th of ys -/
def PairsAt (xs ys : List V) (as : List Addr) (H : Hp) : Prop := ∀ (j : Nat) (a : Addr) (x y : V), as[j]? = some a → xs[j]? = some x → ys[j]? = some y → H a = some (.tup [x, y])
section
variable {X : Cx} {pins : List (Addr × Obj)} {σ : L2.St} {s : Shared} {A : Around} {z TI TO i1 i2 S0 : Addr} {fp1 fp2 : List Addr} {St1 St2 : Nat → Heap → Prop} {xs ys : List V} {its1 its2 : List Value} {n1 n2 n : Nat} {H0 : Hp}
/-- what the loop that collects a zip has reached -/
structure ZGot (X : Cx) (pins : List (Addr × Obj)) (σ : L2.St) (s : Shared) (z TO i1 i2 S0 : Addr) (xs ys : List V) (H0 : Hp) (i : Nat) (h : Heap) (tk : Nat) (Hc : Hp) (acc : Array Value) (c : Nat) (as : List Addr) : Prop where
  inv : Inv X pins σ Hc { s with heap := h, toks := tk }
  lst : h.get? S0 = some { cls := .type "list", dict := none, data := .seq acc c, slots := #[] }
  acc : acc.toList = as.map Value.ref
  len : as.length = i
  fp : ∀ b ∈ [z, TO, i1, i2, S0], FpOk X pins Hc b
  same : Same H0 Hc
  good : PairsAt xs ys as Hc
theorem z_loop {R : Result → Shared → Prop} (S : ZipSep2 z TI TO i1 i2 fp1 fp2) (rx : Vals xs its1) (ry : Vals ys its2)
    (D1 : Draws X.prog X.w A.in1.in1 i1 fp1 xs.length (fun j v => its1[j]? = some v) St1) (D2 : Draws X.prog X.w A.in1.in1 i2 fp2 ys.length (fun j v => its2[j]? = some v) St2)
    (sf1 : S0 ∉ fp1) (sf2 : S0 ∉ fp2) (nT : TI ≠ S0) (nz : z ≠ S0) (nO : TO ≠ S0) (hn : n = min xs.length ys.length) (hfit : n ≤ sizeLine) (res : Value)
    (hR : ∀ h tk Hc acc c as, ZGot X pins σ s z TO i1 i2 S0 xs ys H0 n h tk Hc acc c as → R (.ok (.ret res)) { s with heap := h, toks := tk }) :
    ∀ (k i : Nat) (h : Heap) (tk : Nat) (Hc : Hp) (acc : Array Value) (c : Nat) (as : List Addr), n - i = k → i ≤ n → ZGot X pins σ s z TO i1 i2 S0 xs ys H0 i h tk Hc acc c as → ZAt z TI TO i1 i2 S0 St1 St2 i h → (∀ b ∈ [z, TO, i1, i2, S0], b < h.objs.size) →
    codeAny (model X.prog X.w) A (.builtin "list.extend.loop" ⟨[.ref S0, .ref z, res], []⟩) R { s with heap := h, toks := tk } := by
  intro k
  induction k with
  | zero =>
    intro i h tk Hc acc c as ek hi G zat low
    have ein : i = n := by omega
    subst ein
    refine codeAny_builtin F.entry_extend_loop ?_
    rw [Around.under_plainId F.plain_extend_loop _]
    show wpAny _ A.in1 (pyNext (.ref z) >>= _) _ _ _
    refine wpAny_bind (z_end S D1 D2 zat (by omega) (by omega) (by omega) fun h' tk' hk => ?_)
    have hS : z ≠ S0 ∧ i1 ≠ S0 ∧ i2 ≠ S0 := ⟨nz, fun q => sf1 (q ▸ S.mem1), fun q => sf2 (q ▸ S.mem2)⟩
    refine wpAny_pure (hR h' tk' Hc acc c as ⟨?_, hk _ _ nz.symm nO.symm hS.2.1.symm hS.2.2.symm G.lst, G.acc, G.len, G.fp, G.same, G.good⟩)
    exact G.inv.turnedL (s := { s with heap := h, toks := tk }) (t' := tk') (ch := [z, TO, i1, i2, S0]) (fun b u hb q => hk b u (fun e => hb (by simp [e])) (fun e => hb (by simp [e])) (fun e => hb (by simp [e])) (fun e => hb (by simp [e])) q) G.fp
  | succ k ih =>
    intro i h tk Hc acc c as ek hi G zat low
    have hS : z ≠ S0 ∧ i1 ≠ S0 ∧ i2 ≠ S0 := ⟨nz, fun q => sf1 (q ▸ S.mem1), fun q => sf2 (q ▸ S.mem2)⟩
    have hSlt : S0 < h.objs.size := Heap.lt_size G.lst
    refine codeAny_builtin F.entry_extend_loop ?_
    rw [Around.under_plainId F.plain_extend_loop _]
    show wpAny _ A.in1 (pyNext (.ref z) >>= _) _ _ _
    refine wpAny_bind (z_item (s := { s with heap := h, toks := tk }) S D1 D2 zat hSlt (by omega) (by omega) fun u v h' tk' hu hv zat' tp hsz hk => ?_)
    obtain ⟨x, hx, rxu⟩ : ∃ x, xs[i]? = some x ∧ RelV x u := by
      have hlt : i < xs.length := by omega
      obtain ⟨u', e1, e2⟩ := rx.get (List.getElem?_eq_getElem hlt)
      rw [e1] at hu
      cases hu
      exact ⟨_, List.getElem?_eq_getElem hlt, e2⟩
    obtain ⟨y, hy, ryv⟩ : ∃ y, ys[i]? = some y ∧ RelV y v := by
      have hlt : i < ys.length := by omega
      obtain ⟨u', e1, e2⟩ := ry.get (List.getElem?_eq_getElem hlt)
      rw [e1] at hv
      cases hv
      exact ⟨_, List.getElem?_eq_getElem hlt, e2⟩
    have hS' := hk _ _ nz.symm nO.symm hS.2.1.symm hS.2.2.symm G.lst
    have hT0 : Hc h.objs.size = none := G.inv.hok.fresh (Nat.le_refl _)
    have nw : ObjOk X.prog X.w (upd Hc h.objs.size (.tup [x, y])) h' h.objs.size (.tup [x, y]) := ⟨by show 2 ≤ sizeLine; decide, [u, v], .cons rxu (.cons ryv .nil), ⟨_, tp, rfl, _, rfl⟩⟩
    have I1 : Inv X pins σ (upd Hc h.objs.size (.tup [x, y])) { s with heap := h', toks := tk' } :=
      G.inv.turnedNew (s := { s with heap := h, toks := tk }) (t' := tk') (ch := [z, TO, i1, i2, S0]) (fun b q hb e => hk b q (fun e => hb (by simp [e])) (fun e => hb (by simp [e])) (fun e => hb (by simp [e])) (fun e => hb (by simp [e])) e) G.fp (Nat.le_refl _) nw
    have fp2' : ∀ b ∈ [z, TO, i1, i2, S0], FpOk X pins (upd Hc h.objs.size (.tup [x, y])) b := fun b hb => by
      obtain ⟨f0, fr⟩ := G.fp b hb
      refine ⟨?_, fr⟩
      have hlt : b ≠ h.objs.size := Nat.ne_of_lt (low b hb)
      rw [upd_ne hlt]
      exact f0
    show wpAny _ A.in1 (updateSeq S0 (·.push (.ref h.objs.size)) >>= _) _ _ _
    have esz : acc.size = i := by rw [← Array.length_toList, G.acc, List.length_map, G.len]
    refine wpAny_bind (wpAny_updateSeq (s := { s with heap := h', toks := tk' }) hS' rfl (wpAny_pure ⟨plainId_quiet F.plain_extend_loop _, ?_⟩) (by rw [esz]; omega) (by show (acc.push _).size ≤ sizeLine + 1; rw [Array.size_push, esz]; omega))
    have oth : ∀ b q, b ≠ S0 → h'.get? b = some q → (h'.update S0 (Obj.mapSeq (·.push (Value.ref h.objs.size)))).get? b = some q := fun b q hb e => (Heap.get?_update_other _ _ (Ne.symm hb)).trans e
    refine ih (i + 1) _ tk' (upd Hc h.objs.size (.tup [x, y])) (acc.push (.ref h.objs.size)) _ (as ++ [h.objs.size]) (by omega) (by omega) ⟨?_, Heap.get?_update_self _ hS' rfl, ?_, ?_, fp2', ?_, ?_⟩ (ZAt.through S D1 D2 sf1 sf2 nT nz nO zat' oth) (fun b hb => by
      have q := low b hb
      rw [(Heap.SameBut.update h' S0 _).1, hsz]
      exact Nat.lt_succ_of_lt q)
    · exact I1.turnedL (s := { s with heap := h', toks := tk' }) (t' := tk') (ch := [z, TO, i1, i2, S0]) (fun b q hb e => oth b q (fun e => hb (by simp [e])) e) fp2'
    · rw [Array.toList_push, G.acc, List.map_append]
      rfl
    · rw [List.length_append, G.len]
      rfl
    · exact fun b q e => by rw [upd_ne (ne_of_none (G.same b q e) hT0)]; exact G.same b q e
    · intro j a x' y' ha hx' hy'
      by_cases hj : j < i
      · have ha' : as[j]? = some a := by rw [List.getElem?_append_left (by rw [G.len]; exact hj)] at ha; exact ha
        have q := G.good j a x' y' ha' hx' hy'
        rw [upd_ne (ne_of_none q hT0)]
        exact q
      · have ej : j = i := by
          have q := (List.getElem?_eq_some_iff.mp ha).1
          rw [List.length_append, G.len, List.length_singleton] at q
          omega
        subst ej
        rw [List.getElem?_append_right (by rw [G.len]; exact Nat.le_refl _), G.len, Nat.sub_self] at ha
        have ea : h.objs.size = a := Option.some.inj ha
        rw [hx] at hx'
        rw [hy] at hy'
        cases hx'
        cases hy'
        rw [← ea]
        exact upd_same
/-- collecting a zip -/
theorem z_collect {Q : List Value → Shared → Prop} {E : Value → Shared → Prop} (S : ZipSep2 z TI TO i1 i2 fp1 fp2) (rx : Vals xs its1) (ry : Vals ys its2)
    (D1 : Draws X.prog X.w A.in1.in1 i1 fp1 xs.length (fun j v => its1[j]? = some v) St1) (D2 : Draws X.prog X.w A.in1.in1 i2 fp2 ys.length (fun j v => its2[j]? = some v) St2)
    (hn : n = min xs.length ys.length) (hfit : n ≤ sizeLine) (I : Inv X pins σ H0 s) (hz : IsZip s.heap z TI TO .none) (hTI : IsTupOf2 s.heap TI (.ref i1) (.ref i2)) (hTO : ∃ a b, IsTupOf2 s.heap TO a b) (st1 : St1 0 s.heap) (st2 : St2 0 s.heap)
    (l1 : ∀ b ∈ fp1, b < s.heap.objs.size) (l2 : ∀ b ∈ fp2, b < s.heap.objs.size) (fp0 : ∀ b ∈ [z, TO, i1, i2], FpOk X pins H0 b)
    (hq : ∀ h tk Hc as, Inv X pins σ Hc { s with heap := h, toks := tk } → as.length = n → Same H0 Hc → PairsAt xs ys as Hc → Q (as.map Value.ref) { s with heap := h, toks := tk }) :
    wpAny (model X.prog X.w) A (collect (.ref z)) Q E s := by
  have zl : z < s.heap.objs.size := Heap.lt_size hz
  have Tl : TI < s.heap.objs.size := Heap.lt_size hTI
  have Ol : TO < s.heap.objs.size := by obtain ⟨_, _, q⟩ := hTO; exact Heap.lt_size q
  have nm : ∀ {l : List Addr}, (∀ b ∈ l, b < s.heap.objs.size) → s.heap.objs.size ∉ l := fun h q => Nat.lt_irrefl _ (h _ q)
  unfold collect
  refine wpAny_bind (wpAny_runValue (codeAny_builtin F.entry_proto_collect ?_))
  rw [Around.under_plainId F.plain_proto_collect _]
  show wpAny _ A.in1 (newList [] >>= fun l => again (.builtin "list.__iadd__" ⟨[l, .ref z], []⟩)) _ _ s
  refine wpAny_bind (wpAny_newObj_type (wpAny_pure ⟨plainId_quiet F.plain_list_iadd _, codeAny_builtin F.entry_list_iadd ?_⟩))
  rw [Around.under_plainId F.plain_list_iadd _]
  have up : ∀ b u, s.heap.get? b = some u → (s.heap.push { cls := .type "list", data := .seq ([] : List Value).toArray }).get? b = some u := fun b u e => Heap.get?_push_of_some _ e
  have hL : (s.heap.push { cls := .type "list", data := .seq ([] : List Value).toArray }).get? s.heap.objs.size = some { cls := .type "list", data := .seq #[] } := Heap.get?_push_size _ rfl
  have zty : ({ s with heap := s.heap.push { cls := .type "list", data := .seq ([] : List Value).toArray } } : Shared).TypeIs (.ref z) "zip" := ⟨_, up _ _ hz, rfl⟩
  have e1 : Builtin.List.listSameRef (.ref s.heap.objs.size) (.ref z) = false := by simp [Builtin.List.listSameRef, Nat.ne_of_gt zl]
  have e2 : (Value.type "zip" == Value.type "list") = false := by decide
  have e3 : (Value.type "zip" == Value.type "tuple") = false := by decide
  show wpAny _ A.in1 (Builtin.List.listExtendWith (.ref s.heap.objs.size) (.ref z) (.ref s.heap.objs.size)) _ _ _
  unfold Builtin.List.listExtendWith
  refine wpAny_bind (wpAny_typeOf zty ?_)
  simp only [e1, e2, e3, Bool.or_false, Bool.false_eq_true, if_false]
  refine wpAny_bind (wpAny_pyIter_zip (up _ _ hz) (wpAny_bind (wpAny_holding ?_)))
  unfold Builtin.List.listLengthHint
  refine wpAny_bind (wpAny_specialOf zty zip_nolen ?_)
  show wpAny _ A.in1 (specialOf (Value.ref z) (Str.ofString "__length_hint__") >>= _) _ _ _
  refine wpAny_bind (wpAny_specialOf zty zip_nohint (wpAny_pure ?_))
  show wpAny _ A.in1 (rule "list.extend.makes-room" >>= fun _ => Builtin.List.listTouch (.ref s.heap.objs.size) >>= fun _ =>
    again (.builtin "list.extend.loop" ⟨[.ref s.heap.objs.size, .ref z, .ref s.heap.objs.size], []⟩)) _ _ _
  refine wpAny_bind (wpAny_rule (wpAny_bind ?_))
  show wpAny _ A.in1 (updateSeq s.heap.objs.size (·.push .none) >>= fun _ => updateSeq s.heap.objs.size (·.pop)) _ _ _
  refine wpAny_bind (wpAny_updateSeq hL rfl ?_)
  have hL2 := Heap.get?_update_self (Obj.mapSeq (·.push Value.none)) hL rfl
  refine wpAny_updateSeq hL2 rfl ?_
  have hL3 := Heap.get?_update_self (Obj.mapSeq (·.pop)) hL2 rfl
  have oth : ∀ b u, b ≠ s.heap.objs.size → (s.heap.push { cls := .type "list", data := .seq ([] : List Value).toArray }).get? b = some u →
      (((s.heap.push { cls := .type "list", data := .seq ([] : List Value).toArray }).update s.heap.objs.size (Obj.mapSeq (·.push Value.none))).update s.heap.objs.size (Obj.mapSeq (·.pop))).get? b = some u :=
    fun b u hb e => (Heap.get?_update_other _ _ (Ne.symm hb)).trans ((Heap.get?_update_other _ _ (Ne.symm hb)).trans e)
  have old : ∀ b u, s.heap.get? b = some u → (((s.heap.push { cls := .type "list", data := .seq ([] : List Value).toArray }).update s.heap.objs.size (Obj.mapSeq (·.push Value.none))).update s.heap.objs.size (Obj.mapSeq (·.pop))).get? b = some u :=
    fun b u e => oth b u (Nat.ne_of_lt (Heap.lt_size e)) (up b u e)
  have esz : (((s.heap.push { cls := .type "list", data := .seq ([] : List Value).toArray }).update s.heap.objs.size (Obj.mapSeq (·.push Value.none))).update s.heap.objs.size (Obj.mapSeq (·.pop))).objs.size = s.heap.objs.size + 1 := by
    rw [(Heap.SameBut.update _ _ _).1, (Heap.SameBut.update _ _ _).1, Heap.size_push]
  refine wpAny_pure ⟨plainId_quiet F.plain_extend_loop _, z_loop (X := X) (pins := pins) (σ := σ) (s := s) (xs := xs) (ys := ys) (H0 := H0) S rx ry D1 D2 (nm l1) (nm l2) (Nat.ne_of_lt Tl) (Nat.ne_of_lt zl) (Nat.ne_of_lt Ol) hn hfit _
    (fun h tk Hc acc c as G => ?_) n 0 _ s.toks H0 #[] _ [] (Nat.sub_zero _) (Nat.zero_le _) ⟨I.kept (t' := s.toks) old, hL3, rfl, rfl, fun b hb => ?_, fun _ _ e => e, fun j a x y ha => by cases ha⟩ ⟨old _ _ hTI, D1.frame _ _ _ st1 fun b _ u e => old b u e, D2.frame _ _ _ st2 fun b _ u e => old b u e, .inl ⟨old _ _ hz, ?_⟩⟩ fun b hb => ?_⟩
  · show wpAny _ A (load s.heap.objs.size >>= _) _ _ _
    refine wpAny_bind (wpAny_load G.lst (wpAny_pure ?_))
    show Q acc.toList _
    rw [G.acc]
    exact hq h tk Hc as G.inv G.len G.same G.good
  · by_cases e : b = s.heap.objs.size
    · rw [e]
      exact I.fpOk (Nat.le_refl _) (I.hok.fresh (Nat.le_refl _))
    · exact fp0 b (by
        have q : b = z ∨ b = TO ∨ b = i1 ∨ b = i2 ∨ b = s.heap.objs.size := by simpa using hb
        rcases q with q | q | q | q | q
        · simp [q]
        · simp [q]
        · simp [q]
        · simp [q]
        · exact absurd q e)
  · obtain ⟨a, b, q⟩ := hTO
    exact ⟨a, b, old _ _ q⟩
  · rw [esz]
    have q : b = z ∨ b = TO ∨ b = i1 ∨ b = i2 ∨ b = s.heap.objs.size := by simpa using hb
    rcases q with q | q | q | q | q
    · rw [q]; exact Nat.lt_succ_of_lt zl
    · rw [q]; exact Nat.lt_succ_of_lt Ol
    · rw [q]; exact Nat.lt_succ_of_lt (l1 _ S.mem1)
    · rw [q]; exact Nat.lt_succ_of_lt (l2 _ S.mem2)
    · rw [q]; exact Nat.lt_succ_self _
end
end CS
namespace CS
open PySem PySem.Spec PyProof.Rows L2
section
variable {prog : Program} {w : World} {A : Around} {E : Value → Shared → Prop} {s : Shared}
/-- what collecting an object gives, as lists of values -/
def Coll (prog : Program) (w : World) (A : Around) (s : Shared) (z : Addr) (G : Heap → Nat → List Value → Prop) : Prop :=
  ∀ (E : Value → Shared → Prop) (Q : List Value → Shared → Prop), (∀ h tk vs, G h tk vs → Q vs { s with heap := h, toks := tk }) → wpAny (model prog w) A (collect (.ref z)) Q E s
theorem tupcoll_code {Q₁ : Value → Shared → Prop} {z : Addr} {G : Heap → Nat → List Value → Prop} (hT : s.TypeIs (.ref z) "zip") (C : Coll prog w A.in1 s z G) (hfit : ∀ h tk vs, G h tk vs → vs.length ≤ sizeLine)
    (hq : ∀ h tk vs, G h tk vs → Q₁ (.ref h.objs.size) { s with heap := h.push { cls := .type "tuple", data := .seq vs.toArray }, toks := tk }) :
    codeAny (model prog w) A (.call (.builtin "tuple.__new__") ⟨[.type "tuple", .ref z], []⟩) (wants Q₁ E) s := by
  refine codeAny_of_tree ?_
  show wpAny _ A.in1 (do checkBuiltinCall "tuple.__new__" ⟨[.type "tuple", .ref z], []⟩; again (.builtin "tuple.__new__" ⟨[.type "tuple", .ref z], []⟩)) _ _ s
  refine wpAny_bind (wpAny_of_eq (F.newCall_tuple_1 _) (wpAny_pure ⟨plainId_quiet F.plain_tuple_new _, codeAny_builtin F.entry_tuple_new ?_⟩))
  rw [Around.under_plainId F.plain_tuple_new _]
  have q1 := sub_tuple_self
  have q2 := init_tuple_lookup
  have q3 := madeHere_tuple
  have cc : ∀ {E : Value → Shared → Prop} {Q : List Value → Shared → Prop}, (∀ h tk vs, G h tk vs → Q vs { s with heap := h, toks := tk }) → wpAny (model prog w) A.in1 (collect (.ref z)) Q E s := fun h => C _ _ h
  wp_walk using wpAny_typeOf hT, cc
  intro h tk vs g
  show wpAny _ _ (Builtin.Tuple.tupleExact vs.toArray >>= fun v => ret v) _ _ _
  unfold Builtin.Tuple.tupleExact
  refine wpAny_bind (wpAny_newObj_type (wpAny_pure ?_) (by show vs.toArray.size ≤ sizeLine; rw [List.size_toArray]; exact hfit h tk vs g))
  exact hq h tk vs g
theorem tupcoll_call {Q : Value → Shared → Prop} {z : Addr} {G : Heap → Nat → List Value → Prop} (hT : s.TypeIs (.ref z) "zip") (C : Coll prog w A.in1.in1 s z G) (hfit : ∀ h tk vs, G h tk vs → vs.length ≤ sizeLine)
    (hq : ∀ h tk vs, G h tk vs → Q (.ref h.objs.size) { s with heap := h.push { cls := .type "tuple", data := .seq vs.toArray }, toks := tk }) :
    wpAny (model prog w) A (call (.type "tuple") [.ref z]) Q E s := by
  refine callType_codes (Q₁ := fun obj s₁ => s₁.TypeIs obj "tuple" ∧ Q obj s₁) F.called_tuple (F.typeCall_tuple_1 _) F.entry_object_init (tupcoll_code (A := A.in1) hT C hfit fun h tk vs g => ⟨⟨_, Heap.get?_push_size _ rfl, rfl⟩, hq h tk vs g⟩) fun obj s₁ h₁ => ?_
  exact ⟨h₁.1, F.args_object_init_2 obj _, object_init_meets F.called_tuple.init.lookup F.called_tuple.made (by decide) prog w A.in1 _ s₁ ⟨h₁.1, rfl, h₁.2⟩⟩
end
section
variable {X : Cx}
/-- tuple(zip(x, y)), x and y both lists or both tuples: a new tuple of new pairs -/
def tTupZip (K : PySem.W.Frag) (ta : TA) : TE := fun σ H Q => ta σ H fun vs H1 => ∃ (a b : Addr) (xs ys : List V), vs = [.ref a, .ref b] ∧ ((SqT K H1 a xs ∧ SqT K H1 b ys) ∨ (SqL K H1 a xs ∧ SqL K H1 b ys)) ∧
  ∀ (Hc : Hp) (p : Addr) (as : List Addr), Same H1 Hc → as.length = min xs.length ys.length → PairsAt xs ys as Hc → Hc p = none → Q (.ref p) (upd Hc p (.tup (as.map V.ref)))
theorem lt_of_tuple {s : Shared} {a : Addr} {its : Array Value} (p : IsTup s.heap a its) : a < s.heap.objs.size := by
  obtain ⟨u, hu, _⟩ := p
  exact Heap.lt_size hu
theorem lt_of_plain {s : Shared} {a : Addr} {its : Array Value} (p : PlainL s.heap a its) : a < s.heap.objs.size := p.lt
theorem pe_tupZip {e e2 : Expr} {ta : TA} {p p2 pos q2 : Pos} (gT : Gl X "tuple") (mT : X.mg "tuple" = none) (gZ : Gl X "zip") (mZ : X.mg "zip" = none) (ha : PA X [e, e2] ta) (hc : X.calm = true := by rfl)
    (na : starEach [.Call (.Name "zip" p2) [e, e2] [] q2] X.env = (false, eval (.Call (.Name "zip" p2) [e, e2] [] q2) X.env) :: starEach [] X.env := by rfl)
    (hs : starEach [e, e2] X.env = (false, eval e X.env) :: starEach [e2] X.env := by rfl) (hpl : (backTo q2 (starEach [e2] X.env)).any (·.1) = false := by rfl) :
    PE X (.Call (.Name "tuple" p) [.Call (.Name "zip" p2) [e, e2] [] q2] [] pos) (tTupZip X.K ta) := by
  refine ⟨fun pins s0 σ H0 Q I0 hw => ?_⟩
  refine Call_ (ld_blt I0 gT mT boot_tuple (PyProof.Rows.callWith_type1 (PyProof.Rows.args_cons ?_ na) na))
  refine Call_ (ld_blt I0 gZ mZ PyProof.Rows.boot_zip (PyProof.Rows.callWith_type1 (thn (ha.run q2 pins s0 σ H0 _ I0 hw) fun us s1 ⟨vs, H1, I1, r1, q1⟩ => ?_) hs hpl))
  obtain ⟨a, b, xs, ys, rfl, hsq, q⟩ := q1
  obtain ⟨u1, u2, rfl, ra, rb⟩ := vals2 r1
  cases ra
  cases rb
  have hh : X.A.handled = none := I1.ok.hd hc
  have key : ∀ (o1 o2 : Obj) (F1 F2 : Heap → Prop) (its1 its2 : List Value) (St1 St2 : Nat → Heap → Prop), Begins (.ref a) o1 F1 → Begins (.ref b) o2 F2 → F1 s1.heap → F2 s1.heap → Vals xs its1 → Vals ys its2 → xs.length ≤ sizeLine → a < s1.heap.objs.size → b < s1.heap.objs.size →
      Draws X.prog X.w X.A.in1.in1.in1.in1 s1.heap.objs.size [s1.heap.objs.size, a] xs.length (fun j v => its1[j]? = some v) St1 → Draws X.prog X.w X.A.in1.in1.in1.in1 (s1.heap.objs.size + 1) [s1.heap.objs.size + 1, b] ys.length (fun j v => its2[j]? = some v) St2 →
      (∀ h', h'.get? s1.heap.objs.size = some o1 → (∀ c u, s1.heap.get? c = some u → h'.get? c = some u) → St1 0 h') → (∀ h', h'.get? (s1.heap.objs.size + 1) = some o2 → (∀ c u, s1.heap.get? c = some u → h'.get? c = some u) → St2 0 h') →
      wpAny (model X.prog X.w) X.A (call (.type "zip") [.ref a, .ref b]) (fun v s' => wpAny (model X.prog X.w) X.A (spliced (backTo pos (starEach [] X.env))) (fun vs s'' => wpAny (model X.prog X.w) X.A (call (.type "tuple") (v :: vs)) (EP X pins σ Q) X.xe s'') X.xe s') X.xe s1 := by
    intro o1 o2 F1 F2 its1 its2 St1 St2 B1 B2 f1 f2 rx ry hz al bl D1 D2 k1 k2
    refine zip_begins2 B1 B2 f1 f2 fun h' hzp hTI hTO g1 g2 hsz hk => ?_
    refine PyProof.Rows.args_nil ?_
    have I2 : Inv X pins σ H1 { s1 with heap := h' } := I1.kept (t' := s1.toks) hk
    have S := zip_sep2 (N := s1.heap.objs.size) (fp1 := [a]) (fp2 := [b]) (fun c hc => by rw [List.mem_singleton.mp hc]; exact al) (fun c hc => by rw [List.mem_singleton.mp hc]; exact bl)
    refine tupcoll_call (s := { s1 with heap := h' }) (G := fun h tk vs => ∃ Hc as, vs = as.map Value.ref ∧ Inv X pins σ Hc { s1 with heap := h, toks := tk } ∧ as.length = min xs.length ys.length ∧ Same H1 Hc ∧ PairsAt xs ys as Hc) ⟨_, hzp, rfl⟩
      (fun E' Q' hQ' => z_collect (A := X.A.in1.in1) (s := { s1 with heap := h' }) (pins := pins) (σ := σ) (n := min xs.length ys.length) S rx ry D1 D2 rfl (by omega) I2 hzp hTI ⟨_, _, hTO⟩ (k1 h' g1 hk) (k2 h' g2 hk) ?_ ?_ ?_ fun h tk Hc as J l sm pr => hQ' h tk _ ⟨Hc, as, rfl, J, l, sm, pr⟩)
      ?_ ?_
    · intro c hc
      have hc' : c = s1.heap.objs.size ∨ c = a := by simpa using hc
      show c < h'.objs.size
      rw [hsz]
      rcases hc' with e | e
      · rw [e]; exact Nat.lt_add_of_pos_right (by decide)
      · rw [e]; exact Nat.lt_of_lt_of_le al (Nat.le_add_right _ _)
    · intro c hc
      have hc' : c = s1.heap.objs.size + 1 ∨ c = b := by simpa using hc
      show c < h'.objs.size
      rw [hsz]
      rcases hc' with e | e
      · rw [e]; exact Nat.add_lt_add_left (by decide) _
      · rw [e]; exact Nat.lt_of_lt_of_le bl (Nat.le_add_right _ _)
    · intro c hc
      have hle : s1.heap.objs.size ≤ c := by
        have hc' : c = s1.heap.objs.size + 4 ∨ c = s1.heap.objs.size + 3 ∨ c = s1.heap.objs.size ∨ c = s1.heap.objs.size + 1 := by simpa using hc
        rcases hc' with e | e | e | e
        · rw [e]; exact Nat.le_add_right _ _
        · rw [e]; exact Nat.le_add_right _ _
        · rw [e]; exact Nat.le_refl _
        · rw [e]; exact Nat.le_add_right _ _
      exact I1.fpOk hle (I1.hok.fresh hle)
    · rintro h tk vs ⟨Hc, as, rfl, _, l, _, _⟩
      rw [List.length_map, l]
      omega
    · rintro h tk vs ⟨Hc, as, rfl, J, l, sm, pr⟩
      have rvs : Vals (as.map V.ref) (as.map Value.ref) := by
        clear l pr
        induction as with
        | nil => exact .nil
        | cons x t ih => exact .cons rfl ih
      refine ⟨.ref h.objs.size, upd Hc h.objs.size (.tup (as.map V.ref)), J.laid (s := { s1 with heap := h, toks := tk }) (t' := tk) (fun c u e => Heap.get?_push_of_some _ e) (Nat.le_refl _) ?_, rfl, q Hc _ as sm l pr (J.hok.fresh (Nat.le_refl _))⟩
      exact ⟨by rw [List.length_map, l]; omega, _, rvs, IsTup.new _ _⟩
  rcases hsq with ⟨hx, hy⟩ | ⟨hx, hy⟩
  · obtain ⟨its1, rx, px, hzx⟩ := I1.tuple hx
    obtain ⟨its2, ry, py, hzy⟩ := I1.tuple hy
    have ax := lt_of_tuple px
    have ay := lt_of_tuple py
    have D1 := Draws.tuple (prog := X.prog) (w := X.w) (A := X.A.in1.in1.in1.in1) hh s1.heap.objs.size a (Nat.ne_of_lt ax) its1.toArray
    have D2 := Draws.tuple (prog := X.prog) (w := X.w) (A := X.A.in1.in1.in1.in1) hh (s1.heap.objs.size + 1) b (Nat.ne_of_lt (Nat.lt_succ_of_lt ay)) its2.toArray
    have e1 : its1.toArray.size = xs.length := by rw [List.size_toArray]; exact rx.length.symm
    have e2 : its2.toArray.size = ys.length := by rw [List.size_toArray]; exact ry.length.symm
    rw [e1] at D1
    rw [e2] at D2
    simp only [List.getElem?_toArray] at D1 D2
    exact key _ _ _ _ its1 its2 _ _ (begins_tuple a its1.toArray) (begins_tuple b its2.toArray) px py rx ry hzx ax ay D1 D2 (fun h' g k => ⟨⟨_, g, rfl, rfl⟩, (show s1.heap.IsTuple a its1.toArray from px).at fun u e => k _ u e⟩) (fun h' g k => ⟨⟨_, g, rfl, rfl⟩, (show s1.heap.IsTuple b its2.toArray from py).at fun u e => k _ u e⟩)
  · obtain ⟨its1, rx, px, hzx⟩ := I1.list hx
    obtain ⟨its2, ry, py, hzy⟩ := I1.list hy
    have ax := lt_of_plain px
    have ay := lt_of_plain py
    have D1 := Draws.list (prog := X.prog) (w := X.w) (A := X.A.in1.in1.in1.in1) hh s1.heap.objs.size a (Nat.ne_of_lt ax) its1.toArray
    have D2 := Draws.list (prog := X.prog) (w := X.w) (A := X.A.in1.in1.in1.in1) hh (s1.heap.objs.size + 1) b (Nat.ne_of_lt (Nat.lt_succ_of_lt ay)) its2.toArray
    have e1 : its1.toArray.size = xs.length := by rw [List.size_toArray]; exact rx.length.symm
    have e2 : its2.toArray.size = ys.length := by rw [List.size_toArray]; exact ry.length.symm
    rw [e1] at D1
    rw [e2] at D2
    simp only [List.getElem?_toArray] at D1 D2
    exact key _ _ _ _ its1 its2 _ _ (begins_list a its1.toArray) (begins_list b its2.toArray) px.isList py.isList rx ry hzx ax ay D1 D2 (fun h' g k => ⟨⟨_, g, rfl, rfl⟩, px.isList.at fun u e => k _ u e⟩) (fun h' g k => ⟨⟨_, g, rfl, rfl⟩, py.isList.at fun u e => k _ u e⟩)
end
end CS
namespace K20
open PySem PySem.Spec PyProof.Rows L2 CS
def top (i : Nat) : Stmt := PySem.Challenge.pw_countedsteps_k20_exit_lists.main.body.getD i (.Pass ⟨0, 0, 0, 0⟩)
abbrev sBox : Stmt := top 8
abbrev sTake : Stmt := top 9
abbrev sCells : Stmt := top 10
abbrev sOf : Stmt := top 11
abbrev sSame : Stmt := top 14
abbrev sLaw : Stmt := top 22
abbrev clsBody (st : Stmt) : List Stmt := match st with | .ClassDef _ _ _ b _ _ _ _ _ _ _ => b | _ => []
/-! ### heaps and lists -/
theorem same_upd {H : Hp} {p : Addr} {o : HO} (h : H p = none) : Same H (upd H p o) := fun b x e => by
  rw [upd_ne (ne_of_none e h)]
  exact e
theorem sqT_same {K : PySem.W.Frag} {H H' : Hp} {a : Addr} {xs : List V} (e : Same H H') (h : SqT K H a xs) : SqT K H' a xs := by
  rcases h with (h | ⟨o, h⟩) | h
  · exact .inl (.inl (e _ _ h))
  · exact .inl (.inr ⟨o, e _ _ h⟩)
  · exact .inr h
/-- a tuple or a list of texts -/
def Jr (K : PySem.W.Frag) (H : Hp) (a : Addr) (ss : List Str) : Prop := SqT K H a (ss.map V.str) ∨ SqL K H a (ss.map V.str)
theorem Jr.keep {K : PySem.W.Frag} {H H' : Hp} {a : Addr} {ss : List Str} (h : Jr K H a ss) (s : Same H H') : Jr K H' a ss := by
  rcases h with h | h
  · exact .inl (sqT_same s h)
  · exact .inr (s.seq h)
end K20
namespace K20
open PySem PySem.Spec PyProof.Rows L2 CS
/-- all but b is as it was -/
def Keep (b : Addr) (H H' : Hp) : Prop := ∀ c o, c ≠ b → H c = some o → H' c = some o
theorem Keep.refl (b : Addr) (H : Hp) : Keep b H H := fun _ _ _ e => e
theorem Keep.trans {b : Addr} {H H1 H2 : Hp} (x : Keep b H H1) (y : Keep b H1 H2) : Keep b H H2 := fun c o n e => y c o n (x c o n e)
theorem Keep.of_same {b : Addr} {H H1 : Hp} (x : Same H H1) : Keep b H H1 := fun c o _ e => x c o e
theorem Keep.upd {b : Addr} (H : Hp) (o : HO) : Keep b H (L2.upd H b o) := fun c u n e => by rw [upd_ne n]; exact e
theorem Keep.sqL {K : PySem.W.Frag} {b a : Addr} {H H' : Hp} {xs : List V} (x : Keep b H H') (n : a ≠ b) (h : SqL K H a xs) : SqL K H' a xs := by
  rcases h with (h | ⟨o, h⟩) | h
  · exact .inl (.inl (x _ _ n h))
  · exact .inl (.inr ⟨o, x _ _ n h⟩)
  · exact .inr h
theorem b01 (c : Bool) : 0 ≤ (if c = true then (1 : Int) else 0) ∧ (if c = true then (1 : Int) else 0) ≤ 1 := by cases c <;> decide
theorem abs0 (i : Int) : 0 ≤ (if i < 0 then -i else i) := by split <;> omega
theorem mul01 (i : Int) (c : Bool) : CMul i (if c = true then (1 : Int) else 0) := by
  have q := b01 c
  exact .inr ⟨by omega, by omega⟩
theorem dv64 (i : Int) : CDivN i 64 := ⟨by decide, by decide⟩
theorem dvM (i : Int) : CDivN i 1000003 := ⟨by decide, by decide⟩
section
variable {P : Program} {w : World} {K : PySem.W.Frag} {mg : Str → Option Value} {base : Heap}
/-! ### the box of draws -/
/-- a box at b: what is left of the number, the seed, how often it was asked -/
def BoxAt (H : Hp) (b : Addr) (n : Nat) : Prop := ∃ A B C : Int, H b = some (.lst [.int A, .int B, .int C]) ∧ 0 ≤ A ∧ 0 ≤ B ∧ B < 2 ^ 62 ∧ 0 ≤ C ∧ C ≤ n
def spBox (K : PySem.W.Frag) : Sp := fun vs H Q _ => ∃ (a : Addr) (ns : List Int) (k : Nat), vs = [.ref a, .int (k : Nat)] ∧ SqL K H a (ns.map V.int) ∧ k < ns.length ∧ ns.length ≤ 1000 ∧ ∀ (H' : Hp) (p : Addr), Same H H' → H p = none → BoxAt H' p 0 → Q (.ref p) H'
theorem scBox : FnScope ["_law_script", "_law_k", "_law_cell"] ["_law_script", "_law_k"] (defScope sBox) := ⟨rfl, rfl, rfl, by decide +kernel, rfl, by decide +kernel, by decide +kernel⟩
theorem ok_box {f : Addr} {fd : FuncData} {k : Nat} (F : Fun K "_law_box" "_law_box" sBox f fd) (ml : mg "len" = none) (ma : mg "abs" = none) (mi : mg "int" = none) : FnOk P w K mg base CX0 (k + 1) f fd ["_law_script", "_law_k"] (spBox K) := by
  refine F.ok scBox (fun vs H Q E h => ?_) (fun cdv A outer s H vs Q E hr h => ?_)
  · obtain ⟨a, ns, k, rfl, _⟩ := h
    rfl
  · obtain ⟨a, ns, k, rfl, hS, hk, h1, q⟩ := h
    refine ⟨_, pss_cons (ps_set (i := 2) scBox.nd rfl (.inl rfl) (pe_ifExp (pt_cmpR op_lt (pv 1) (pe_callB call_len_seq (by rfl) ml PySem.boot_len (pa_cons (pv 0) pa_nil)) (nomark _)) (pe_ix ix_list (pv 0) (pv 1) (fun _ _ => rfl)) pe_int))
      (pss_one (ps_ret (pe_lst (pa_cons (pe_op op_mul (pe_callB call_abs (by rfl) ma (by decide +kernel) (pa_cons (pv 2) pa_nil)) (pe_callTy call_int1 (by rfl) mi (by decide +kernel) (pa_cons (pe_cmpR op_ge (pe_callB call_abs (by rfl) ma (by decide +kernel) (pa_cons (pv 2) pa_nil)) (pe_op op_pow pe_int pe_int) (nomark _)) pa_nil)))
        (pa_cons (pe_op op_add (pe_op op_add (pe_op op_modN (pe_callTy call_int1 (by rfl) mi (by decide +kernel) (pa_cons (pv 2) pa_nil)) pe_int) (pe_op op_mul pe_int (pv 1))) pe_int) (pa_cons pe_int pa_nil)))))), ?_⟩
    have hx : (ns.map V.int)[k]? = some (.int ns[k]) := by rw [List.getElem?_map, List.getElem?_eq_getElem hk]; rfl
    have hd : decide ((k : Int) < ((ns.map V.int).length : Nat)) = true := decide_eq_true (by rw [List.length_map]; omega)
    refine ⟨.int (k : Nat), rfl, .ref a, rfl, a, _, rfl, .inl hS, _, _, rfl, rfl, _, rfl, ?_⟩
    rw [hd]
    refine ⟨.ref a, rfl, .int (k : Nat), rfl, a, _, _, _, rfl, rfl, hS, atI_nat hx, ?_⟩
    have e1 := Int.fmod_nonneg_of_pos ns[k] (b := 2305843009213693951) (by decide)
    have e2 := Int.fmod_lt_of_pos ns[k] (b := 2305843009213693951) (by decide)
    refine ⟨.int ns[k], rfl, _, rfl, .int ns[k], rfl, _, rfl, 10, 18, rfl, rfl, ⟨by decide, by decide, by decide⟩, _, _, rfl, rfl, .inr ⟨_, rfl, _, _, rfl, rfl, mul01 _ _, ?_⟩⟩
    refine ⟨.int ns[k], rfl, .inl ⟨_, rfl, _, _, rfl, rfl, (by show (2305843009213693951 : Int) ≠ 0; decide), _, rfl, _, _, rfl, rfl, .inl (by decide), _, _, rfl, rfl, _, _, rfl, rfl, ?_⟩⟩
    refine ⟨by show 3 ≤ sizeLine; decide, fun p np => q _ p (same_upd np) np ?_⟩
    refine ⟨_, _, 0, upd_same, Int.mul_nonneg (abs0 _) (b01 _).1, ?_, ?_, Int.le_refl 0, Int.le_refl 0⟩
    · have : (0 : Int) ≤ k := Int.natCast_nonneg k
      omega
    · have : (k : Int) < 1000 := by omega
      omega
/-! ### a draw -/
def spTake : Sp := fun vs H Q _ => ∃ (b : Addr) (n : Nat) (m : Int), vs = [.ref b, .int m] ∧ BoxAt H b n ∧ n ≤ 1000000 ∧ 0 < m ∧ m < 2 ^ 200 ∧ ∀ (H' : Hp) (r : Int), Keep b H H' → BoxAt H' b (n + 1) → 0 ≤ r → r < m → Q (.int r) H'
theorem scTake : FnScope ["_law_box_here", "_law_below", "_law_digit_so", "_law_once", "_law_odd", "_law_twice"] ["_law_box_here", "_law_below"] (defScope sTake) := ⟨rfl, rfl, rfl, by decide +kernel, rfl, by decide +kernel, by decide +kernel⟩
theorem ok_take {f : Addr} {fd : FuncData} {k : Nat} (F : Fun K "_law_take" "_law_take" sTake f fd) (mi : mg "int" = none) : FnOk P w K mg base CX0 (k + 1) f fd ["_law_box_here", "_law_below"] spTake := by
  refine F.ok scTake (fun vs H Q E h => ?_) (fun cdv A outer s H vs Q E hr h => ?_)
  · obtain ⟨b, n, m, rfl, _⟩ := h
    rfl
  · obtain ⟨b, n, m, rfl, ⟨A, B, C, hb, hA, hB, hB2, hC, hC2⟩, hn, hm, hm2, q⟩ := h
    refine ⟨_, pss_cons (ps_if (pt_cmpR op_gt (pe_ix ix_list (pv 0) pe_int (fun _ _ => rfl)) pe_int (nomark _))
        (pss_cons (ps_set (i := 2) scTake.nd rfl (.inl rfl) (pe_op op_modN (pe_callTy call_int1 (by rfl) mi (by decide +kernel) (pa_cons (pe_ix ix_list (pv 0) pe_int (fun _ _ => rfl)) pa_nil)) (pv 1)))
          (pss_cons (ps_asg (pe_op op_fdivW (pe_ix ix_list (pv 0) pe_int (fun _ _ => rfl)) (pv 1)) (pg_sub (pv 0) pe_int set_list)) (pss_one (ps_ret (pv 2))))) pss_nil)
      (pss_cons (ps_asg (pe_op op_add (pe_ix ix_list (pv 0) pe_int (fun _ _ => rfl)) pe_int) (pg_sub (pv 0) pe_int set_list))
      (pss_cons (ps_set (i := 3) scTake.nd rfl (.inl rfl) (pe_op op_modN (pe_callTy call_int1 (by rfl) mi (by decide +kernel) (pa_cons (pe_op op_mul (pe_op op_add (pe_ix ix_list (pv 0) pe_int (fun _ _ => rfl)) (pe_op op_mul pe_int (pe_ix ix_list (pv 0) pe_int (fun _ _ => rfl)))) (pe_op op_add pe_int (pe_ix ix_list (pv 0) pe_int (fun _ _ => rfl)))) pa_nil)) pe_int))
      (pss_cons (ps_set (i := 4) scTake.nd rfl (.inl rfl) (pe_op op_add (pe_op op_modN (pe_callTy call_int1 (by rfl) mi (by decide +kernel) (pa_cons (pv 3) pa_nil)) pe_int) pe_int))
      (pss_cons (ps_set (i := 5) scTake.nd rfl (.inl rfl) (pe_op op_modN (pe_callTy call_int1 (by rfl) mi (by decide +kernel) (pa_cons (pe_op op_mul (pe_op op_add (pe_op op_add (pv 3) (pe_ix ix_list (pv 0) pe_int (fun _ _ => rfl))) (pe_op op_fdivN (pe_ix ix_list (pv 0) pe_int (fun _ _ => rfl)) pe_int)) (pv 4)) pa_nil)) pe_int))
      (pss_one (ps_ret (pe_op op_modN (pe_callTy call_int1 (by rfl) mi (by decide +kernel) (pa_cons (pe_op op_fdivN (pe_op op_modN (pe_callTy call_int1 (by rfl) mi (by decide +kernel) (pa_cons (pe_op op_add (pe_op op_mul (pv 5) pe_int) (pv 3)) pa_nil)) pe_int) pe_int) pa_nil)) (pv 1)))))))), ?_⟩
    refine ⟨.ref b, rfl, b, _, 0, .int A, rfl, rfl, SqL.of hb, atI_nat (j := 0) rfl, _, _, rfl, rfl, _, rfl, ?_⟩
    refine ite2 (fun c => ?_) (fun c => ?_)
    · have hg : 0 < A := of_decide_eq_true c
      have r0 := Int.fmod_nonneg_of_pos A hm
      have r1 := Int.fmod_lt_of_pos A hm
      have d0 : 0 ≤ A / m := Int.ediv_nonneg hA (Int.le_of_lt hm)
      refine ⟨.ref b, rfl, b, _, 0, .int A, rfl, rfl, SqL.of hb, atI_nat (j := 0) rfl, .inl ⟨A, rfl, .int m, rfl, A, m, rfl, rfl, by omega, ?_⟩⟩
      refine ⟨.ref b, rfl, b, _, 0, .int A, rfl, rfl, SqL.of hb, atI_nat (j := 0) rfl, .int m, rfl, A, m, rfl, rfl, wide_div hm (b := 200) (by omega) (by decide) (by decide), ?_⟩
      refine ⟨.ref b, rfl, b, _, 0, 0, rfl, rfl, hb, rfl, ?_⟩
      refine ⟨_, rfl, ?_⟩
      exact q _ _ (Keep.upd H _) ⟨_, B, C, upd_same, d0, hB, hB2, hC, by omega⟩ r0 r1
    · refine ⟨.ref b, rfl, b, _, 2, .int C, rfl, rfl, SqL.of hb, atI_nat (j := 2) rfl, _, _, rfl, rfl, ?_⟩
      refine ⟨.ref b, rfl, b, _, 2, 2, rfl, rfl, hb, rfl, ?_⟩
      have hb2 : SqL K (upd H b (.lst [.int A, .int B, .int (C + 1)])) b [.int A, .int B, .int (C + 1)] := SqL.of upd_same
      have i1 : atI [V.int A, V.int B, V.int (C + 1)] 1 = some (V.int B) := atI_nat (j := 1) rfl
      have i2 : atI [V.int A, V.int B, V.int (C + 1)] 2 = some (V.int (C + 1)) := atI_nat (j := 2) rfl
      refine ⟨.ref b, rfl, b, _, 1, .int B, rfl, rfl, hb2, i1, .ref b, rfl, b, _, 2, .int (C + 1), rfl, rfl, hb2, i2, _, _, rfl, rfl, .inl (by decide), _, _, rfl, rfl, .ref b, rfl, b, _, 2, .int (C + 1), rfl, rfl, hb2, i2, _, _, rfl, rfl,
        _, _, rfl, rfl, .inr (by omega), .inl ⟨_, rfl, _, _, rfl, rfl, (by show (2147483647 : Int) ≠ 0; decide), ?_⟩⟩
      have o0 := Int.fmod_nonneg_of_pos ((B + 48271 * (C + 1)) * (39373 + (C + 1))) (b := 2147483647) (by decide)
      have o1 := Int.fmod_lt_of_pos ((B + 48271 * (C + 1)) * (39373 + (C + 1))) (b := 2147483647) (by decide)
      dsimp only
      revert o0 o1
      generalize Int.fmod ((B + 48271 * (C + 1)) * (39373 + (C + 1))) 2147483647 = o
      intro o0 o1
      refine ⟨.int o, rfl, .inl ⟨_, rfl, _, _, rfl, rfl, (by show (40009 : Int) ≠ 0; decide), _, _, rfl, rfl, ?_⟩⟩
      have v0 := Int.fmod_nonneg_of_pos o (b := 40009) (by decide)
      have v1 := Int.fmod_lt_of_pos o (b := 40009) (by decide)
      dsimp only
      revert v0 v1
      generalize Int.fmod o 40009 = v
      intro v0 v1
      refine ⟨.int o, rfl, .ref b, rfl, b, _, 2, .int (C + 1), rfl, rfl, hb2, i2, _, _, rfl, rfl, .ref b, rfl, b, _, 1, .int B, rfl, rfl, hb2, i1, _, _, rfl, rfl, dvM _, _, _, rfl, rfl, .int (v + 7), rfl, _, _, rfl, rfl, .inr (by omega),
        .inl ⟨_, rfl, _, _, rfl, rfl, (by show (2147483629 : Int) ≠ 0; decide), ?_⟩⟩
      refine ⟨.int _, rfl, _, _, rfl, rfl, .inr (by decide), .int o, rfl, _, _, rfl, rfl, .inl ⟨_, rfl, _, _, rfl, rfl, (by show (2147483587 : Int) ≠ 0; decide), _, _, rfl, rfl, dv64 _, .inl ⟨_, rfl, .int m, rfl, _, _, rfl, rfl, (by omega), ?_⟩⟩⟩
      exact q _ _ (Keep.upd H _) ⟨A, B, C + 1, upd_same, hA, hB, hB2, by omega, by omega⟩ (Int.fmod_nonneg_of_pos _ hm) (Int.fmod_lt_of_pos _ hm)
end
end K20
namespace K20
open PySem PySem.Spec PyProof.Rows L2 CS
theorem BoxAt.same {H H' : Hp} {b : Addr} {n : Nat} (h : BoxAt H b n) (s : Same H H') : BoxAt H' b n := by
  obtain ⟨A, B, C, e, r⟩ := h
  exact ⟨A, B, C, s _ _ e, r⟩
section
variable {P : Program} {w : World} {K : PySem.W.Frag} {mg : Str → Option Value} {base : Heap}
/-! ### of -/
def spOf (K : PySem.W.Frag) : Sp := fun vs H Q _ => ∃ (b t : Addr) (n : Nat) (xs : List V), vs = [.ref b, .ref t] ∧ BoxAt H b n ∧ n ≤ 1000000 ∧ t ≠ b ∧ SqL K H t xs ∧ 0 < xs.length ∧ xs.length < 1000000 ∧
  ∀ (H' : Hp) (i : Nat) (x : V), Keep b H H' → BoxAt H' b (n + 1) → xs[i]? = some x → Q x H'
theorem scOf : FnScope ["_law_box_here", "_law_some"] ["_law_box_here", "_law_some"] (defScope sOf) := ⟨rfl, rfl, rfl, by decide +kernel, rfl, by decide +kernel, by decide +kernel⟩
theorem ok_of {f g : Addr} {fd gd : FuncData} {k : Nat} (F : Fun K "_law_of" "_law_of" sOf f fd) (G : FnOk P w K mg base CX0 k g gd ["_law_box_here", "_law_below"] spTake) (bG : Binds K gd ["_law_box_here", "_law_below"] []) (kG : PySem.W.keepIn K (.ref g) = true) (mG : mg "_law_take" = some (.ref g)) (ml : mg "len" = none) :
    FnOk P w K mg base CX0 (k + 1) f fd ["_law_box_here", "_law_some"] (spOf K) := by
  refine F.ok scOf (fun vs H Q E h => ?_) (fun cdv A outer s H vs Q E hr h => ?_)
  · obtain ⟨b, t, n, xs, rfl, _⟩ := h
    rfl
  · obtain ⟨b, t, n, xs, rfl, hb, hn, ntb, hS, h0, h1, q⟩ := h
    refine ⟨_, pss_one (ps_ret (pe_ix ix_list (pv 1) (pe_call G hr (by rfl) mG kG bG .nil pass0 (pa_cons (pv 0) (pa_cons (pe_callB call_len_seq (by rfl) ml PySem.boot_len (pa_cons (pv 1) pa_nil)) pa_nil))) (fun _ _ => rfl))), ?_⟩
    refine ⟨.ref t, rfl, .ref b, rfl, .ref t, rfl, t, _, rfl, .inl hS, ?_⟩
    refine ⟨b, n, _, rfl, hb, hn, (by omega), (by omega), fun H' r k1 b1 r0 r1 => ?_⟩
    have hlt : r.toNat < xs.length := by omega
    have hx : xs[r.toNat]? = some xs[r.toNat] := List.getElem?_eq_getElem hlt
    refine ⟨t, xs, r, xs[r.toNat], rfl, rfl, k1.sqL ntb hS, ?_, q H' r.toNat _ k1 b1 hx⟩
    have za := atI_nat hx
    rw [show ((r.toNat : Nat) : Int) = r by omega] at za
    exact za
/-! ### pick -/
end
end K20
namespace K20
open PySem PySem.Spec PyProof.Rows L2 CS RZ
/-! ### same -/
def okD : Nat → PyData → Prop
  | 0, _ => False
  | _ + 1, .int _ => True
  | _ + 1, .str _ => True
  | _ + 1, .bool _ => True
  | _ + 1, .none => True
  | n + 1, .list ds => ds.length ≤ 1000 ∧ ∀ d ∈ ds, okD n d
  | n + 1, .tuple ds => ds.length ≤ 1000 ∧ ∀ d ∈ ds, okD n d
  | _ + 1, _ => False
mutual
theorem dp_same {K : PySem.W.Frag} {H H' : Hp} (s : Same H H') : ∀ {v : V} {d : PyData}, Dp K H v d → Dp K H' v d
  | _, _, .non => .non
  | _, _, .bl b => .bl b
  | _, _, .int i => .int i
  | _, _, .str x => .str x
  | _, _, .lst q r => .lst (s.seq q) (dp_sameAll s r)
  | _, _, .tup q r => .tup (sqT_same s q) (dp_sameAll s r)
theorem dp_sameAll {K : PySem.W.Frag} {H H' : Hp} (s : Same H H') : ∀ {vs : List V} {ds : List PyData}, DpAll K H vs ds → DpAll K H' vs ds
  | _, _, .nil => .nil
  | _, _, .cons q r => .cons (dp_same s q) (dp_sameAll s r)
end
theorem dpAll_len {K : PySem.W.Frag} {H : Hp} : ∀ {ds : List PyData} {vs : List V}, DpAll K H vs ds → vs.length = ds.length
  | _, _, .nil => rfl
  | _, _, .cons _ r => congrArg (· + 1) (dpAll_len r)
theorem dpAll_at {K : PySem.W.Frag} {H : Hp} : ∀ {ds : List PyData} {vs : List V}, DpAll K H vs ds → ∀ {i : Nat} {v : V}, vs[i]? = some v → ∃ d, ds[i]? = some d ∧ Dp K H v d
  | _, _, .nil, i, _, h => by cases h
  | _, _, .cons q r, 0, _, h => by cases h; exact ⟨_, rfl, q⟩
  | _, _, .cons q r, i + 1, v, h => dpAll_at r (i := i) h
theorem tyL {K : PySem.W.Frag} {H : Hp} {a : Addr} {xs : List V} (h : SqL K H a xs) : TyX K H (.ref a) (.type "list") := by
  rcases h with (h | ⟨o, h⟩) | ⟨o, its, n, h, c, _⟩
  · exact .base (.lst h)
  · exact .base (.frz h)
  · exact .kList h c
theorem tyT {K : PySem.W.Frag} {H : Hp} {a : Addr} {xs : List V} (h : SqT K H a xs) : TyX K H (.ref a) (.type "tuple") := by
  rcases h with (h | ⟨o, h⟩) | ⟨o, its, n, h, c, _⟩
  · exact .base (.tup h)
  · exact .fTuple h
  · exact .kTuple h c
theorem walk_zipT {K : PySem.W.Frag} {a b : Addr} {xs ys : List V} {n : Nat} (hn : n = min xs.length ys.length) : Walk (ItzT K a b) n (fun H => SqT K H a xs ∧ SqT K H b ys) (YPair (fun i => xs[i]?) (fun i => ys[i]?)) := by
  subst hn
  refine ⟨fun i H hi q => ?_, fun H q => ⟨xs, ys, q.1, q.2, by omega⟩, fun i H v H' hi q y => ?_⟩
  · have l1 : i < xs.length := by omega
    have l2 : i < ys.length := by omega
    exact ⟨xs, ys, xs[i], ys[i], q.1, q.2, by simp [l1], by simp [l2]⟩
  · obtain ⟨T, x, z, e1, e2, e3, e4, e5⟩ := y
    exact ⟨T, x, z, e1, e2, e3, e4 xs q.1, e5 ys q.2⟩
section
variable {P : Program} {w : World} {K : PySem.W.Frag} {mg : Str → Option Value} {base : Heap}
def spSame (K : PySem.W.Frag) (n : Nat) : Sp := fun vs H Q _ => ∃ (x y : V) (d : PyData), vs = [x, y] ∧ Dp K H x d ∧ Dp K H y d ∧ okD n d ∧ ∀ H' : Hp, Same H H' → Q (.bl true) H'
/-- what the top says of the built-ins that same asks -/
structure SmT (mg : Str → Option Value) : Prop where
  is : mg "isinstance" = none
  li : mg "list" = none
  tu : mg "tuple" = none
  le : mg "len" = none
  al : mg "all" = none
  zi : mg "zip" = none
  bo : mg "bool" = none
  st : mg "str" = none
  int : mg "int" = none
abbrev nSame : List Str := ["_law_got", "_law_due", "_law_mine", "_law_its"]
theorem scSame : FnScope nSame ["_law_got", "_law_due"] (defScope sSame) := ⟨rfl, rfl, rfl, by decide +kernel, rfl, by decide +kernel, by decide +kernel⟩
theorem same_none {f : Addr} {fd : FuncData} : FnOk P w K mg base CX0 0 f fd ["_law_got", "_law_due"] (spSame K 0) := by
  have no : ∀ vs H Q E, ¬ spSame K 0 vs H Q E := fun vs H Q E h => by
    obtain ⟨_, _, d, _, _, _, h, _⟩ := h
    cases d <;> exact h
  exact ⟨fun vs H Q E h => absurd h (no vs H Q E), fun A outer s H args us vs Q E _ _ _ _ h => absurd h (no vs H Q E)⟩
theorem isi_one {t c : String} {b : Bool} (h : kitB t c = some b) : PySem.W.kitOne K (.type t) (.type c) = some b := kit_ty h
theorem any_ff {t a b : String} (h1 : kitB t a = some false) (h2 : kitB t b = some false) : PySem.W.kitAny K (.type t) [.type a, .type b] = some false :=
  kitAny_cons (kit_ty h1) (fun _ => kitAny_cons (kit_ty h2) (fun _ => kitAny_nil) fun z => nomatch z) fun z => nomatch z
theorem any_t {t a b : String} (h1 : kitB t a = some true) : PySem.W.kitAny K (.type t) [.type a, .type b] = some true := kitAny_cons (kit_ty h1) (fun z => nomatch z) fun _ => rfl
theorem any_ft {t a b : String} (h1 : kitB t a = some false) (h2 : kitB t b = some true) : PySem.W.kitAny K (.type t) [.type a, .type b] = some true :=
  kitAny_cons (kit_ty h1) (fun _ => kitAny_cons (kit_ty h2) (fun z => nomatch z) fun _ => rfl) fun _ => rfl
theorem all_yes : ∀ n : Nat, (List.replicate n true).all id = true
  | 0 => rfl
  | n + 1 => by
    rw [List.replicate_succ, List.all_cons, all_yes n]
    rfl
theorem ok_same {n : Nat} {f : Addr} {fd : FuncData} (F : Fun K "_law_same" "_law_same" sSame f fd) (G : FnOk P w K mg base CX0 n f fd ["_law_got", "_law_due"] (spSame K n)) (bG : Binds K fd ["_law_got", "_law_due"] []) (mG : mg "_law_same" = some (.ref f)) (T : SmT mg) :
    FnOk P w K mg base CX0 (n + 1) f fd ["_law_got", "_law_due"] (spSame K (n + 1)) := by
  refine F.ok scSame (fun vs H Q E h => ?_) (fun cdv A outer s H vs Q E hr h => ?_)
  · obtain ⟨x, y, d, rfl, _⟩ := h
    rfl
  · obtain ⟨x, y, d, rfl, hx, hy, hd, q⟩ := h
    refine ⟨_, pss_cons (ps_if (pt_val (pe_callB call_isiT (by rfl) T.is (by decide +kernel) (pa_cons (pv 1) (pa_cons (pe_tup (pa_cons (pe_bltn (v := .ty "list") (by rfl) T.li (by decide +kernel) rfl) (pa_cons (pe_bltn (v := .ty "tuple") (by rfl) T.tu (by decide +kernel) rfl) pa_nil))) pa_nil))))
        (pss_cons (ps_if (PW.pt (pw_or (pt_cmpR op_ne (pe_callB call_isi (by rfl) T.is (by decide +kernel) (pa_cons (pv 0) (pa_cons (pe_bltn (v := .ty "list") (by rfl) T.li (by decide +kernel) rfl) pa_nil))) (pe_callB call_isi (by rfl) T.is (by decide +kernel) (pa_cons (pv 1) (pa_cons (pe_bltn (v := .ty "list") (by rfl) T.li (by decide +kernel) rfl) pa_nil))) (nomark _))
            (pw_or1 (pt_cmpR op_ne (pe_callB call_isi (by rfl) T.is (by decide +kernel) (pa_cons (pv 0) (pa_cons (pe_bltn (v := .ty "tuple") (by rfl) T.tu (by decide +kernel) rfl) pa_nil))) (pe_callB call_isi (by rfl) T.is (by decide +kernel) (pa_cons (pv 1) (pa_cons (pe_bltn (v := .ty "tuple") (by rfl) T.tu (by decide +kernel) rfl) pa_nil))) (nomark _)))))
          (pss_one (ps_ret (pe_bl))) pss_nil)
        (pss_one (ps_ret (pe_and (pe_cmpR op_eq (pe_callB call_len_seq (by rfl) T.le PySem.boot_len (pa_cons (pv 0) pa_nil)) (pe_callB call_len_seq (by rfl) T.le PySem.boot_len (pa_cons (pv 1) pa_nil)) (nomark _))
          (pe_one (pe_callB (cr_all rfl) (by rfl) T.al (by decide +kernel) (pa_cons (pe_lc (own := [("_law_mine", 2), ("_law_its", 3)]) (g := gTup K 2 (gCons (gName 2) (gCons (gName 3) gNil))) (by rfl) scSame.nd (pi_zipA (by rfl) T.zi (pa_cons (pv 0) (pa_cons (pv 1) pa_nil)))
            (blkOk_by (own := [("_law_mine", 2), ("_law_its", 3)]) (N := nSame) (sc := defScope sSame) (by decide +kernel))
            (fun _ _ _ _ _ => pg_tup rfl (pgs_cons (pg_name (i := 2) scSame.nd rfl (Or.inl rfl) (.inr rfl)) (pgs_cons (pg_name (i := 3) scSame.nd rfl (Or.inl rfl) (.inr rfl)) pgs_nil))) (fun _ _ _ _ _ => pts_nil)
            (fun _ _ _ _ _ => pe_call G hr (by rfl) mG F.kp bG .nil pass0 (pa_cons (pv 2) (pa_cons (pv 3) pa_nil)))) pa_nil))))))) pss_nil)
      (pss_cons (ps_if (PW.pt (pw_or (pt_cmpR op_isN (pv 1) pe_non (nomark _)) (pw_or1 (pt_val (pe_callB call_isiT (by rfl) T.is (by decide +kernel) (pa_cons (pv 1) (pa_cons (pe_tup (pa_cons (pe_bltn (v := .ty "bool") (by rfl) T.bo (by decide +kernel) rfl) (pa_cons (pe_bltn (v := .ty "str") (by rfl) T.st (by decide +kernel) rfl) pa_nil))) pa_nil)))))))
        (pss_one (ps_ret (pe_and (pe_cmpR op_eq (pv 0) (pv 1) (nomark _)) (pe_and (pe_cmpR op_eq (pe_callB call_isi (by rfl) T.is (by decide +kernel) (pa_cons (pv 0) (pa_cons (pe_bltn (v := .ty "bool") (by rfl) T.bo (by decide +kernel) rfl) pa_nil))) (pe_callB call_isi (by rfl) T.is (by decide +kernel) (pa_cons (pv 1) (pa_cons (pe_bltn (v := .ty "bool") (by rfl) T.bo (by decide +kernel) rfl) pa_nil))) (nomark _))
          (pe_one (pe_cmpR op_eq (pe_cmpR op_isN (pv 0) pe_non (nomark _)) (pe_cmpR op_isN (pv 1) pe_non (nomark _)) (nomark _))))))) pss_nil)
      (pss_one (ps_ret (pe_and (pe_callB call_isi (by rfl) T.is (by decide +kernel) (pa_cons (pv 0) (pa_cons (pe_bltn (v := .ty "int") (by rfl) T.int (by decide +kernel) rfl) pa_nil)))
        (pe_and (pe_not (pe_callB call_isi (by rfl) T.is (by decide +kernel) (pa_cons (pv 0) (pa_cons (pe_bltn (v := .ty "bool") (by rfl) T.bo (by decide +kernel) rfl) pa_nil)))) (pe_one (pe_cmpR op_eq (pv 0) (pv 1) (nomark _)))))))), ?_⟩
    have two : 2 ≤ sizeLine := by decide
    cases d with
    | int i =>
      cases hx
      cases hy
      refine ⟨.int i, rfl, two, fun p np => ⟨_, p, _, _, _, false, rfl, upd_same, .cons (.ty _) (.cons (.ty _) .nil), .base (.int i), any_ff (by decide +kernel) (by decide +kernel), _, rfl, ?_⟩⟩
      refine ite2 (fun z => absurd z Bool.false_ne_true) (fun _ => ?_)
      refine ⟨.int i, rfl, rfl, _, rfl, ?_⟩
      refine ite2 (fun z => absurd (of_decide_eq_true z) (fun e => by cases e)) (fun _ => ?_)
      refine ⟨.int i, rfl, two, fun p2 np2 => ⟨_, p2, _, _, _, false, rfl, upd_same, .cons (.ty _) (.cons (.ty _) .nil), .base (.int i), any_ff (by decide +kernel) (by decide +kernel), _, rfl, ?_⟩⟩
      refine ite2 (fun z => absurd z Bool.false_ne_true) (fun _ => ?_)
      refine ⟨.int i, rfl, _, _, _, _, true, rfl, .ty _, .base (.int i), isi_one (by decide +kernel), _, rfl, ?_⟩
      refine ite2 (fun _ => ?_) (fun z => absurd rfl z)
      refine ⟨.int i, rfl, _, _, _, _, false, rfl, .ty _, .base (.int i), isi_one (by decide +kernel), _, rfl, _, rfl, ?_⟩
      refine ite2 (fun _ => ?_) (fun z => absurd rfl z)
      refine ⟨.int i, rfl, .int i, rfl, rfl, ?_⟩
      have e : decide (V.int i = V.int i) = true := decide_eq_true rfl
      rw [e]
      exact q _ ((same_upd np).trans (same_upd np2))
    | str z =>
      cases hx
      cases hy
      refine ⟨.str z, rfl, two, fun p np => ⟨_, p, _, _, _, false, rfl, upd_same, .cons (.ty _) (.cons (.ty _) .nil), .base (.str z), any_ff (by decide +kernel) (by decide +kernel), _, rfl, ?_⟩⟩
      refine ite2 (fun z => absurd z Bool.false_ne_true) (fun _ => ?_)
      refine ⟨.str z, rfl, rfl, _, rfl, ?_⟩
      refine ite2 (fun z => absurd (of_decide_eq_true z) (fun e => by cases e)) (fun _ => ?_)
      refine ⟨.str z, rfl, two, fun p2 np2 => ⟨_, p2, _, _, _, true, rfl, upd_same, .cons (.ty _) (.cons (.ty _) .nil), .base (.str z), any_ft (by decide +kernel) (by decide +kernel), _, rfl, ?_⟩⟩
      refine ite2 (fun _ => ?_) (fun z => absurd rfl z)
      refine ⟨.str z, rfl, .str z, rfl, rfl, _, rfl, ?_⟩
      refine ite2 (fun _ => ?_) (fun e => absurd (decide_eq_true rfl) e)
      refine ⟨.str z, rfl, _, _, _, _, false, rfl, .ty _, .base (.str z), isi_one (by decide +kernel), .str z, rfl, _, _, _, _, false, rfl, .ty _, .base (.str z), isi_one (by decide +kernel), rfl, _, rfl, ?_⟩
      refine ite2 (fun _ => ?_) (fun e => absurd rfl e)
      refine ⟨.str z, rfl, rfl, .str z, rfl, rfl, rfl, ?_⟩
      have e : decide (V.bl (decide (V.str z = V.non)) = V.bl (decide (V.str z = V.non))) = true := decide_eq_true rfl
      rw [e]
      exact q _ ((same_upd np).trans (same_upd np2))
    | bool z =>
      cases hx
      cases hy
      refine ⟨.bl z, rfl, two, fun p np => ⟨_, p, _, _, _, false, rfl, upd_same, .cons (.ty _) (.cons (.ty _) .nil), .base (.bl z), any_ff (by decide +kernel) (by decide +kernel), _, rfl, ?_⟩⟩
      refine ite2 (fun z => absurd z Bool.false_ne_true) (fun _ => ?_)
      refine ⟨.bl z, rfl, rfl, _, rfl, ?_⟩
      refine ite2 (fun z => absurd (of_decide_eq_true z) (fun e => by cases e)) (fun _ => ?_)
      refine ⟨.bl z, rfl, two, fun p2 np2 => ⟨_, p2, _, _, _, true, rfl, upd_same, .cons (.ty _) (.cons (.ty _) .nil), .base (.bl z), any_t (by decide +kernel), _, rfl, ?_⟩⟩
      refine ite2 (fun _ => ?_) (fun z => absurd rfl z)
      refine ⟨.bl z, rfl, .bl z, rfl, rfl, _, rfl, ?_⟩
      refine ite2 (fun _ => ?_) (fun e => absurd (decide_eq_true rfl) e)
      refine ⟨.bl z, rfl, _, _, _, _, true, rfl, .ty _, .base (.bl z), isi_one (by decide +kernel), .bl z, rfl, _, _, _, _, true, rfl, .ty _, .base (.bl z), isi_one (by decide +kernel), rfl, _, rfl, ?_⟩
      refine ite2 (fun _ => ?_) (fun e => absurd rfl e)
      refine ⟨.bl z, rfl, rfl, .bl z, rfl, rfl, rfl, ?_⟩
      have e : decide (V.bl (decide (V.bl z = V.non)) = V.bl (decide (V.bl z = V.non))) = true := decide_eq_true rfl
      rw [e]
      exact q _ ((same_upd np).trans (same_upd np2))
    | none =>
      cases hx
      cases hy
      refine ⟨.non, rfl, two, fun p np => ⟨_, p, _, _, _, false, rfl, upd_same, .cons (.ty _) (.cons (.ty _) .nil), .base .non, any_ff (by decide +kernel) (by decide +kernel), _, rfl, ?_⟩⟩
      refine ite2 (fun z => absurd z Bool.false_ne_true) (fun _ => ?_)
      refine ⟨.non, rfl, rfl, _, rfl, ?_⟩
      refine ite2 (fun _ => ?_) (fun z => absurd (decide_eq_true rfl) z)
      refine ⟨.non, rfl, .non, rfl, rfl, _, rfl, ?_⟩
      refine ite2 (fun _ => ?_) (fun e => absurd (decide_eq_true rfl) e)
      refine ⟨.non, rfl, _, _, _, _, false, rfl, .ty _, .base .non, isi_one (by decide +kernel), .non, rfl, _, _, _, _, false, rfl, .ty _, .base .non, isi_one (by decide +kernel), rfl, _, rfl, ?_⟩
      refine ite2 (fun _ => ?_) (fun e => absurd rfl e)
      refine ⟨.non, rfl, rfl, .non, rfl, rfl, rfl, ?_⟩
      have e : decide (V.bl (decide (V.non = V.non)) = V.bl (decide (V.non = V.non))) = true := decide_eq_true rfl
      rw [e]
      exact q _ (same_upd np)
    | list ds =>
      obtain ⟨hlen, hds⟩ := hd
      cases hx with
      | lst hxs hxa =>
      cases hy with
      | lst hys hya =>
      rename_i a xs b ys
      have lx := dpAll_len hxa
      have ly := dpAll_len hya
      refine ⟨.ref b, rfl, two, fun p np => ⟨_, p, _, _, _, true, rfl, upd_same, .cons (.ty _) (.cons (.ty _) .nil), tyL ((same_upd np).seq hys), any_t (by decide +kernel), _, rfl, ?_⟩⟩
      refine ite2 (fun _ => ?_) (fun z => absurd rfl z)
      have s1 : Same H (upd H p (.tup [.ty "list", .ty "tuple"])) := same_upd np
      have hxs1 := (s1).seq hxs
      have hys1 := (s1).seq hys
      refine ⟨.ref a, rfl, _, _, _, _, true, rfl, .ty _, tyL hxs1, isi_one (by decide +kernel), .ref b, rfl, _, _, _, _, true, rfl, .ty _, tyL hys1, isi_one (by decide +kernel), rfl, _, rfl, ?_⟩
      refine ite2 (fun c => by rw [decide_eq_true rfl] at c; cases c) (fun _ => ?_)
      refine ⟨.ref a, rfl, _, _, _, _, false, rfl, .ty _, tyL hxs1, isi_one (by decide +kernel), .ref b, rfl, _, _, _, _, false, rfl, .ty _, tyL hys1, isi_one (by decide +kernel), rfl, _, rfl, ?_⟩
      refine ite2 (fun c => by rw [decide_eq_true rfl] at c; cases c) (fun _ => ?_)
      refine ⟨.ref a, rfl, a, _, rfl, .inl hxs1, .ref b, rfl, b, _, rfl, .inl hys1, rfl, _, rfl, ?_⟩
      refine ite2 (fun _ => ?_) (fun z => absurd (decide_eq_true (congrArg V.int (by rw [lx, ly]))) z)
      refine ⟨.ref a, rfl, .ref b, rfl, a, b, xs, ys, rfl, .inl ⟨hxs1, hys1, fun D nD => lc_it (walk_zip (K := K) (a := a) (b := b) (xs := xs) (ys := ys) rfl)
        (fun i H' => Same (upd H p (.tup [.ty "list", .ty "tuple"])) H' ∧ H' D = some (.lst ((List.replicate i true).map V.bl))) ⟨same_upd nD, upd_same⟩ (fun i H' _ z => ⟨(z.1).seq hxs1, (z.1).seq hys1⟩) ?_ ?_⟩⟩
      · rintro i v H2 H3 hi ⟨s2, eD⟩ ⟨T1, x1, y1, rfl, nT, rfl, hx1, hy1⟩
        obtain ⟨d1, e1, r1⟩ := dpAll_at hxa hx1
        obtain ⟨d2, e2, r2⟩ := dpAll_at hya hy1
        have ed : d1 = d2 := by
          rw [e1] at e2
          exact Option.some.inj e2
        subst ed
        have s3 : Same (upd H p (.tup [.ty "list", .ty "tuple"])) (upd H2 T1 (.tup [x1, y1])) := s2.trans (same_upd nT)
        have hi' : i < 1000 := by omega
        refine ⟨T1, [x1, y1], rfl, SqT.of upd_same, rfl, x1, [y1], rfl, y1, [], rfl, rfl, ?_⟩
        refine ⟨rfl, ?_⟩
        unfold tYes
        refine ite2 (fun _ => ?_) (fun z => absurd rfl z)
        refine ⟨x1, rfl, y1, rfl, x1, y1, d1, rfl, dp_same (s1.trans s3) r1, dp_same (s1.trans s3) r2, hds d1 (List.mem_of_getElem? e1), fun H4 s4 => ?_⟩
        have eD4 : H4 D = some (.lst ((List.replicate i true).map V.bl)) := s4 _ _ (by rw [upd_ne (ne_of_none eD nT)]; exact eD)
        refine ⟨_, eD4, ?_, fun c o e => ?_, ?_⟩
        · rw [List.length_map, List.length_replicate]
          exact small1000 (Nat.le_of_lt hi')
        · rw [upd_ne (ne_of_none e nD)]
          exact s4 _ _ (s3 _ _ e)
        · rw [upd_same, List.replicate_succ', List.map_append]
          rfl
      · rintro H2 ⟨s2, eD⟩
        refine ⟨D, _, rfl, SqL.of eD, ?_⟩
        rw [all_yes]
        exact q _ (s1.trans s2)
    | tuple ds =>
      obtain ⟨hlen, hds⟩ := hd
      cases hx with
      | tup hxs hxa =>
      cases hy with
      | tup hys hya =>
      rename_i a xs b ys
      have lx := dpAll_len hxa
      have ly := dpAll_len hya
      refine ⟨.ref b, rfl, two, fun p np => ⟨_, p, _, _, _, true, rfl, upd_same, .cons (.ty _) (.cons (.ty _) .nil), tyT (sqT_same (same_upd np) hys), any_ft (by decide +kernel) (by decide +kernel), _, rfl, ?_⟩⟩
      refine ite2 (fun _ => ?_) (fun z => absurd rfl z)
      have s1 : Same H (upd H p (.tup [.ty "list", .ty "tuple"])) := same_upd np
      have hxs1 := sqT_same (s1) hxs
      have hys1 := sqT_same (s1) hys
      refine ⟨.ref a, rfl, _, _, _, _, false, rfl, .ty _, tyT hxs1, isi_one (by decide +kernel), .ref b, rfl, _, _, _, _, false, rfl, .ty _, tyT hys1, isi_one (by decide +kernel), rfl, _, rfl, ?_⟩
      refine ite2 (fun c => by rw [decide_eq_true rfl] at c; cases c) (fun _ => ?_)
      refine ⟨.ref a, rfl, _, _, _, _, true, rfl, .ty _, tyT hxs1, isi_one (by decide +kernel), .ref b, rfl, _, _, _, _, true, rfl, .ty _, tyT hys1, isi_one (by decide +kernel), rfl, _, rfl, ?_⟩
      refine ite2 (fun c => by rw [decide_eq_true rfl] at c; cases c) (fun _ => ?_)
      refine ⟨.ref a, rfl, a, _, rfl, .inr hxs1, .ref b, rfl, b, _, rfl, .inr hys1, rfl, _, rfl, ?_⟩
      refine ite2 (fun _ => ?_) (fun z => absurd (decide_eq_true (congrArg V.int (by rw [lx, ly]))) z)
      refine ⟨.ref a, rfl, .ref b, rfl, a, b, xs, ys, rfl, .inr ⟨hxs1, hys1, fun D nD => lc_it (walk_zipT (K := K) (a := a) (b := b) (xs := xs) (ys := ys) rfl)
        (fun i H' => Same (upd H p (.tup [.ty "list", .ty "tuple"])) H' ∧ H' D = some (.lst ((List.replicate i true).map V.bl))) ⟨same_upd nD, upd_same⟩ (fun i H' _ z => ⟨sqT_same (z.1) hxs1, sqT_same (z.1) hys1⟩) ?_ ?_⟩⟩
      · rintro i v H2 H3 hi ⟨s2, eD⟩ ⟨T1, x1, y1, rfl, nT, rfl, hx1, hy1⟩
        obtain ⟨d1, e1, r1⟩ := dpAll_at hxa hx1
        obtain ⟨d2, e2, r2⟩ := dpAll_at hya hy1
        have ed : d1 = d2 := by
          rw [e1] at e2
          exact Option.some.inj e2
        subst ed
        have s3 : Same (upd H p (.tup [.ty "list", .ty "tuple"])) (upd H2 T1 (.tup [x1, y1])) := s2.trans (same_upd nT)
        have hi' : i < 1000 := by omega
        refine ⟨T1, [x1, y1], rfl, SqT.of upd_same, rfl, x1, [y1], rfl, y1, [], rfl, rfl, ?_⟩
        refine ⟨rfl, ?_⟩
        unfold tYes
        refine ite2 (fun _ => ?_) (fun z => absurd rfl z)
        refine ⟨x1, rfl, y1, rfl, x1, y1, d1, rfl, dp_same (s1.trans s3) r1, dp_same (s1.trans s3) r2, hds d1 (List.mem_of_getElem? e1), fun H4 s4 => ?_⟩
        have eD4 : H4 D = some (.lst ((List.replicate i true).map V.bl)) := s4 _ _ (by rw [upd_ne (ne_of_none eD nT)]; exact eD)
        refine ⟨_, eD4, ?_, fun c o e => ?_, ?_⟩
        · rw [List.length_map, List.length_replicate]
          exact small1000 (Nat.le_of_lt hi')
        · rw [upd_ne (ne_of_none e nD)]
          exact s4 _ _ (s3 _ _ e)
        · rw [upd_same, List.replicate_succ', List.map_append]
          rfl
      · rintro H2 ⟨s2, eD⟩
        refine ⟨D, _, rfl, SqL.of eD, ?_⟩
        rw [all_yes]
        exact q _ (s1.trans s2)
    | _ => exact absurd hd id
end
end K20
namespace K20
open PySem PySem.Spec PyProof.Rows L2 CS
/-- what stood at first stands, and all of H2 but l -/
def KeepTo (H H2 : Hp) (l : Addr) (H' : Hp) : Prop := Same H H' ∧ Keep l H2 H'
theorem cut3 (ns : List Int) : cutV (ns.map V.int) (some 3) (some 63) = ((ns.drop (min 3 ns.length)).take (min 63 ns.length - min 3 ns.length)).map V.int := by
  unfold cutV
  rw [show HT.sIx (ns.map V.int).length 0 (some 3) = min 3 (ns.map V.int).length from HT.sIx_nat _ 0 3, show HT.sIx (ns.map V.int).length (ns.map V.int).length (some 63) = min 63 (ns.map V.int).length from HT.sIx_nat _ _ 63, List.length_map, List.map_take, List.map_drop]
theorem cut0 (ns : List Int) : cutV (ns.map V.int) none (some 3) = (ns.take (min 3 ns.length)).map V.int := by
  unfold cutV
  rw [show HT.sIx (ns.map V.int).length 0 none = 0 from HT.sIx_none _ _, show HT.sIx (ns.map V.int).length (ns.map V.int).length (some 3) = min 3 (ns.map V.int).length from HT.sIx_nat _ _ 3, List.length_map, List.map_take]
  rfl
section
variable {P : Program} {w : World} {K : PySem.W.Frag} {mg : Str → Option Value} {base : Heap}
def spCells (K : PySem.W.Frag) : Sp := fun vs H Q _ => ∃ (a : Addr) (ns : List Int), vs = [.ref a, .int 3] ∧ SqL K H a (ns.map V.int) ∧ ns.length ≤ 63 ∧
  ∀ (H' : Hp) (p : Addr) (ms : List Int), Same H H' → H p = none → H' p = some (.lst (ms.map V.int)) → 1 ≤ ms.length → ms.length ≤ 3 → Q (.ref p) H'
theorem scCells : FnScope ["_law_script", "_law_most_so", "_law_cells_here", "_law_k", "_law_cell", "_law_at_so"] ["_law_script", "_law_most_so"] (defScope sCells) := ⟨rfl, rfl, rfl, by decide +kernel, rfl, by decide +kernel, by decide +kernel⟩
theorem ok_cells {f : Addr} {fd : FuncData} {k : Nat} (F : Fun K "_law_cells" "_law_cells" sCells f fd) (mL : mg "list" = none) (mE : mg "enumerate" = none) (mi : mg "int" = none) : FnOk P w K mg base CX0 (k + 1) f fd ["_law_script", "_law_most_so"] (spCells K) := by
  refine F.ok scCells (fun vs H Q E h => ?_) (fun cdv A outer s H vs Q E hr h => ?_)
  · obtain ⟨a, ns, rfl, _⟩ := h
    rfl
  · obtain ⟨a, ns, rfl, hS, hn, q⟩ := h
    refine ⟨_, pss_cons (ps_set (i := 2) scCells.nd rfl (.inl rfl) (pe_orT (pe_callTy call_list_of (by rfl) mL (by decide +kernel) (pa_cons (pe_slice sl_list (pv 0) po_none (po_some (pv 1))) pa_nil)) (pe_one (pe_lst (pa_cons pe_int pa_nil)))))
      (pss_cons (ps_for PassesOwn.never rfl (pi_enum (by rfl) mE (pa_cons (pe_slice sl_list (pv 0) (po_some (pv 1)) (po_some pe_int)) pa_nil))
          (pg_tup rfl (pgs_cons (pg_name (i := 3) scCells.nd rfl (.inl rfl)) (pgs_cons (pg_name (i := 4) scCells.nd rfl (.inl rfl)) pgs_nil)))
        (pss_cons (ps_set (i := 5) scCells.nd rfl (.inl rfl) (pe_op op_modN (pe_callTy call_int1 (by rfl) mi (by decide +kernel) (pa_cons (pv 3) pa_nil)) (pv 1)))
          (pss_one (ps_asg (pe_op op_add (pe_ix ix_list (pv 2) (pv 5) (fun _ _ => rfl)) (pe_op op_mul (pv 4) (pe_op op_add (pv 3) pe_int))) (pg_sub (pv 2) (pv 5) set_list)))))
      (pss_one (ps_ret (pv 2)))), ?_⟩
    refine ⟨.ref a, rfl, .int 3, rfl, 3, rfl, a, ns.map V.int, rfl, hS, fun c nc => ?_⟩
    rw [cut0]
    refine ⟨c, _, rfl, .inl (SqL.of upd_same), fun l nl0 => ?_⟩
    have s0 : Same H (upd (upd H c (.lst ((ns.take (min 3 ns.length)).map V.int))) l (.lst ((ns.take (min 3 ns.length)).map V.int))) := (same_upd nc).trans (same_upd nl0)
    have nlH : H l = none := (same_upd nc).free nl0
    have hl1 : (ns.take (min 3 ns.length)).length = min 3 ns.length := by
      rw [List.length_take]
      omega
    refine ⟨_, .inl ⟨_, SqL.of upd_same, rfl⟩, ?_⟩
    refine ite2 (fun c1 => ?_) (fun c1 => ?_)
    · have hpos : 0 < ns.length := by
        cases ns with
        | nil => cases c1
        | cons x r => exact Nat.succ_pos _
      have e1 : (upd (upd H c (.lst ((ns.take (min 3 ns.length)).map V.int))) l (.lst ((ns.take (min 3 ns.length)).map V.int))) l = some (.lst ((ns.take (min 3 ns.length)).map V.int)) := upd_same
      generalize upd (upd H c (.lst ((ns.take (min 3 ns.length)).map V.int))) l (.lst ((ns.take (min 3 ns.length)).map V.int)) = H1 at s0 e1
      generalize ns.take (min 3 ns.length) = ms at e1 hl1
      have s1 := s0
      have nl := nlH
      have m1 : 1 ≤ ms.length := by omega
      have m3 : ms.length ≤ 3 := by omega
      have h3 : 3 < ns.length → ms.length = 3 := fun _ => by omega
      refine ⟨.ref a, rfl, .int 3, rfl, 3, rfl, 63, rfl, a, ns.map V.int, rfl, s1.seq hS, fun c2 nc2 => ?_⟩
      rw [cut3]
      have s2 : Same H (upd H1 c2 (.lst (((ns.drop (min 3 ns.length)).take (min 63 ns.length - min 3 ns.length)).map V.int))) := s1.trans (same_upd nc2)
      have ncl : c2 ≠ l := fun z => by
        rw [z, e1] at nc2
        cases nc2
      have hC : SqL K (upd H1 c2 (.lst (((ns.drop (min 3 ns.length)).take (min 63 ns.length - min 3 ns.length)).map V.int))) c2 (((ns.drop (min 3 ns.length)).take (min 63 ns.length - min 3 ns.length)).map V.int) := SqL.of upd_same
      have eL : (upd H1 c2 (.lst (((ns.drop (min 3 ns.length)).take (min 63 ns.length - min 3 ns.length)).map V.int))) l = some (.lst (ms.map V.int)) := by
        rw [upd_ne ncl.symm]
        exact e1
      have hlenr : ((ns.drop (min 3 ns.length)).take (min 63 ns.length - min 3 ns.length)).length = min 63 ns.length - min 3 ns.length := by
        rw [List.length_take, List.length_drop]
        omega
      generalize ((ns.drop (min 3 ns.length)).take (min 63 ns.length - min 3 ns.length)) = rest at s2 hC eL hlenr
      generalize upd H1 c2 (.lst (rest.map V.int)) = H2 at s2 hC eL
      refine ⟨c2, rest.map V.int, rfl, hC, for_it (walk_enum (K := K) (a := c2) (xs := rest.map V.int)) (fun i σ H' => ∃ (y3 y4 y5 : Option V) (zs : List Int), σ = [some (.ref a), some (.int 3), some (.ref l), y3, y4, y5] ∧ KeepTo H H2 l H' ∧ H' l = some (.lst (zs.map V.int)) ∧ zs.length = ms.length)
        ⟨none, none, none, ms, rfl, ⟨s2, fun _ _ _ e => e⟩, eL, rfl⟩ (fun i σ H' _ z => by
          obtain ⟨_, _, _, _, _, kk, _, _⟩ := z
          exact Keep.sqL (b := l) kk.2 ncl hC) ?_ ?_⟩
      · rintro i v σ H3 H4 hi ⟨y3, y4, y5, zs, rfl, kk, e3, hzl⟩ ⟨T, x, y, rfl, nT, rfl, hx, hy⟩
        cases hx
        replace hy : (rest.map V.int)[i]? = some y := hy
        rw [List.getElem?_map] at hy
        rw [List.length_map, hlenr] at hi
        cases e : rest[i]? with
        | none =>
          rw [e] at hy
          cases hy
        | some u =>
          rw [e] at hy
          cases hy
          have hz3 : zs.length = 3 := by rw [hzl]; exact h3 (by omega)
          have f0 := Int.fmod_nonneg_of_pos (i : Int) (b := 3) (by decide)
          have f1 := Int.fmod_lt_of_pos (i : Int) (b := 3) (by decide)
          have nlT : l ≠ T := ne_of_none e3 nT
          have e3T : (upd H3 T (.tup [.int (i : Nat), .int u])) l = some (.lst (zs.map V.int)) := by
            rw [upd_ne nlT]
            exact e3
          refine ⟨T, [.int (i : Nat), .int u], rfl, SqT.of upd_same, rfl, .int (i : Nat), [.int u], rfl, .int u, [], rfl, rfl, ?_⟩
          refine ⟨.int (i : Nat), rfl, .inl ⟨_, rfl, .int 3, rfl, _, _, rfl, rfl, (by show (3 : Int) ≠ 0; decide), ?_⟩⟩
          have hj : (Int.fmod (i : Int) 3).toNat < zs.length := by omega
          have hat : atI (zs.map V.int) (Int.fmod (i : Int) 3) = some (.int zs[(Int.fmod (i : Int) 3).toNat]) := by
            have za := atI_nat (j := (Int.fmod (i : Int) 3).toNat) (xs := zs.map V.int) (v := .int zs[(Int.fmod (i : Int) 3).toNat]) (by rw [List.getElem?_map, List.getElem?_eq_getElem hj]; rfl)
            rw [show (((Int.fmod (i : Int) 3).toNat : Nat) : Int) = Int.fmod (i : Int) 3 by omega] at za
            exact za
          refine ⟨.ref l, rfl, .int _, rfl, l, _, _, _, rfl, rfl, SqL.of e3T, hat, .int u, rfl, .int (i : Nat), rfl, _, _, rfl, rfl, _, _, rfl, rfl, .inr (by omega), _, _, rfl, rfl, ?_⟩
          refine ⟨.ref l, rfl, .int _, rfl, l, _, _, (Int.fmod (i : Int) 3).toNat, rfl, rfl, e3T, ?_, ?_⟩
          · unfold ixN
            rw [List.length_map, if_pos f0, if_pos (by omega)]
          · refine ⟨_, _, _, zs.set (Int.fmod (i : Int) 3).toNat (zs[(Int.fmod (i : Int) 3).toNat] + u * ((i : Int) + 2)), rfl, ⟨fun c o ec => ?_, fun c o nc ec => ?_⟩, ?_, ?_⟩
            · have q3 := kk.1 _ _ ec
              have ncl3 : c ≠ l := ne_of_none ec nl
              rw [upd_ne ncl3, upd_ne (ne_of_none q3 nT)]
              exact q3
            · have q3 := kk.2 _ _ nc ec
              rw [upd_ne nc, upd_ne (ne_of_none q3 nT)]
              exact q3
            · rw [upd_same, List.map_set]
            · rw [List.length_set]
              exact hzl
      · rintro σ H3 ⟨y3, y4, y5, zs, rfl, kk, e3, hzl⟩
        exact ⟨.ref l, rfl, q H3 l zs kk.1 nl e3 (by omega) (by omega)⟩
    · have hnil : ns.length = 0 := by
        cases ns with
        | nil => rfl
        | cons x r =>
          exfalso
          apply c1
          show (!(((x :: r).take (min 3 (r.length + 1))).map V.int).isEmpty) = true
          rw [show min 3 (r.length + 1) = (min 2 r.length) + 1 by omega]
          rfl
      refine ⟨(by show 1 ≤ sizeLine; decide), fun l2 nl2 => ?_⟩
      have s1 := s0.trans (same_upd (o := .lst [.int 0]) nl2)
      have nl : H l2 = none := s0.free nl2
      have e1 : (upd (upd (upd H c (.lst ((ns.take (min 3 ns.length)).map V.int))) l (.lst ((ns.take (min 3 ns.length)).map V.int))) l2 (.lst [.int 0])) l2 = some (.lst (([0] : List Int).map V.int)) := upd_same
      generalize upd (upd (upd H c (.lst ((ns.take (min 3 ns.length)).map V.int))) l (.lst ((ns.take (min 3 ns.length)).map V.int))) l2 (.lst [.int 0]) = H1 at s1 e1
      generalize l2 = l at nl e1
      generalize ems : ([0] : List Int) = ms at e1
      have m1 : 1 ≤ ms.length := by rw [← ems]; decide
      have m3 : ms.length ≤ 3 := by rw [← ems]; decide
      have h3 : 3 < ns.length → ms.length = 3 := fun z => by omega
      refine ⟨.ref a, rfl, .int 3, rfl, 3, rfl, 63, rfl, a, ns.map V.int, rfl, s1.seq hS, fun c2 nc2 => ?_⟩
      rw [cut3]
      have s2 : Same H (upd H1 c2 (.lst (((ns.drop (min 3 ns.length)).take (min 63 ns.length - min 3 ns.length)).map V.int))) := s1.trans (same_upd nc2)
      have ncl : c2 ≠ l := fun z => by
        rw [z, e1] at nc2
        cases nc2
      have hC : SqL K (upd H1 c2 (.lst (((ns.drop (min 3 ns.length)).take (min 63 ns.length - min 3 ns.length)).map V.int))) c2 (((ns.drop (min 3 ns.length)).take (min 63 ns.length - min 3 ns.length)).map V.int) := SqL.of upd_same
      have eL : (upd H1 c2 (.lst (((ns.drop (min 3 ns.length)).take (min 63 ns.length - min 3 ns.length)).map V.int))) l = some (.lst (ms.map V.int)) := by
        rw [upd_ne ncl.symm]
        exact e1
      have hlenr : ((ns.drop (min 3 ns.length)).take (min 63 ns.length - min 3 ns.length)).length = min 63 ns.length - min 3 ns.length := by
        rw [List.length_take, List.length_drop]
        omega
      generalize ((ns.drop (min 3 ns.length)).take (min 63 ns.length - min 3 ns.length)) = rest at s2 hC eL hlenr
      generalize upd H1 c2 (.lst (rest.map V.int)) = H2 at s2 hC eL
      refine ⟨c2, rest.map V.int, rfl, hC, for_it (walk_enum (K := K) (a := c2) (xs := rest.map V.int)) (fun i σ H' => ∃ (y3 y4 y5 : Option V) (zs : List Int), σ = [some (.ref a), some (.int 3), some (.ref l), y3, y4, y5] ∧ KeepTo H H2 l H' ∧ H' l = some (.lst (zs.map V.int)) ∧ zs.length = ms.length)
        ⟨none, none, none, ms, rfl, ⟨s2, fun _ _ _ e => e⟩, eL, rfl⟩ (fun i σ H' _ z => by
          obtain ⟨_, _, _, _, _, kk, _, _⟩ := z
          exact Keep.sqL (b := l) kk.2 ncl hC) ?_ ?_⟩
      · rintro i v σ H3 H4 hi ⟨y3, y4, y5, zs, rfl, kk, e3, hzl⟩ ⟨T, x, y, rfl, nT, rfl, hx, hy⟩
        cases hx
        replace hy : (rest.map V.int)[i]? = some y := hy
        rw [List.getElem?_map] at hy
        rw [List.length_map, hlenr] at hi
        cases e : rest[i]? with
        | none =>
          rw [e] at hy
          cases hy
        | some u =>
          rw [e] at hy
          cases hy
          have hz3 : zs.length = 3 := by rw [hzl]; exact h3 (by omega)
          have f0 := Int.fmod_nonneg_of_pos (i : Int) (b := 3) (by decide)
          have f1 := Int.fmod_lt_of_pos (i : Int) (b := 3) (by decide)
          have nlT : l ≠ T := ne_of_none e3 nT
          have e3T : (upd H3 T (.tup [.int (i : Nat), .int u])) l = some (.lst (zs.map V.int)) := by
            rw [upd_ne nlT]
            exact e3
          refine ⟨T, [.int (i : Nat), .int u], rfl, SqT.of upd_same, rfl, .int (i : Nat), [.int u], rfl, .int u, [], rfl, rfl, ?_⟩
          refine ⟨.int (i : Nat), rfl, .inl ⟨_, rfl, .int 3, rfl, _, _, rfl, rfl, (by show (3 : Int) ≠ 0; decide), ?_⟩⟩
          have hj : (Int.fmod (i : Int) 3).toNat < zs.length := by omega
          have hat : atI (zs.map V.int) (Int.fmod (i : Int) 3) = some (.int zs[(Int.fmod (i : Int) 3).toNat]) := by
            have za := atI_nat (j := (Int.fmod (i : Int) 3).toNat) (xs := zs.map V.int) (v := .int zs[(Int.fmod (i : Int) 3).toNat]) (by rw [List.getElem?_map, List.getElem?_eq_getElem hj]; rfl)
            rw [show (((Int.fmod (i : Int) 3).toNat : Nat) : Int) = Int.fmod (i : Int) 3 by omega] at za
            exact za
          refine ⟨.ref l, rfl, .int _, rfl, l, _, _, _, rfl, rfl, SqL.of e3T, hat, .int u, rfl, .int (i : Nat), rfl, _, _, rfl, rfl, _, _, rfl, rfl, .inr (by omega), _, _, rfl, rfl, ?_⟩
          refine ⟨.ref l, rfl, .int _, rfl, l, _, _, (Int.fmod (i : Int) 3).toNat, rfl, rfl, e3T, ?_, ?_⟩
          · unfold ixN
            rw [List.length_map, if_pos f0, if_pos (by omega)]
          · refine ⟨_, _, _, zs.set (Int.fmod (i : Int) 3).toNat (zs[(Int.fmod (i : Int) 3).toNat] + u * ((i : Int) + 2)), rfl, ⟨fun c o ec => ?_, fun c o nc ec => ?_⟩, ?_, ?_⟩
            · have q3 := kk.1 _ _ ec
              have ncl3 : c ≠ l := ne_of_none ec nl
              rw [upd_ne ncl3, upd_ne (ne_of_none q3 nT)]
              exact q3
            · have q3 := kk.2 _ _ nc ec
              rw [upd_ne nc, upd_ne (ne_of_none q3 nT)]
              exact q3
            · rw [upd_same, List.map_set]
            · rw [List.length_set]
              exact hzl
      · rintro σ H3 ⟨y3, y4, y5, zs, rfl, kk, e3, hzl⟩
        exact ⟨.ref l, rfl, q H3 l zs kk.1 nl e3 (by omega) (by omega)⟩
end
end K20
namespace K20
open PySem PySem.Spec PyProof.Rows L2 CS RZ
section
variable {P : Program} {w : World} {K : PySem.W.Frag} {mg : Str → Option Value} {base : Heap}
def spRight : Sp := fun vs H Q _ => ∃ (b : Addr), vs = [.ref b] ∧ BoxAt H b 0 ∧ ∀ H' : Hp, Keep b H H' → Q (.bl true) H'
def spLaw (K : PySem.W.Frag) : Sp := fun vs H Q _ => ∃ (a : Addr) (ns : List Int), vs = [.ref a] ∧ SqL K H a (ns.map V.int) ∧ ns.length ≤ 63 ∧ ∀ H', Q (.bl true) H'
abbrev nLaw : List Str := ["_law_script", "_law_cells_here", "_law_k"]
theorem scLaw : FnScope nLaw ["_law_script"] (defScope sLaw) := ⟨rfl, rfl, rfl, by decide +kernel, rfl, by decide +kernel, by decide +kernel⟩
theorem ok_law {f gc gr gb : Addr} {fd dc dr db : FuncData} {k : Nat} (F : Fun K "law" "law" sLaw f fd)
    (Gc : FnOk P w K mg base CX0 k gc dc ["_law_script", "_law_most_so"] (spCells K)) (bc : Binds K dc ["_law_script", "_law_most_so"] []) (kc : PySem.W.keepIn K (.ref gc) = true) (mc : mg "_law_cells" = some (.ref gc))
    (Gr : FnOk P w K mg base CX0 k gr dr ["_law_box_here"] spRight) (br : Binds K dr ["_law_box_here"] []) (kr : PySem.W.keepIn K (.ref gr) = true) (mR : mg "_law_right" = some (.ref gr))
    (Gb : FnOk P w K mg base CX0 k gb db ["_law_script", "_law_k"] (spBox K)) (bb : Binds K db ["_law_script", "_law_k"] []) (kb : PySem.W.keepIn K (.ref gb) = true) (mb : mg "_law_box" = some (.ref gb)) (mr : mg "range" = none) (ma : mg "all" = none) (ml : mg "len" = none) :
    FnOk P w K mg base CX0 (k + 1) f fd ["_law_script"] (spLaw K) := by
  refine F.ok scLaw (fun vs H Q E h => ?_) (fun cdv A outer s H vs Q E hr h => ?_)
  · obtain ⟨a, ns, rfl, _⟩ := h
    rfl
  · obtain ⟨a, ns, rfl, hS, hn, q⟩ := h
    refine ⟨_, pss_cons (ps_set (i := 1) scLaw.nd rfl (.inr rfl) (pe_call Gc hr (by rfl) mc kc bc .nil pass0 (pa_cons (pv 0) (pa_cons pe_int pa_nil))))
      (pss_one (ps_ret (pe_callB (cr_all rfl) (by rfl) ma (by decide +kernel) (pa_cons (pe_lc (own := [("_law_k", 2)]) (g := gName 2) (by rfl) scLaw.nd (pi_range1 (by rfl) mr (pa_cons (pe_callB call_len_seq (by rfl) ml PySem.boot_len (pa_cons (pv 1) pa_nil)) pa_nil))
        (blkOk_by (own := [("_law_k", 2)]) (N := nLaw) (sc := defScope sLaw) (by decide +kernel)) (fun _ _ _ _ _ => pg_name (i := 2) scLaw.nd rfl (Or.inl rfl) (.inr rfl)) (fun _ _ _ _ _ => pts_nil)
        (fun _ _ _ _ _ => pe_call Gr hr (by rfl) mR kr br .nil pass0 (pa_cons (pe_call Gb hr (by rfl) mb kb bb .nil pass0 (pa_cons (pv 1) (pa_cons (pv 2) pa_nil))) pa_nil))) pa_nil)))), ?_⟩
    refine ⟨.ref a, rfl, a, ns, rfl, hS, hn, fun H2 p ms s2 _ e2 m1 m3 => ?_⟩
    refine ⟨.ref p, rfl, p, _, rfl, .inl (SqL.of e2), _, rfl, (by rw [List.length_map]; omega), (by rw [List.length_map]; omega), fun D nD => lc_range (fun i H' => H' p = some (.lst (ms.map V.int)) ∧ H' D = some (.lst ((List.replicate i true).map V.bl))) ⟨?_, upd_same⟩ ?_ ?_⟩
    · rw [upd_ne (ne_of_none e2 nD)]
      exact e2
    · rintro i H3 hi ⟨e3, eD⟩
      rw [List.length_map] at hi
      have hi' : i < ms.length := by omega
      have npD : p ≠ D := ne_of_none e2 nD
      refine ⟨rfl, ?_⟩
      unfold tYes
      refine ite2 (fun _ => ?_) (fun z => absurd rfl z)
      refine ⟨.ref p, rfl, .int (0 + (i : Nat)), rfl, p, ms, i, (by rw [Int.zero_add]; rfl), SqL.of e3, hi', by omega, fun H4 b s4 nb b4 => ?_⟩
      have npb : p ≠ b := ne_of_none e3 nb
      have nDb : D ≠ b := ne_of_none eD nb
      refine ⟨b, rfl, b4, fun H5 k5 => ?_⟩
      refine ⟨_, k5 _ _ nDb (s4 _ _ eD), ?_, ?_, ?_⟩
      · rw [List.length_map, List.length_replicate]
        exact small1000 (by omega)
      · rw [upd_ne npD]
        exact k5 _ _ npb (s4 _ _ e3)
      · rw [upd_same, List.replicate_succ', List.map_append]
        rfl
    · rintro H3 ⟨e3, eD⟩
      refine ⟨D, _, rfl, SqL.of eD, ?_⟩
      rw [all_yes]
      exact q H3
end
end K20
/-! an error that is caught and used behind its except clause: it is tracked like any other object -/
namespace CS
open PySem PySem.Spec PyProof.Rows L2
/-- at a: an error of the class cls, its dict at d -/
def XO (cls : Value) (d : Option Addr) (a : Addr) : HO := .ext fun h => ∃ (ob : Obj) (ws : Array Value), h.get? a = some ob ∧ Zc cls d ob ∧ ob.data = .fields ws
theorem again {X : Cx} {pins : List (Addr × Obj)} {σ : L2.St} {H : Hp} {s : Shared} {a : Addr} (I : Inv X pins σ H s) : Inv (X.suite a (X.pn ++ pins)) [] σ H s :=
  ⟨I.ok.suite _ _, I.os, I.bare, I.base, I.loc, I.cell, I.free, I.freeC, fun p hp => I.pin p (by rw [List.append_nil] at hp; exact hp), I.hok, I.len⟩
end CS
set_option maxHeartbeats 4000000
/-! isinstance and the fields of an error that is tracked -/
namespace PySem.W
open PySem PySem.Spec PySem.Calls PyProof.Rows
section
variable {prog : Program} {w : World} {A : Around} {E : Value → Shared → Prop} {s : Shared} {K : Frag} {x D : Addr} {ox : Obj} {od : Option Obj}
/-- what the class D says of its instances' __class__ -/
structure CsxC (K : Frag) (D : Addr) : Prop where
  hg : findIn K (.ref D) "__getattribute__" = some (some (.builtin "BaseException.__getattribute__"))
  hk : findIn K (.ref D) "__getattr__" = some none
  hs : subIn K (.ref D) (.type "BaseException") = some true
  hd : hasDictIn K D = true
  ha : findIn K (.ref D) "__class__" = some (some (.builtin "object.__class__"))
  hn : specialIn K (.builtin "object.__class__") "__get__" = some (some (.builtin "getset_descriptor.__get__"))
  ht : takesIn K (.builtin "object.__class__") = some true
  hm : mroIn K D (.type "object") = some true
end
end PySem.W
namespace CS
open PySem PySem.Spec PyProof.Rows L2
end CS
set_option maxHeartbeats 4000000
/-! an own error class called by keywords alone -/
namespace PySem
end PySem
set_option maxHeartbeats 4000000
/-! own errors whose __init__ stores fields, as values; over ValueError or LookupError -/
namespace PySem
end PySem
namespace CS
open PySem PySem.Spec PyProof.Rows L2
/-- an error made: at a the object, at d its dict -/
def made (H : Hp) (a d C : Addr) (fs : List (Str × V)) : Hp := upd (upd H a (XO (.ref C) (some d) a)) d (.xd fs)
end CS
set_option maxHeartbeats 4000000
namespace CS
open PySem PySem.Spec PyProof.Rows L2
/-! ### C(e, ..), C(k = e, ..): an error as a value -/
end CS
namespace CS
open PySem PySem.Spec PySem.Calls PyProof.Rows
/-! ### sorted of a tuple -/
end CS
namespace CS
open PySem PySem.Spec PyProof.Rows L2
/-! ### sorted of a list of data -/
theorem vals_of_each {α : Type} (f : α → V) : ∀ {bs : List α} {us : List Value}, PySem.W.EachIs (fun u b => RelV (f b) u) us bs → Vals (bs.map f) us
  | [], [], .nil => .nil
  | _ :: _, _ :: _, .cons h t => .cons h (vals_of_each f t)
/-! ### pairs of texts -/
def tx (p : Str × Str) : PyData := .tuple [.str p.1, .str p.2]
def leP (p q : Str × Str) : Bool := PySem.W.dataLe false tx p q
theorem leP_total : PySem.W.TotalLe leP := PySem.W.sortLe_total (listOrd itemOrd) false fun b => PySem.W.keyToks (tx b)
theorem eqv_str (a b : Str) : PyData.eqv (.str a) (.str b) = decide (a = b) := by
  simp only [PyData.eqv]
  exact Bool.beq_eq_decide_eq a b
end CS
namespace RM
open PySem PySem.Spec PyProof.Rows L2 CS RZ
/-! ### values as data: dicts, objects, errors and the box of draws are marked dicts -/
abbrev D := PyData
def boxD : D := .dict [(.none, .none)]
def dK (kvs : List (D × D)) : D := .dict ((.none, .bool false) :: kvs)
def dT (kvs : List (D × D)) : D := .dict ((.none, .bool true) :: kvs)
def obj (c : Nat) (fs : List (D × D)) : D := .dict ((.none, .int (c : Nat)) :: fs)
def exc (c : Nat) (fs : List (D × D)) : D := .dict ((.none, .list [.int (c : Nat)]) :: fs)
def kD : L2.Key → D
  | .inl i => .int i
  | .inr s => .str s
/-- the program's classes, by number; the box -/
structure Tab where
  K : PySem.W.Frag
  cls : Nat → Addr
  bx : Option Addr
mutual
inductive Is (T : Tab) (H : Hp) : V → D → Prop
  | non : Is T H .non .none
  | bl (b : Bool) : Is T H (.bl b) (.bool b)
  | int (i : Int) : Is T H (.int i) (.int i)
  | str (x : Str) : Is T H (.str x) (.str x)
  | lst {a : Addr} {xs : List V} {ds : List D} : H a = some (.lst xs) → IsL T H xs ds → Is T H (.ref a) (.list ds)
  | tup {a : Addr} {xs : List V} {ds : List D} : SqT T.K H a xs → IsL T H xs ds → Is T H (.ref a) (.tuple ds)
  | box {a : Addr} : T.bx = some a → Is T H (.ref a) (.dict [(.none, .none)])
  | dk {a : Addr} {kvs : List (L2.Key × V)} {ks : List (D × D)} : Rd H a (.dK kvs) → IsK T H kvs ks → Is T H (.ref a) (.dict ((.none, .bool false) :: ks))
  | dt {a : Addr} {kvs : List (List L2.Key × V)} {ks : List (D × D)} : Rd H a (.dT kvs) → IsT T H kvs ks → Is T H (.ref a) (.dict ((.none, .bool true) :: ks))
  | obj {a dx : Addr} {c : Nat} {us : List (Str × V)} {fs : List (D × D)} : H a = some (.ins (T.cls c) dx us) → H dx = some (.own a) → IsF T H us fs → Is T H (.ref a) (.dict ((.none, .int (c : Nat)) :: fs))
  | exc {a dd : Addr} {c : Nat} {us : List (Str × V)} {fs : List (D × D)} : H a = some (XO (.ref (T.cls c)) (some dd) a) → H dd = some (.xd us) → IsF T H us fs → Is T H (.ref a) (.dict ((.none, .list [.int (c : Nat)]) :: fs))
  | exn {a : Addr} {c : Nat} : H a = some (XO (.ref (T.cls c)) none a) → Is T H (.ref a) (.dict ((.none, .list [.int (c : Nat)]) :: []))
inductive IsL (T : Tab) (H : Hp) : List V → List D → Prop
  | nil : IsL T H [] []
  | cons {v : V} {vs : List V} {d : D} {ds : List D} : Is T H v d → IsL T H vs ds → IsL T H (v :: vs) (d :: ds)
inductive IsK (T : Tab) (H : Hp) : List (L2.Key × V) → List (D × D) → Prop
  | nil : IsK T H [] []
  | cons {k : L2.Key} {v : V} {vs : List (L2.Key × V)} {d : D} {ds : List (D × D)} : Is T H v d → IsK T H vs ds → IsK T H ((k, v) :: vs) ((kD k, d) :: ds)
inductive IsT (T : Tab) (H : Hp) : List (List L2.Key × V) → List (D × D) → Prop
  | nil : IsT T H [] []
  | cons {k : List L2.Key} {v : V} {vs : List (List L2.Key × V)} {d : D} {ds : List (D × D)} : Is T H v d → IsT T H vs ds → IsT T H ((k, v) :: vs) ((.tuple (k.map kD), d) :: ds)
inductive IsF (T : Tab) (H : Hp) : List (Str × V) → List (D × D) → Prop
  | nil : IsF T H [] []
  | cons {f : Str} {v : V} {vs : List (Str × V)} {d : D} {ds : List (D × D)} : Is T H v d → IsF T H vs ds → IsF T H ((f, v) :: vs) ((.str f, d) :: ds)
end
section
variable {T : Tab} {H H' : Hp}
theorem rd_same {a : Addr} {u : HO} (s : Same H H') (h : Rd H a u) : Rd H' a u := by
  rcases h with h | ⟨o, h⟩
  · exact .inl (s _ _ h)
  · exact .inr ⟨o, s _ _ h⟩
theorem sqt_same {K : PySem.W.Frag} {a : Addr} {xs : List V} (e : Same H H') (h : SqT K H a xs) : SqT K H' a xs := by
  rcases h with h | h
  · exact .inl (rd_same e h)
  · exact .inr h
mutual
theorem Is.same (s : Same H H') : ∀ {v : V} {d : D}, Is T H v d → Is T H' v d
  | _, _, .non => .non
  | _, _, .bl b => .bl b
  | _, _, .int i => .int i
  | _, _, .str x => .str x
  | _, _, .lst h r => .lst (s _ _ h) (IsL.same s r)
  | _, _, .tup h r => .tup (sqt_same s h) (IsL.same s r)
  | _, _, .box h => .box h
  | _, _, .dk h r => .dk (rd_same s h) (IsK.same s r)
  | _, _, .dt h r => .dt (rd_same s h) (IsT.same s r)
  | _, _, .obj h1 h2 r => .obj (s _ _ h1) (s _ _ h2) (IsF.same s r)
  | _, _, .exc h1 h2 r => .exc (s _ _ h1) (s _ _ h2) (IsF.same s r)
  | _, _, .exn h => .exn (s _ _ h)
theorem IsL.same (s : Same H H') : ∀ {v : List V} {d : List D}, IsL T H v d → IsL T H' v d
  | _, _, .nil => .nil
  | _, _, .cons h r => .cons (Is.same s h) (IsL.same s r)
theorem IsK.same (s : Same H H') : ∀ {v : List (L2.Key × V)} {d : List (D × D)}, IsK T H v d → IsK T H' v d
  | _, _, .nil => .nil
  | _, _, .cons h r => .cons (Is.same s h) (IsK.same s r)
theorem IsT.same (s : Same H H') : ∀ {v : List (List L2.Key × V)} {d : List (D × D)}, IsT T H v d → IsT T H' v d
  | _, _, .nil => .nil
  | _, _, .cons h r => .cons (Is.same s h) (IsT.same s r)
theorem IsF.same (s : Same H H') : ∀ {v : List (Str × V)} {d : List (D × D)}, IsF T H v d → IsF T H' v d
  | _, _, .nil => .nil
  | _, _, .cons h r => .cons (Is.same s h) (IsF.same s r)
end
/-! data without marked dicts -/
mutual
def plain : D → Bool
  | .list ds => plains ds
  | .tuple ds => plains ds
  | .dict _ => false
  | _ => true
def plains : List D → Bool
  | [] => true
  | d :: ds => plain d && plains ds
end
mutual
theorem Is.dp : ∀ {v : V} {d : D}, Is T H v d → plain d = true → Dp T.K H v d
  | _, _, .non, _ => .non
  | _, _, .bl b, _ => .bl b
  | _, _, .int i, _ => .int i
  | _, _, .str x, _ => .str x
  | _, _, .lst h r, p => .lst (SqL.of h) (IsL.dp r p)
  | _, _, .tup h r, p => .tup h (IsL.dp r p)
  | _, _, .box _, p => by cases p
  | _, _, .dk _ _, p => by cases p
  | _, _, .dt _ _, p => by cases p
  | _, _, .obj _ _ _, p => by cases p
  | _, _, .exc _ _ _, p => by cases p
  | _, _, .exn _, p => by cases p
theorem IsL.dp : ∀ {v : List V} {d : List D}, IsL T H v d → plains d = true → DpAll T.K H v d
  | _, _, .nil, _ => .nil
  | _, _, .cons h r, p => .cons (Is.dp h (Bool.and_eq_true_iff.mp p).1) (IsL.dp r (Bool.and_eq_true_iff.mp p).2)
end
theorem IsL.length : ∀ {v : List V} {d : List D}, IsL T H v d → v.length = d.length
  | _, _, .nil => rfl
  | _, _, .cons _ r => by rw [List.length_cons, List.length_cons, r.length]
theorem IsL.get : ∀ {v : List V} {d : List D}, IsL T H v d → ∀ {i : Nat} {x : D}, d[i]? = some x → ∃ y, v[i]? = some y ∧ Is T H y x
  | _, _, .nil, _, _, e => by cases e
  | _, _, .cons h r, 0, _, e => by cases e; exact ⟨_, rfl, h⟩
  | _, _, .cons h r, i + 1, x, e => by
    obtain ⟨y, e1, e2⟩ := r.get (i := i) (x := x) e
    exact ⟨y, e1, e2⟩
theorem IsL.append : ∀ {v w : List V} {d e : List D}, IsL T H v d → IsL T H w e → IsL T H (v ++ w) (d ++ e)
  | _, _, _, _, .nil, s => s
  | _, _, _, _, .cons h r, s => .cons h (r.append s)
theorem IsL.take : ∀ {v : List V} {d : List D} (n : Nat), IsL T H v d → IsL T H (v.take n) (d.take n)
  | _, _, 0, _ => .nil
  | _, _, _ + 1, .nil => .nil
  | _, _, n + 1, .cons h r => .cons h (r.take n)
theorem IsL.drop : ∀ {v : List V} {d : List D} (n : Nat), IsL T H v d → IsL T H (v.drop n) (d.drop n)
  | _, _, 0, r => r
  | _, _, _ + 1, .nil => .nil
  | _, _, n + 1, .cons _ r => r.drop n
theorem IsL.set {x : V} {y : D} (hx : Is T H x y) : ∀ {v : List V} {d : List D} (n : Nat), IsL T H v d → IsL T H (v.set n x) (d.set n y)
  | _, _, _, .nil => .nil
  | _, _, 0, .cons _ t => .cons hx t
  | _, _, i + 1, .cons q t => .cons q (IsL.set hx i t)
theorem IsL.eraseIdx : ∀ {v : List V} {d : List D} (n : Nat), IsL T H v d → IsL T H (v.eraseIdx n) (d.eraseIdx n)
  | _, _, _, .nil => .nil
  | _, _, 0, .cons _ t => t
  | _, _, i + 1, .cons q t => .cons q (IsL.eraseIdx i t)
theorem IsL.reverse : ∀ {v : List V} {d : List D}, IsL T H v d → IsL T H v.reverse d.reverse
  | _, _, .nil => .nil
  | _, _, .cons h r => by
    rw [List.reverse_cons, List.reverse_cons]
    exact (IsL.reverse r).append (.cons h .nil)
end
end RM
namespace RM
open PySem PySem.Spec PyProof.Rows L2 CS RZ
/-- the box of draws at b: what is left of the number, the seed, how often it was asked -/
def BoxAt (H : Hp) (b : Addr) (n : Nat) : Prop := ∃ A B C : Int, H b = some (.lst [.int A, .int B, .int C]) ∧ 0 ≤ A ∧ 0 ≤ B ∧ B < 2 ^ 62 ∧ 0 ≤ C ∧ C ≤ n
/-- a def's activation: the classes and the box, the addresses hidden from its values, the heap at its entry -/
structure Ctx where
  T : Tab
  Z : Addr → Prop
  H0 : Hp
  slf : Option Addr := none
  B : Hp := fun _ => none
/-- a marked object -/
def isObjD : D → Bool
  | .dict ((.none, .int _) :: _) => true
  | _ => false
/-- a slot: a value, or a list, a dict, an object that this frame alone knows -/
inductive Sl where
  | v (d : D)
  | own (d : D)
abbrev En := List (Option Sl)
abbrev Ow := Nat → Option Addr
def now : Ow := fun _ => none
open Classical in
noncomputable def hid (C : Ctx) (O : Ow) (H : Hp) : Hp := fun a => if C.Z a ∨ ∃ i, O i = some a then none else H a
inductive OwnAt (T : Tab) (Hh H : Hp) (p : Addr) : D → Prop
  | lst {xs : List V} {ds : List D} : H p = some (.lst xs) → IsL T Hh xs ds → OwnAt T Hh H p (.list ds)
  | dk {kvs : List (L2.Key × V)} {ks : List (D × D)} : H p = some (.dK kvs) → IsK T Hh kvs ks → OwnAt T Hh H p (.dict ((.none, .bool false) :: ks))
  | dt {kvs : List (List L2.Key × V)} {ks : List (D × D)} : H p = some (.dT kvs) → IsT T Hh kvs ks → OwnAt T Hh H p (.dict ((.none, .bool true) :: ks))
  | obj {dx : Addr} {c : Nat} {us : List (Str × V)} {fs : List (D × D)} : H p = some (.ins (T.cls c) dx us) → Hh dx = some (.own p) → IsF T Hh us fs → OwnAt T Hh H p (.dict ((.none, .int (c : Nat)) :: fs))
theorem OwnAt.some {T : Tab} {Hh H : Hp} {p : Addr} {d : D} (h : OwnAt T Hh H p d) : ∃ o, H p = some o := by
  cases h with
  | lst h _ => exact ⟨_, h⟩
  | dk h _ => exact ⟨_, h⟩
  | dt h _ => exact ⟨_, h⟩
  | obj h _ _ => exact ⟨_, h⟩
theorem OwnAt.same {T : Tab} {Hh H Hh' H' : Hp} {p : Addr} {d : D} (h : OwnAt T Hh H p d) (s : Same Hh Hh') (e : H' p = H p) : OwnAt T Hh' H' p d := by
  cases h with
  | lst h r => exact .lst (e.trans h) (r.same s)
  | dk h r => exact .dk (e.trans h) (r.same s)
  | dt h r => exact .dt (e.trans h) (r.same s)
  | obj h h2 r => exact .obj (e.trans h) (s _ _ h2) (r.same s)
theorem OwnAt.notup {T : Tab} {Hh H : Hp} {p : Addr} {d : D} (h : OwnAt T Hh H p d) (xs : List V) : H p ≠ Option.some (HO.tup xs) := fun z => by
  cases h with
  | lst h _ => rw [h] at z; cases z
  | dk h _ => rw [h] at z; cases z
  | dt h _ => rw [h] at z; cases z
  | obj h _ _ => rw [h] at z; cases z
structure Ev (C : Ctx) (ρ : En) (n : Nat) (σ : L2.St) (H : Hp) (O : Ow) : Prop where
  len : ρ.length = σ.length
  val : ∀ (i : Nat) (d : D), ρ[i]? = some (some (Sl.v d)) → ∃ v, σ[i]? = some (some v) ∧ Is C.T (hid C O H) v d
  own : ∀ (i : Nat) (d : D), ρ[i]? = some (some (Sl.own d)) → ∃ p, O i = some p ∧ σ[i]? = some (some (.ref p)) ∧ OwnAt C.T (hid C O H) H p d
  only : ∀ (i : Nat) (p : Addr), O i = some p → (∃ d, ρ[i]? = some (some (Sl.own d))) ∧ C.H0 p = none
  inj : ∀ (i j : Nat) (p : Addr), O i = some p → O j = some p → i = j
  zs : ∀ a, C.Z a → ∃ o, C.H0 a = some o
  zt : ∀ a xs, C.Z a → C.H0 a ≠ some (.tup xs)
  keep : ∀ a o, C.H0 a = some o → C.T.bx ≠ some a → H a = some o
  box : ∀ b, C.T.bx = some b → C.Z b ∧ BoxAt H b n
  slf : ∀ (p : Addr), C.slf = some p → ∀ (i : Nat) (q : Addr) (d : D), O i = some q → ρ[i]? = some (some (Sl.own d)) → isObjD d = true → q = p
  vis : Same C.B (hid C O H)
section
variable {C : Ctx} {ρ : En} {n : Nat} {σ : L2.St} {H H' : Hp} {O : Ow}
theorem hid_some {a : Addr} {o : HO} (h : hid C O H a = some o) : H a = some o ∧ ¬ C.Z a ∧ ∀ i, O i ≠ some a := by
  unfold hid at h
  split at h
  · cases h
  · rename_i q
    exact ⟨h, fun z => q (.inl z), fun i z => q (.inr ⟨i, z⟩)⟩
theorem hid_of {a : Addr} {o : HO} (h : H a = some o) (z : ¬ C.Z a) (q : ∀ i, O i ≠ some a) : hid C O H a = some o := by
  unfold hid
  rw [if_neg]
  · exact h
  · rintro (w | ⟨i, w⟩)
    · exact z w
    · exact q i w
theorem hid_le : Same (hid C O H) H := fun a o h => (hid_some h).1
theorem hid_same (s : Same H H') : Same (hid C O H) (hid C O H') := fun a o h => by
  obtain ⟨h1, h2, h3⟩ := hid_some h
  exact hid_of (s _ _ h1) h2 h3
/-- all but the box is kept -/
def Kb (T : Tab) (H H' : Hp) : Prop := ∀ a o, H a = some o → T.bx ≠ some a → H' a = some o
theorem Kb.of_same {T : Tab} (s : Same H H') : Kb T H H' := fun a o h _ => s a o h
theorem Kb.refl {T : Tab} : Kb T H H := fun a o h _ => h
theorem Kb.trans {T : Tab} {H1 H2 H3 : Hp} (a : Kb T H1 H2) (b : Kb T H2 H3) : Kb T H1 H3 := fun x o h n => b x o (a x o h n) n
theorem Ev.nbx (E : Ev C ρ n σ H O) {i : Nat} {p : Addr} (h : O i = some p) : C.T.bx ≠ some p := fun z => by
  have h1 := (E.only i p h).2
  obtain ⟨o, h2⟩ := E.zs p (E.box p z).1
  rw [h1] at h2
  cases h2
theorem Ev.hidKb (E : Ev C ρ n σ H O) (s : Kb C.T H H') : Same (hid C O H) (hid C O H') := fun a o h => by
  obtain ⟨h1, h2, h3⟩ := hid_some h
  exact hid_of (s _ _ h1 fun z => h2 (E.box a z).1) h2 h3
theorem Ev.extB {n' : Nat} (E : Ev C ρ n σ H O) (s : Kb C.T H H') (hb : ∀ b, C.T.bx = some b → BoxAt H' b n') : Ev C ρ n' σ H' O where
  len := E.len
  val := fun i d e => let ⟨v, h1, h2⟩ := E.val i d e; ⟨v, h1, h2.same (E.hidKb s)⟩
  own := fun i d e => by
    obtain ⟨p, h1, h2, h3⟩ := E.own i d e
    obtain ⟨o, ho⟩ := h3.some
    exact ⟨p, h1, h2, h3.same (E.hidKb s) ((s _ _ ho (E.nbx h1)).trans ho.symm)⟩
  only := E.only
  inj := E.inj
  zs := E.zs
  zt := E.zt
  keep := fun a o h z => s _ _ (E.keep a o h z) z
  box := fun b h => ⟨(E.box b h).1, hb b h⟩
  slf := E.slf
  vis := E.vis.trans (E.hidKb s)
theorem BoxAt.same {b : Addr} (h : BoxAt H b n) (s : Same H H') : BoxAt H' b n := let ⟨A, B, C, e, r⟩ := h; ⟨A, B, C, s _ _ e, r⟩
theorem Ev.ext (E : Ev C ρ n σ H O) (s : Same H H') : Ev C ρ n σ H' O := E.extB (Kb.of_same s) fun b h => (E.box b h).2.same s
/-- a new address is nobody's -/
theorem Ev.fresh (E : Ev C ρ n σ H O) {p : Addr} (h : H p = none) : ¬ C.Z p ∧ (∀ i, O i ≠ some p) ∧ C.H0 p = none ∧ C.T.bx ≠ some p := by
  have h3 : C.T.bx ≠ some p := fun z => by
    obtain ⟨_, A, B, D, e, _⟩ := E.box p z
    rw [h] at e
    cases e
  have h4 : C.H0 p = none := by
    cases q : C.H0 p with
    | none => rfl
    | some o =>
      have := E.keep p o q h3
      rw [h] at this
      cases this
  refine ⟨fun z => ?_, fun i z => ?_, h4, h3⟩
  · obtain ⟨o, e⟩ := E.zs p z
    rw [h4] at e
    cases e
  · obtain ⟨⟨d, e⟩, _⟩ := E.only i p z
    obtain ⟨q, h1, _, h5⟩ := E.own i d e
    rw [z] at h1
    cases h1
    obtain ⟨o, ho⟩ := h5.some
    rw [h] at ho
    cases ho
theorem same_new {p : Addr} {o : HO} (h : H p = none) : Same H (upd H p o) := fun b x e => by
  rw [upd_ne (ne_of_none e h)]
  exact e
theorem Ev.new (E : Ev C ρ n σ H O) {p : Addr} {o : HO} (h : H p = none) : Ev C ρ n σ (upd H p o) O ∧ Same (hid C O H) (hid C O (upd H p o)) ∧ hid C O (upd H p o) p = some o := by
  have s := same_new (o := o) h
  obtain ⟨h1, h2, _⟩ := E.fresh h
  exact ⟨E.ext s, hid_same s, hid_of upd_same h1 h2⟩
/-- the slots of values -/
theorem lt_of_get {α : Type} {l : List α} {i : Nat} {x : α} (e : l[i]? = some x) : i < l.length := (List.getElem?_eq_some_iff.mp e).1
open Classical in
noncomputable def cutO (O : Ow) (i : Nat) : Ow := fun j => if j = i then none else O j
theorem cutO_some {i j : Nat} {p : Addr} (h : cutO O i j = some p) : j ≠ i ∧ O j = some p := by
  unfold cutO at h
  split at h
  · cases h
  · rename_i q
    exact ⟨q, h⟩
theorem hid_cut {i : Nat} : Same (hid C O H) (hid C (cutO O i) H) := fun a o h => by
  obtain ⟨h1, h2, h3⟩ := hid_some h
  exact hid_of h1 h2 fun j z => h3 j (cutO_some z).2
/-- a value is stored -/
theorem Ev.set (E : Ev C ρ n σ H O) {i : Nat} {v : V} {d : D} (hd : Is C.T (hid C O H) v d) : Ev C (ρ.set i (some (Sl.v d))) n (σ.set i (some v)) H (cutO O i) ∧ Same (hid C O H) (hid C (cutO O i) H) := by
  refine ⟨⟨?_, ?_, ?_, ?_, ?_, E.zs, E.zt, E.keep, E.box, fun p hp j q d h1 h2 h3 => (by
    obtain ⟨c, h1⟩ := cutO_some h1
    rw [List.getElem?_set_ne (Ne.symm c)] at h2
    exact E.slf p hp j q d h1 h2 h3), E.vis.trans hid_cut⟩, hid_cut⟩
  · rw [List.length_set, List.length_set, E.len]
  · intro j e h
    by_cases c : j = i
    · subst c
      have hl := lt_of_get h
      rw [List.length_set] at hl
      rw [List.getElem?_set_self hl] at h
      cases h
      rw [List.getElem?_set_self (by rw [← E.len]; exact hl)]
      exact ⟨v, rfl, hd.same hid_cut⟩
    · rw [List.getElem?_set_ne (Ne.symm c)] at h ⊢
      obtain ⟨u, h1, h2⟩ := E.val j e h
      exact ⟨u, h1, h2.same hid_cut⟩
  · intro j e h
    by_cases c : j = i
    · subst c
      have hl := lt_of_get h
      rw [List.length_set] at hl
      rw [List.getElem?_set_self hl] at h
      cases h
    · rw [List.getElem?_set_ne (Ne.symm c)] at h ⊢
      obtain ⟨p, h1, h2, h3⟩ := E.own j e h
      refine ⟨p, ?_, h2, h3.same hid_cut rfl⟩
      unfold cutO
      rw [if_neg c]
      exact h1
  · intro j p h
    obtain ⟨c, h⟩ := cutO_some h
    rw [List.getElem?_set_ne (Ne.symm c)]
    exact E.only j p h
  · intro j k p h1 h2
    exact E.inj j k p (cutO_some h1).2 (cutO_some h2).2
/-- a slot is forgotten -/
theorem Ev.wipe1 (E : Ev C ρ n σ H O) (i : Nat) : Ev C (ρ.set i none) n (σ.set i none) H (cutO O i) := by
  refine ⟨?_, ?_, ?_, ?_, ?_, E.zs, E.zt, E.keep, E.box, fun p hp j q d h1 h2 h3 => (by
    obtain ⟨c, h1⟩ := cutO_some h1
    rw [List.getElem?_set_ne (Ne.symm c)] at h2
    exact E.slf p hp j q d h1 h2 h3), E.vis.trans hid_cut⟩
  · rw [List.length_set, List.length_set, E.len]
  · intro j e h
    by_cases c : j = i
    · subst c
      have hl := lt_of_get h
      rw [List.length_set] at hl
      rw [List.getElem?_set_self hl] at h
      cases h
    · rw [List.getElem?_set_ne (Ne.symm c)] at h ⊢
      obtain ⟨u, h1, h2⟩ := E.val j e h
      exact ⟨u, h1, h2.same hid_cut⟩
  · intro j e h
    by_cases c : j = i
    · subst c
      have hl := lt_of_get h
      rw [List.length_set] at hl
      rw [List.getElem?_set_self hl] at h
      cases h
    · rw [List.getElem?_set_ne (Ne.symm c)] at h ⊢
      obtain ⟨p, h1, h2, h3⟩ := E.own j e h
      refine ⟨p, ?_, h2, h3.same hid_cut rfl⟩
      unfold cutO
      rw [if_neg c]
      exact h1
  · intro j p h
    obtain ⟨c, h⟩ := cutO_some h
    rw [List.getElem?_set_ne (Ne.symm c)]
    exact E.only j p h
  · intro j k p h1 h2
    exact E.inj j k p (cutO_some h1).2 (cutO_some h2).2
open Classical in
noncomputable def putO (O : Ow) (i : Nat) (p : Addr) : Ow := fun j => if j = i then some p else O j
theorem putO_some {i j : Nat} {p q : Addr} (h : putO O i p j = some q) : (j = i ∧ q = p) ∨ (j ≠ i ∧ O j = some q) := by
  unfold putO at h
  split at h
  · rename_i c
    exact .inl ⟨c, (Option.some.inj h).symm⟩
  · rename_i c
    exact .inr ⟨c, h⟩
theorem fresh_hid (E : Ev C ρ n σ H O) {p : Addr} {i : Nat} (h : H p = none) (s : Same H H') : Same (hid C O H) (hid C (putO O i p) H') := fun a o e => by
  obtain ⟨h1, h2, h3⟩ := hid_some e
  refine hid_of (s _ _ h1) h2 fun j z => ?_
  rcases putO_some z with ⟨_, e⟩ | ⟨_, e⟩
  · rw [e, h] at h1
    cases h1
  · exact h3 j e
/-- a new thing that this slot alone knows -/
theorem Ev.setOwn (E : Ev C ρ n σ H O) {i : Nat} {p : Addr} {d : D} (hi : i < ρ.length) (hn : H p = none) (s : Same H H') (hd : OwnAt C.T (hid C O H) H' p d) (no : isObjD d = false) :
    Ev C (ρ.set i (some (Sl.own d))) n (σ.set i (some (.ref p))) H' (putO O i p) ∧ Same (hid C O H) (hid C (putO O i p) H') := by
  have S := fresh_hid (i := i) E hn s
  obtain ⟨f1, f2, f3, f4⟩ := E.fresh hn
  refine ⟨⟨?_, ?_, ?_, ?_, ?_, E.zs, E.zt, fun a o h z => s _ _ (E.keep a o h z), fun b h => ⟨(E.box b h).1, (E.box b h).2.same s⟩, fun p' hp j q d' h1 h2 h3 => ?_, E.vis.trans S⟩, S⟩
  · rw [List.length_set, List.length_set, E.len]
  · intro j e h
    by_cases c : j = i
    · subst c
      rw [List.getElem?_set_self hi] at h
      cases h
    · rw [List.getElem?_set_ne (Ne.symm c)] at h ⊢
      obtain ⟨u, h1, h2⟩ := E.val j e h
      exact ⟨u, h1, h2.same S⟩
  · intro j e h
    by_cases c : j = i
    · subst c
      rw [List.getElem?_set_self hi] at h
      cases h
      rw [List.getElem?_set_self (by rw [← E.len]; exact hi)]
      refine ⟨p, ?_, rfl, hd.same S rfl⟩
      unfold putO
      rw [if_pos rfl]
    · rw [List.getElem?_set_ne (Ne.symm c)] at h ⊢
      obtain ⟨q, h1, h2, h3⟩ := E.own j e h
      obtain ⟨o, ho⟩ := h3.some
      refine ⟨q, ?_, h2, h3.same S ((s _ _ ho).trans ho.symm)⟩
      unfold putO
      rw [if_neg c]
      exact h1
  · intro j q h
    rcases putO_some h with ⟨rfl, rfl⟩ | ⟨c, h⟩
    · rw [List.getElem?_set_self hi]
      exact ⟨⟨d, rfl⟩, f3⟩
    · rw [List.getElem?_set_ne (Ne.symm c)]
      exact E.only j q h
  · intro j k q h1 h2
    rcases putO_some h1 with ⟨a1, a2⟩ | ⟨c, a1⟩
    · rcases putO_some h2 with ⟨b1, _⟩ | ⟨_, b1⟩
      · rw [a1, b1]
      · exact absurd (a2 ▸ b1) (f2 k)
    · rcases putO_some h2 with ⟨_, b2⟩ | ⟨_, b1⟩
      · exact absurd (b2 ▸ a1) (f2 j)
      · exact E.inj j k q a1 b1
  · rcases putO_some h1 with ⟨rfl, rfl⟩ | ⟨c, h1⟩
    · rw [List.getElem?_set_self hi] at h2
      cases h2
      rw [no] at h3
      cases h3
    · rw [List.getElem?_set_ne (Ne.symm c)] at h2
      exact E.slf p' hp j q d' h1 h2 h3
/-- the thing of an own slot changes -/
theorem Ev.chg (E : Ev C ρ n σ H O) {i : Nat} {p : Addr} {d : D} {o : HO} (hi : i < ρ.length) (hO : O i = some p) (hd : OwnAt C.T (hid C O H) (upd H p o) p d) (ho : isObjD d = true → ∃ d0, ρ[i]? = some (some (Sl.own d0)) ∧ isObjD d0 = true := by exact fun h => nomatch h) :
    Ev C (ρ.set i (some (Sl.own d))) n σ (upd H p o) O ∧ Same (hid C O H) (hid C O (upd H p o)) := by
  have S : Same (hid C O H) (hid C O (upd H p o)) := fun a u e => by
    obtain ⟨h1, h2, h3⟩ := hid_some e
    refine hid_of ?_ h2 h3
    rw [upd_ne fun z => h3 i (by rw [z]; exact hO)]
    exact h1
  have hs : σ[i]? = some (some (.ref p)) := by
    obtain ⟨d', e⟩ := (E.only i p hO).1
    obtain ⟨q, h1, h2, _⟩ := E.own i d' e
    rw [hO] at h1
    cases h1
    exact h2
  refine ⟨⟨?_, ?_, ?_, ?_, E.inj, E.zs, E.zt, fun a u h z => ?_, fun b h => ⟨(E.box b h).1, ?_⟩, fun p' hp j q d' h1 h2 h3 => ?_, E.vis.trans S⟩, S⟩
  · rw [List.length_set, E.len]
  · intro j e h
    by_cases c : j = i
    · subst c
      rw [List.getElem?_set_self hi] at h
      cases h
    · rw [List.getElem?_set_ne (Ne.symm c)] at h
      obtain ⟨u, h1, h2⟩ := E.val j e h
      exact ⟨u, h1, h2.same S⟩
  · intro j e h
    by_cases c : j = i
    · subst c
      rw [List.getElem?_set_self hi] at h
      cases h
      exact ⟨p, hO, hs, hd.same S rfl⟩
    · rw [List.getElem?_set_ne (Ne.symm c)] at h
      obtain ⟨q, h1, h2, h3⟩ := E.own j e h
      refine ⟨q, h1, h2, h3.same S (upd_ne fun z => c (E.inj j i p (z ▸ h1) hO))⟩
  · intro j q h
    by_cases c : j = i
    · subst c
      rw [List.getElem?_set_self hi]
      exact ⟨⟨d, rfl⟩, (E.only j q h).2⟩
    · rw [List.getElem?_set_ne (Ne.symm c)]
      exact E.only j q h
  · rw [upd_ne fun q => ?_]
    · exact E.keep a u h z
    · rw [q, (E.only i p hO).2] at h
      cases h
  · obtain ⟨A, B, D, e, r⟩ := (E.box b h).2
    refine ⟨A, B, D, ?_, r⟩
    rw [upd_ne fun z => E.nbx hO (h.trans (congrArg some z))]
    exact e
  · by_cases c : j = i
    · subst c
      rw [List.getElem?_set_self hi] at h2
      cases h2
      obtain ⟨d0, e0, e1⟩ := ho h3
      exact E.slf p' hp j q d0 h1 e0 e1
    · rw [List.getElem?_set_ne (Ne.symm c)] at h2
      exact E.slf p' hp j q d' h1 h2 h3
/-- an own slot becomes a value: its list -/
theorem Ev.frz (E : Ev C ρ n σ H O) {i : Nat} {v : V} {d : D} (hi : i < ρ.length) (hs : σ[i]? = some (some v)) (hd : Is C.T (hid C (cutO O i) H) v d) : Ev C (ρ.set i (some (Sl.v d))) n σ H (cutO O i) := by
  refine ⟨?_, ?_, ?_, ?_, ?_, E.zs, E.zt, E.keep, E.box, fun p hp j q d h1 h2 h3 => (by
    obtain ⟨c, h1⟩ := cutO_some h1
    rw [List.getElem?_set_ne (Ne.symm c)] at h2
    exact E.slf p hp j q d h1 h2 h3), E.vis.trans hid_cut⟩
  · rw [List.length_set, E.len]
  · intro j e h
    by_cases c : j = i
    · subst c
      rw [List.getElem?_set_self hi] at h
      cases h
      exact ⟨v, hs, hd⟩
    · rw [List.getElem?_set_ne (Ne.symm c)] at h
      obtain ⟨u, h1, h2⟩ := E.val j e h
      exact ⟨u, h1, h2.same hid_cut⟩
  · intro j e h
    by_cases c : j = i
    · subst c
      rw [List.getElem?_set_self hi] at h
      cases h
    · rw [List.getElem?_set_ne (Ne.symm c)] at h
      obtain ⟨p, h1, h2, h3⟩ := E.own j e h
      refine ⟨p, ?_, h2, h3.same hid_cut rfl⟩
      unfold cutO
      rw [if_neg c]
      exact h1
  · intro j p h
    obtain ⟨c, h⟩ := cutO_some h
    rw [List.getElem?_set_ne (Ne.symm c)]
    exact E.only j p h
  · intro j k p h1 h2
    exact E.inj j k p (cutO_some h1).2 (cutO_some h2).2
/-- a tuple is hidden from nobody -/
theorem Ev.tup (E : Ev C ρ n σ H O) {a : Addr} {xs : List V} (h : H a = some (.tup xs)) : hid C O H a = some (.tup xs) := by
  refine hid_of h (fun z => ?_) fun i z => ?_
  · by_cases c : C.T.bx = some a
    · obtain ⟨A, B, F, e, _⟩ := (E.box a c).2
      rw [h] at e
      cases e
    · obtain ⟨o, ho⟩ := E.zs a z
      have := E.keep a o ho c
      rw [h] at this
      cases this
      exact E.zt a xs z ho
  · obtain ⟨⟨d, e⟩, _⟩ := E.only i a z
    obtain ⟨p, h1, _, h3⟩ := E.own i d e
    rw [z] at h1
    cases h1
    exact h3.notup xs h
end
end RM
namespace RM
open PySem PySem.Spec PyProof.Rows L2 CS RZ
/-! ### readings over data -/
abbrev Xv := Nat × List (D × D)
abbrev KE := Xv → En → Nat → Prop
abbrev CE := En → Nat → (D → En → Nat → Prop) → KE → Prop
abbrev CA := En → Nat → (List D → En → Nat → Prop) → KE → Prop
abbrev CT := En → Nat → (Bool → En → Nat → Prop) → KE → Prop
def XIs (T : Tab) (Hh : Hp) (dd : Option Addr) (fs : List (D × D)) : Prop := (dd = none ∧ fs = []) ∨ ∃ a us, dd = some a ∧ Hh a = some (.xd us) ∧ IsF T Hh us fs
theorem XIs.same {T : Tab} {H H' : Hp} {dd : Option Addr} {fs : List (D × D)} (h : XIs T H dd fs) (s : Same H H') : XIs T H' dd fs := by
  rcases h with h | ⟨a, us, e, h1, h2⟩
  · exact .inl h
  · exact .inr ⟨a, us, e, s _ _ h1, h2.same s⟩
def XL (C : Ctx) (xk : WX) (ke : KE) : Prop := ∀ (c : Nat) (fs : List (D × D)) (ρ : En) (n : Nat) (σ : L2.St) (H : Hp) (O : Ow) (dd : Option Addr), ke (c, fs) ρ n → Ev C ρ n σ H O → XIs C.T (hid C O H) dd fs → xk (.ref (C.T.cls c)) dd σ H
/-- the written part and the classes by number -/
structure Glob where
  K : PySem.W.Frag
  cls : Nat → Addr
def Ctx.On (C : Ctx) (g : Glob) : Prop := C.T.K = g.K ∧ C.T.cls = g.cls
def xF : WX := fun _ _ _ _ => False
def lift (g : Glob) (xk : WX) (td : CE) : TE := fun σ H Q => ∃ (C : Ctx) (ρ : En) (n : Nat) (O : Ow) (k : D → En → Nat → Prop) (ke : KE), C.On g ∧ Ev C ρ n σ H O ∧ td ρ n k ke ∧ XL C xk ke ∧
  ∀ (d : D) (ρ' : En) (n' : Nat) (v : V) (H' : Hp) (O' : Ow), k d ρ' n' → Ev C ρ' n' σ H' O' → Same (hid C O H) (hid C O' H') → Is C.T (hid C O' H') v d → Q v H'
def liftT (g : Glob) (xk : WX) (td : CT) : TT := fun σ H Q => ∃ (C : Ctx) (ρ : En) (n : Nat) (O : Ow) (k : Bool → En → Nat → Prop) (ke : KE), C.On g ∧ Ev C ρ n σ H O ∧ td ρ n k ke ∧ XL C xk ke ∧
  ∀ (b : Bool) (ρ' : En) (n' : Nat) (H' : Hp) (O' : Ow), k b ρ' n' → Ev C ρ' n' σ H' O' → Same (hid C O H) (hid C O' H') → Q b H'
def liftA (g : Glob) (xk : WX) (td : CA) : TA := fun σ H Q => ∃ (C : Ctx) (ρ : En) (n : Nat) (O : Ow) (k : List D → En → Nat → Prop) (ke : KE), C.On g ∧ Ev C ρ n σ H O ∧ td ρ n k ke ∧ XL C xk ke ∧
  ∀ (ds : List D) (ρ' : En) (n' : Nat) (vs : List V) (H' : Hp) (O' : Ow), k ds ρ' n' → Ev C ρ' n' σ H' O' → Same (hid C O H) (hid C O' H') → IsL C.T (hid C O' H') vs ds → Q vs H'
/-- a new thing at p, of which nobody else knows -/
def liftF (g : Glob) (xk : WX) (td : CE) : TE := fun σ H Q => ∃ (C : Ctx) (ρ : En) (n : Nat) (O : Ow) (k : D → En → Nat → Prop) (ke : KE), C.On g ∧ Ev C ρ n σ H O ∧ td ρ n k ke ∧ XL C xk ke ∧
  ∀ (d : D) (ρ' : En) (n' : Nat) (p : Addr) (H1 H' : Hp) (O' : Ow), k d ρ' n' → Ev C ρ' n' σ H1 O' → Same (hid C O H) (hid C O' H1) → H1 p = none → Same H1 H' → OwnAt C.T (hid C O' H1) H' p d → isObjD d = false → Q (.ref p) H'
structure Good (X : Cx) (g : Glob) : Prop where
  K : g.K = X.K
structure PD (X : Cx) (g : Glob) (xk : WX) (e : Expr) (td : CE) : Prop where
  pe : PE X e (lift g xk td)
structure PDT (X : Cx) (g : Glob) (xk : WX) (e : Expr) (td : CT) : Prop where
  pt : PT X e (liftT g xk td)
structure PDA (X : Cx) (g : Glob) (xk : WX) (es : List Expr) (td : CA) : Prop where
  pa : PA X es (liftA g xk td)
structure PDF (X : Cx) (g : Glob) (xk : WX) (e : Expr) (td : CE) : Prop where
  pe : PE X e (liftF g xk td)
theorem PE.imp {X : Cx} {e : Expr} {t t' : TE} (h : PE X e t) (q : ∀ σ H Q, t' σ H Q → t σ H Q) : PE X e t' := ⟨fun pins s σ H Q I r => h.run pins s σ H Q I (q _ _ _ r)⟩
theorem PT.imp {X : Cx} {e : Expr} {t t' : TT} (h : PT X e t) (q : ∀ σ H Q, t' σ H Q → t σ H Q) : PT X e t' := ⟨fun pins s σ H Q I r => h.run pins s σ H Q I (q _ _ _ r)⟩
theorem PA.imp {X : Cx} {e : List Expr} {t t' : TA} (h : PA X e t) (q : ∀ σ H Q, t' σ H Q → t σ H Q) : PA X e t' := ⟨fun pos pins s σ H Q I r => h.run pos pins s σ H Q I (q _ _ _ r)⟩
theorem Dp.len {K : PySem.W.Frag} {H : Hp} : True := trivial
def lim : Nat := 10000000
theorem lim_le {n : Nat} (h : n ≤ lim) : n ≤ sizeLine := Nat.le_trans h (by decide)
theorem lim_lt {n : Nat} (h : n < lim) : n < sizeLine := Nat.lt_of_lt_of_le h (by decide)
section
variable {X : Cx} {g : Glob} {C : Ctx} {xk : WX} {pos : Pos}
/-! ### names -/
def cVar (i : Nat) : CE := fun ρ n k _ => match ρ[i]? with
  | some (some (Sl.v d)) => k d ρ n
  | some (some (Sl.own d)) => k d (ρ.set i (some (Sl.v d))) n
  | _ => False
theorem same_at {ρ : En} {n : Nat} {σ : L2.St} {H : Hp} {O : Ow} {i : Nat} {p : Addr} {u : HO} (E : Ev C ρ n σ H O) (hO : O i = some p) : Same (hid C O H) (hid C O (upd H p u)) := fun a o w => by
  obtain ⟨w1, w2, w3⟩ := hid_some w
  have ne : a ≠ p := fun z => w3 i (z ▸ hO)
  refine hid_of ?_ w2 w3
  rw [upd_ne ne]
  exact w1
theorem melt2 {ρ : En} {n : Nat} {σ : L2.St} {H : Hp} {O : Ow} {i : Nat} {p : Addr} {d d0 : D} {u : HO} (E : Ev C ρ n σ H O) (e : ρ[i]? = some (some (Sl.own d0))) (hO : O i = some p) (hs : σ[i]? = some (some (.ref p))) (is : Is C.T (hid C (cutO O i) (upd H p u)) (.ref p) d) :
    Ev C (ρ.set i (some (Sl.v d))) n σ (upd H p u) (cutO O i) ∧ Same (hid C O H) (hid C (cutO O i) (upd H p u)) := by
  have hi := lt_of_get e
  have S1 := same_at (u := u) E hO
  refine ⟨⟨?_, ?_, ?_, ?_, ?_, E.zs, E.zt, ?_, ?_, fun p hp j q d h1 h2 h3 => (by
    obtain ⟨c, h1⟩ := cutO_some h1
    rw [List.getElem?_set_ne (Ne.symm c)] at h2
    exact E.slf p hp j q d h1 h2 h3), E.vis.trans (S1.trans hid_cut)⟩, S1.trans hid_cut⟩
  · rw [List.length_set, E.len]
  · intro j d' h
    by_cases c : j = i
    · subst c
      rw [List.getElem?_set_self hi] at h
      cases h
      exact ⟨_, hs, is⟩
    · rw [List.getElem?_set_ne (Ne.symm c)] at h
      obtain ⟨v, a1, a2⟩ := E.val j d' h
      exact ⟨v, a1, (a2.same S1).same hid_cut⟩
  · intro j d' h
    by_cases c : j = i
    · subst c
      rw [List.getElem?_set_self hi] at h
      cases h
    · rw [List.getElem?_set_ne (Ne.symm c)] at h
      obtain ⟨q, a1, a2, a3⟩ := E.own j d' h
      have ne : q ≠ p := fun z => c (E.inj j i p (z ▸ a1) hO)
      refine ⟨q, ?_, a2, (a3.same S1 (upd_ne ne)).same hid_cut rfl⟩
      unfold cutO
      rw [if_neg c]
      exact a1
  · intro j q h
    obtain ⟨c, h⟩ := cutO_some h
    rw [List.getElem?_set_ne (Ne.symm c)]
    exact E.only j q h
  · intro j k q h1 h2
    exact E.inj j k q (cutO_some h1).2 (cutO_some h2).2
  · intro a o h z
    have ne : a ≠ p := fun q => by
      rw [q, (E.only i p hO).2] at h
      cases h
    rw [upd_ne ne]
    exact E.keep a o h z
  · intro b h
    obtain ⟨A, B, F, e', r'⟩ := (E.box b h).2
    have ne : b ≠ p := fun q => E.nbx hO (h.trans (congrArg some q))
    exact ⟨(E.box b h).1, A, B, F, by rw [upd_ne ne]; exact e', r'⟩
/-- what was a frame's own turns into a value: dicts are locked -/
theorem melt {pins : List (Addr × Obj)} {ρ : En} {n : Nat} {σ : L2.St} {H : Hp} {O : Ow} {s : Shared} {i : Nat} {p : Addr} {d : D} (E : Ev C ρ n σ H O) (I : Inv X pins σ H s) (e : ρ[i]? = some (some (Sl.own d))) (hO : O i = some p) :
    ∃ H', Inv X pins σ H' s ∧ Ev C (ρ.set i (some (Sl.v d))) n σ H' (cutO O i) ∧ Same (hid C O H) (hid C (cutO O i) H') ∧ Is C.T (hid C (cutO O i) H') (.ref p) d ∧ σ[i]? = some (some (.ref p)) := by
  obtain ⟨q, h1, h2, h3⟩ := E.own i d e
  rw [hO] at h1
  cases h1
  have hi := lt_of_get e
  have pz : ¬ C.Z p := fun z => by
    obtain ⟨o, u⟩ := E.zs p z
    rw [(E.only i p hO).2] at u
    cases u
  have pn : ∀ j, cutO O i j ≠ some p := fun j z => by
    obtain ⟨c, z⟩ := cutO_some z
    exact c (E.inj j i p z hO)
  cases h3 with
  | lst g r =>
    have is : Is C.T (hid C (cutO O i) H) (.ref p) (.list _) := .lst (hid_of g pz pn) (r.same hid_cut)
    exact ⟨H, I, E.frz hi h2 is, hid_cut, is, h2⟩
  | @obj dx c us fs g g2 r =>
    have is : Is C.T (hid C (cutO O i) H) (.ref p) (.dict ((.none, .int (c : Nat)) :: fs)) := .obj (hid_of g pz pn) (hid_cut _ _ g2) (r.same hid_cut)
    exact ⟨H, I, E.frz hi h2 is, hid_cut, is, h2⟩
  | @dk kvs ks g r =>
    obtain ⟨od, J⟩ := I.lock g trivial
    have is : Is C.T (hid C (cutO O i) (upd H p (.frz od (.dK kvs)))) (.ref p) (.dict ((.none, .bool false) :: ks)) := .dk (.inr ⟨od, hid_of upd_same pz pn⟩) ((r.same (same_at E hO)).same hid_cut)
    obtain ⟨a, b⟩ := melt2 E e hO h2 is
    exact ⟨_, J, a, b, is, h2⟩
  | @dt kvs ks g r =>
    obtain ⟨od, J⟩ := I.lock g trivial
    have is : Is C.T (hid C (cutO O i) (upd H p (.frz od (.dT kvs)))) (.ref p) (.dict ((.none, .bool true) :: ks)) := .dt (.inr ⟨od, hid_of upd_same pz pn⟩) ((r.same (same_at E hO)).same hid_cut)
    obtain ⟨a, b⟩ := melt2 E e hO h2 is
    exact ⟨_, J, a, b, is, h2⟩
theorem pd_var (i : Nat) {x : Str} (hN : X.N[i]? = some x := by rfl) (hv : Vis X.env.scope x := by first | exact Or.inl rfl | exact Or.inr (Or.inl rfl) | exact Or.inr (Or.inr rfl)) (hd : (x == ("__debug__" : Str)) = false := by decide)
    (hcd : (x == ("__classdict__" : Str)) = false := by decide) : PD X g xk (.Name x pos) (cVar i) := by
  refine ⟨⟨fun pins s σ H Q I h => ?_⟩⟩
  obtain ⟨C, ρ, n, O, k, ke, hK, E, t, _, q⟩ := h
  unfold cVar at t
  split at t
  · rename_i d e
    obtain ⟨v, h1, h2⟩ := E.val i d e
    exact (pe_var hN hv hd hcd).run pins s σ H Q I ⟨v, h1, q _ _ _ _ _ _ t E (Same.refl _) h2⟩
  · rename_i d e
    obtain ⟨p, h1, _⟩ := E.own i d e
    obtain ⟨H', J, E', S, is, hs⟩ := melt E I e h1
    exact (pe_var hN hv hd hcd).run pins s σ H' Q J ⟨_, hs, q _ _ _ _ _ _ t E' S is⟩
  · exact t.elim
/-! ### constants -/
def cC (d : D) : CE := fun ρ n k _ => k d ρ n
theorem pd_c {e : Expr} {v : V} {d : D} (h : PE X e (tC v)) (hd : ∀ T H, Is T H v d) : PD X g xk e (cC d) := ⟨PE.imp h fun σ H Q ⟨C, ρ, n, O, k, ke, hK, E, t, _, q⟩ => q _ _ _ _ _ _ t E (Same.refl _) (hd _ _)⟩
theorem pd_int {i : Int} {j} : PD X g xk (.Constant (.int i) j pos) (cC (.int i)) := pd_c pe_int fun _ _ => .int i
theorem pd_str {i : Str} {j} : PD X g xk (.Constant (.str i) j pos) (cC (.str i)) := pd_c pe_str fun _ _ => .str i
theorem pd_bl {i : Bool} {j} : PD X g xk (.Constant (.bool i) j pos) (cC (.bool i)) := pd_c pe_bl fun _ _ => .bl i
theorem pd_non {j} : PD X g xk (.Constant .none j pos) (cC .none) := pd_c pe_non fun _ _ => .non
/-! ### lists of expressions, displays -/
def cNil : CA := fun ρ n k _ => k [] ρ n
def cCons (t : CE) (u : CA) : CA := fun ρ n k ke => t ρ n (fun d ρ1 n1 => u ρ1 n1 (fun ds ρ2 n2 => k (d :: ds) ρ2 n2) ke) ke
theorem pda_nil : PDA X g xk [] cNil := ⟨PA.imp pa_nil fun σ H Q ⟨C, ρ, n, O, k, ke, hK, E, t, _, q⟩ => q _ _ _ _ _ _ t E (Same.refl _) .nil⟩
theorem pda_cons {e : Expr} {es : List Expr} {t : CE} {u : CA} (ha : PD X g xk e t) (hr : PDA X g xk es u) (hs : starEach (e :: es) X.env = (false, eval e X.env) :: starEach es X.env := by rfl) : PDA X g xk (e :: es) (cCons t u) :=
  ⟨PA.imp (pa_cons ha.pe hr.pa hs) fun σ H Q ⟨C, ρ, n, O, k, ke, hK, E, t, x, q⟩ => ⟨C, ρ, n, O, _, ke, hK, E, t, x, fun d ρ1 n1 v H1 O1 k1 E1 S1 i1 => ⟨C, ρ1, n1, O1, _, ke, hK, E1, k1, x, fun ds ρ2 n2 vs H2 O2 k2 E2 S2 i2 =>
    q _ _ _ _ _ _ k2 E2 (S1.trans S2) (.cons (i1.same S2) i2)⟩⟩⟩
def cTup (ta : CA) : CE := fun ρ n k ke => ta ρ n (fun ds ρ' n' => ds.length ≤ lim ∧ k (.tuple ds) ρ' n') ke
def cLst (ta : CA) : CE := fun ρ n k ke => ta ρ n (fun ds ρ' n' => ds.length ≤ lim ∧ k (.list ds) ρ' n') ke
theorem pd_tup {es : List Expr} {ta : CA} {x1} (h : PDA X g xk es ta) : PD X g xk (.Tuple es x1 pos) (cTup ta) :=
  ⟨PE.imp (pe_tup h.pa) fun σ H Q ⟨C, ρ, n, O, k, ke, hK, E, t, x, q⟩ => ⟨C, ρ, n, O, _, ke, hK, E, t, x, fun ds ρ1 n1 vs H1 O1 k1 E1 S1 i1 => ⟨by rw [i1.length]; exact lim_le k1.1, fun p hp => by
    obtain ⟨a, b, c⟩ := E1.new (o := .tup vs) hp
    exact q _ _ _ _ _ _ k1.2 a (S1.trans b) (.tup (.inl (.inl c)) (i1.same b))⟩⟩⟩
theorem pf_lst {es : List Expr} {ta : CA} (h : PDA X g xk es ta) : PDF X g xk (.List es pos) (cLst ta) :=
  ⟨PE.imp (pe_lst h.pa) fun σ H Q ⟨C, ρ, n, O, k, ke, hK, E, t, x, q⟩ => ⟨C, ρ, n, O, _, ke, hK, E, t, x, fun ds ρ1 n1 vs H1 O1 k1 E1 S1 i1 => ⟨by rw [i1.length]; exact lim_le k1.1, fun p hp =>
    q _ _ _ _ _ _ _ k1.2 E1 S1 hp (same_new hp) (.lst upd_same i1) rfl⟩⟩⟩
/-- a new thing used as a value -/
theorem PDF.pd {e : Expr} {td : CE} (h : PDF X g xk e td) (nd : True := trivial) : PD X g xk e td := by
  refine ⟨⟨fun pins s σ H Q I r => ?_⟩⟩
  obtain ⟨C, ρ, n, O, k, ke, hK, E, t, x, q⟩ := r
  refine thn (h.pe.run pins s σ H (fun v H' => ∃ (d : D) (ρ' : En) (n' : Nat) (p : Addr) (H1 : Hp) (O' : Ow), v = .ref p ∧ k d ρ' n' ∧ Ev C ρ' n' σ H1 O' ∧ Same (hid C O H) (hid C O' H1) ∧ H1 p = none ∧ Same H1 H' ∧ OwnAt C.T (hid C O' H1) H' p d) I
    ⟨C, ρ, n, O, k, ke, hK, E, t, x, fun d ρ' n' p H1 H' O' a b c d' e f _ => ⟨d, ρ', n', p, H1, O', rfl, a, b, c, d', e, f⟩⟩) fun u s' ⟨v, H', J, rv, d, ρ', n', p, H1, O', ev, kk, E', S, hn, s1, ow⟩ => ?_
  subst ev
  obtain ⟨f1, f2, _, _⟩ := E'.fresh hn
  cases ow with
  | lst g r => exact ⟨_, _, J, rv, q _ _ _ _ _ _ kk (E'.ext s1) (S.trans (hid_same s1)) (.lst (hid_of g f1 f2) (r.same (hid_same s1)))⟩
  | obj g g2 r => exact ⟨_, _, J, rv, q _ _ _ _ _ _ kk (E'.ext s1) (S.trans (hid_same s1)) (.obj (hid_of g f1 f2) (hid_same s1 _ _ g2) (r.same (hid_same s1)))⟩
  | @dk kvs ks g r =>
    obtain ⟨od, J2⟩ := J.lock g trivial
    have s2 : Same H1 (upd H' p (.frz od (.dK kvs))) := fun b o w => by
      rw [upd_ne (ne_of_none w hn)]
      exact s1 _ _ w
    exact ⟨_, _, J2, rv, q _ _ _ _ _ _ kk (E'.ext s2) (S.trans (hid_same s2)) (.dk (.inr ⟨od, hid_of upd_same f1 f2⟩) (r.same (hid_same s2)))⟩
  | @dt kvs ks g r =>
    obtain ⟨od, J2⟩ := J.lock g trivial
    have s2 : Same H1 (upd H' p (.frz od (.dT kvs))) := fun b o w => by
      rw [upd_ne (ne_of_none w hn)]
      exact s1 _ _ w
    exact ⟨_, _, J2, rv, q _ _ _ _ _ _ kk (E'.ext s2) (S.trans (hid_same s2)) (.dt (.inr ⟨od, hid_of upd_same f1 f2⟩) (r.same (hid_same s2)))⟩
/-! ### operators -/
/-- the result's own objects are new -/
def NewQ (T : Tab) (Hh H : Hp) (z : D) (Q : VK) : Prop := ∀ (v : V) (H' : Hp), Same H H' → (∀ Hx, Same Hh Hx → (∀ a o, H' a = some o → H a = none → Hx a = some o) → Is T Hx v z) → Q v H'
theorem NewQ.flat {T : Tab} {Hh H : Hp} {z : D} {Q : VK} {v : V} (h : NewQ T Hh H z Q) (i : ∀ Hx, Is T Hx v z) : Q v H := h v H (Same.refl _) fun Hx _ _ => i Hx
def OpD (X : Cx) (f : Value → Value → Sem Value) (g : D → D → Option D) : Prop := ∃ r, OpR X f r ∧ ∀ (T : Tab) (Hh H : Hp) (x y : V) (dx dy z : D) (Q : VK), T.K = X.K → Same Hh H → Is T Hh x dx → Is T Hh y dy → g dx dy = some z → NewQ T Hh H z Q → r x y H Q
def cOp (g : D → D → Option D) (ta tb : CE) : CE := fun ρ n k ke => ta ρ n (fun x ρ1 n1 => tb ρ1 n1 (fun y ρ2 n2 => ∃ z, g x y = some z ∧ k z ρ2 n2) ke) ke
theorem newq {ρ : En} {n : Nat} {σ : L2.St} {H : Hp} {O : Ow} {z : D} {Q : VK} (E : Ev C ρ n σ H O) (h : ∀ (v : V) (H' : Hp), Ev C ρ n σ H' O → Same (hid C O H) (hid C O H') → Is C.T (hid C O H') v z → Q v H') : NewQ C.T (hid C O H) H z Q := fun v H' s i =>
  h v H' (E.ext s) (hid_same s) (i _ (hid_same s) fun a o e1 e2 => let ⟨f1, f2, _, _⟩ := E.fresh e2; hid_of e1 f1 f2)
theorem op_use {f : Value → Value → Sem Value} {u : D → D → Option D} {ta tb : CE} {r : R2} (G : Good X g) (hg : ∀ (T : Tab) (Hh H : Hp) (x y : V) (dx dy z : D) (Q : VK), T.K = X.K → Same Hh H → Is T Hh x dx → Is T Hh y dy → u dx dy = some z → NewQ T Hh H z Q → r x y H Q)
    {σ : L2.St} {H : Hp} {Q : VK} (h : lift g xk (cOp u ta tb) σ H Q) : tOp r (lift g xk ta) (lift g xk tb) σ H Q := by
  obtain ⟨C, ρ, n, O, k, ke, hK, E, t, x, q⟩ := h
  refine ⟨C, ρ, n, O, _, ke, hK, E, t, x, fun d ρ1 n1 v H1 O1 k1 E1 S1 i1 => ⟨C, ρ1, n1, O1, _, ke, hK, E1, k1, x, fun d2 ρ2 n2 v2 H2 O2 k2 E2 S2 i2 => ?_⟩⟩
  obtain ⟨z, hz, k2⟩ := k2
  exact hg C.T (hid C O2 H2) H2 v v2 d d2 z Q (hK.1.trans G.K) hid_le (i1.same S2) i2 hz (newq E2 fun v3 H3 E3 S3 i3 => q _ _ _ _ _ _ k2 E3 ((S1.trans S2).trans S3) i3)
theorem pd_op {op : Operator} {u : D → D → Option D} {a b : Expr} {ta tb : CE} (ho : OpD X (binaryOp op) u) (G : Good X g) (ha : PD X g xk a ta) (hb : PD X g xk b tb) : PD X g xk (.BinOp a op b pos) (cOp u ta tb) := by
  obtain ⟨r, hr, hg⟩ := ho
  exact ⟨PE.imp (pe_op hr ha.pe hb.pe) fun σ H Q h => op_use (f := binaryOp op) G hg h⟩
theorem pd_cmp {op : CmpOp} {u : D → D → Option D} {a b : Expr} {ta tb : CE} (ho : OpD X (compareOp op) u) (G : Good X g) (ha : PD X g xk a ta) (hb : PD X g xk b tb) (hm : behindInMarks op b = false) : PD X g xk (.Compare a [op] [b] pos) (cOp u ta tb) := by
  obtain ⟨r, hr, hg⟩ := ho
  exact ⟨PE.imp (pe_cmpR hr ha.pe hb.pe hm) fun σ H Q h => op_use (f := compareOp op) G hg h⟩
/-! ### tests -/
/-- the truth of a value -/
def cB (t : CE) : CT := fun ρ n k ke => t ρ n (fun d ρ' n' => ∃ b, d = .bool b ∧ k b ρ' n') ke
theorem isBl {T : Tab} {H : Hp} {v : V} {b : Bool} (h : Is T H v (.bool b)) : v = .bl b := by
  cases h
  rfl
theorem pdt_cmp {op : CmpOp} {u : D → D → Option D} {a b : Expr} {ta tb : CE} (ho : OpD X (compareOp op) u) (G : Good X g) (ha : PD X g xk a ta) (hb : PD X g xk b tb) (hm : behindInMarks op b = false) : PDT X g xk (.Compare a [op] [b] pos) (cB (cOp u ta tb)) := by
  obtain ⟨r, hr, hg⟩ := ho
  refine ⟨PT.imp (pt_cmpR hr ha.pe hb.pe hm) fun σ H Q h => ?_⟩
  obtain ⟨C, ρ, n, O, k, ke, hK, E, t, x, q⟩ := h
  refine op_use (f := compareOp op) G hg ⟨C, ρ, n, O, _, ke, hK, E, t, x, fun d ρ1 n1 v H1 O1 k1 E1 S1 i1 => ?_⟩
  obtain ⟨b, rfl, k1⟩ := k1
  exact ⟨b, isBl i1, q _ _ _ _ _ k1 E1 S1⟩
theorem pdt_val {e : Expr} {t : CE} (h : PD X g xk e t) (he : ∀ whole, isTrue e X.env whole = (do let v ← whole; standAt e.pos; holding [v] (truthy v)) := by intro _; rfl) : PDT X g xk e (cB t) := by
  refine ⟨PT.imp (pt_val h.pe he) fun σ H Q r => ?_⟩
  obtain ⟨C, ρ, n, O, k, ke, hK, E, t, x, q⟩ := r
  refine ⟨C, ρ, n, O, _, ke, hK, E, t, x, fun d ρ1 n1 v H1 O1 k1 E1 S1 i1 => ?_⟩
  obtain ⟨b, rfl, k1⟩ := k1
  have e := isBl i1
  subst e
  exact ⟨b, rfl, q _ _ _ _ _ k1 E1 S1⟩
def cNotT (t : CT) : CT := fun ρ n k ke => t ρ n (fun b ρ' n' => k (!b) ρ' n') ke
theorem pdt_not {e : Expr} {t : CT} (h : PDT X g xk e t) : PDT X g xk (.UnaryOp .Not e pos) (cNotT t) :=
  ⟨PT.imp (pt_not h.pt) fun σ H Q ⟨C, ρ, n, O, k, ke, hK, E, t, x, q⟩ => ⟨C, ρ, n, O, _, ke, hK, E, t, x, fun b ρ1 n1 H1 O1 k1 E1 S1 => q _ _ _ _ _ k1 E1 S1⟩⟩
def cIf (tc : CT) (ta tb : CE) : CE := fun ρ n k ke => tc ρ n (fun b ρ' n' => if b = true then ta ρ' n' k ke else tb ρ' n' k ke) ke
theorem pd_if {c a b : Expr} {tc : CT} {ta tb : CE} (hc : PDT X g xk c tc) (ha : PD X g xk a ta) (hb : PD X g xk b tb) : PD X g xk (.IfExp c a b pos) (cIf tc ta tb) := by
  refine ⟨PE.imp (pe_ifExp hc.pt ha.pe hb.pe) fun σ H Q r => ?_⟩
  obtain ⟨C, ρ, n, O, k, ke, hK, E, t, x, q⟩ := r
  refine ⟨C, ρ, n, O, _, ke, hK, E, t, x, fun b ρ1 n1 H1 O1 k1 E1 S1 => ?_⟩
  cases b with
  | true => exact ⟨C, ρ1, n1, O1, k, ke, hK, E1, k1, x, fun d ρ2 n2 v H2 O2 k2 E2 S2 i2 => q _ _ _ _ _ _ k2 E2 (S1.trans S2) i2⟩
  | false => exact ⟨C, ρ1, n1, O1, k, ke, hK, E1, k1, x, fun d ρ2 n2 v H2 O2 k2 E2 S2 i2 => q _ _ _ _ _ _ k2 E2 (S1.trans S2) i2⟩
end
end RM
namespace RM
open PySem PySem.Spec PyProof.Rows L2 CS RZ
/-! ### what the operators make of data -/
def addD : D → D → Option D
  | .int i, .int j => some (.int (i + j))
  | .str a, .str b => if a.length + b.length ≤ lim then some (.str (a ++ b)) else none
  | .list a, .list b => if a.length + b.length ≤ lim then some (.list (a ++ b)) else none
  | .tuple a, .tuple b => if a.length + b.length ≤ lim then some (.tuple (a ++ b)) else none
  | _, _ => none
def subD : D → D → Option D
  | .int i, .int j => some (.int (i - j))
  | _, _ => none
def mulD : D → D → Option D
  | .int i, .int j => if (-(2 ^ 64) < i ∧ i < 2 ^ 64) ∨ (-(2 ^ 64) < j ∧ j < 2 ^ 64) then some (.int (i * j)) else none
  | _, _ => none
def powD : D → D → Option D
  | .int i, .int j => if 0 ≤ j ∧ j ≤ 1000000 ∧ i.natAbs < 2 ^ 64 then some (.int (i ^ j.toNat)) else none
  | _, _ => none
/-- what may be compared as data -/
def okE (d : D) : Bool := plain d && SeqAt.shaped d
def eqD (x y : D) : Option D := if (okE x && okE y) = true then some (.bool (PyData.eqv x y)) else none
def neD (x y : D) : Option D := if (okE x && okE y) = true then some (.bool (!PyData.eqv x y)) else none
def ltD : D → D → Option D
  | .int i, .int j => some (.bool (decide (i < j)))
  | .str i, .str j => some (.bool (decide (i.cps.toList < j.cps.toList)))
  | _, _ => none
def leD : D → D → Option D
  | .int i, .int j => some (.bool (decide (i ≤ j)))
  | _, _ => none
def gtD : D → D → Option D
  | .int i, .int j => some (.bool (decide (j < i)))
  | .str i, .str j => some (.bool (decide (j.cps.toList < i.cps.toList)))
  | _, _ => none
def noneB : D → Bool
  | .none => true
  | _ => false
/-- the keys of a marked dict -/
def keyD (ks : List (D × D)) (x : D) : Option D := (ks.find? fun kv => PyData.eqv kv.1 x).map (·.2)
def anyD (ds : List D) (x : D) : Bool := ds.any fun z => PyData.eqv z x
def memD (x : D) : D → Option Bool
  | .list ds => if (okE x && okE (.list ds)) = true then some (anyD ds x) else none
  | .tuple ds => if (okE x && okE (.tuple ds)) = true then some (anyD ds x) else none
  | _ => none
def inD (x y : D) : Option D := (memD x y).map .bool
section
variable {X : Cx}
theorem ifs {c : Prop} [Decidable c] {α : Type} {a b : α} (h : (if c then some a else none) = some b) : c ∧ a = b := by
  split at h
  · rename_i q
    exact ⟨q, Option.some.inj h⟩
  · cases h
theorem Is.int' {T : Tab} {H : Hp} {v : V} {i : Int} (h : Is T H v (.int i)) : v = .int i := by cases h; rfl
theorem Is.str' {T : Tab} {H : Hp} {v : V} {i : Str} (h : Is T H v (.str i)) : v = .str i := by cases h; rfl
theorem Is.list' {T : Tab} {H : Hp} {v : V} {ds : List D} (h : Is T H v (.list ds)) : ∃ a xs, v = .ref a ∧ H a = some (.lst xs) ∧ IsL T H xs ds := by
  cases h with
  | lst g r => exact ⟨_, _, rfl, g, r⟩
theorem Is.tup' {T : Tab} {H : Hp} {v : V} {ds : List D} (h : Is T H v (.tuple ds)) : ∃ a xs, v = .ref a ∧ SqT T.K H a xs ∧ IsL T H xs ds := by
  cases h with
  | tup g r => exact ⟨_, _, rfl, g, r⟩
theorem newL {T : Tab} {Hh H : Hp} {ds : List D} {xs : List V} {Q : VK} (q : NewQ T Hh H (.list ds) Q) (i : IsL T Hh xs ds) : ∀ p, H p = none → Q (.ref p) (upd H p (.lst xs)) := fun p hp =>
  q _ _ (same_new hp) fun Hx s1 s2 => .lst (s2 _ _ upd_same hp) (i.same s1)
theorem newT {T : Tab} {Hh H : Hp} {ds : List D} {xs : List V} {Q : VK} (q : NewQ T Hh H (.tuple ds) Q) (i : IsL T Hh xs ds) : ∀ p, H p = none → Q (.ref p) (upd H p (.tup xs)) := fun p hp =>
  q _ _ (same_new hp) fun Hx s1 s2 => .tup (.inl (.inl (s2 _ _ upd_same hp))) (i.same s1)
theorem oldV {T : Tab} {Hh H : Hp} {d : D} {v : V} {Q : VK} (q : NewQ T Hh H d Q) (i : Is T Hh v d) : Q v H := q _ _ (Same.refl _) fun Hx s1 _ => i.same s1
theorem od_add : OpD X (binaryOp .Add) addD := by
  refine ⟨_, op_add.or (op_add_str.or (op_cat.or op_catA)), fun T Hh H x y dx dy z Q hK s ix iy hg q => ?_⟩
  unfold addD at hg
  split at hg
  · cases hg
    rw [ix.int', iy.int']
    exact .inl ⟨_, _, rfl, rfl, q.flat fun _ => .int _⟩
  · obtain ⟨c, rfl⟩ := ifs hg
    rw [ix.str', iy.str']
    exact .inr (.inl ⟨_, _, rfl, rfl, lim_le c, q.flat fun _ => .str _⟩)
  · obtain ⟨c, rfl⟩ := ifs hg
    obtain ⟨a, xs, rfl, ha, ra⟩ := ix.list'
    obtain ⟨b, ys, rfl, hb, rb⟩ := iy.list'
    exact .inr (.inr (.inl ⟨a, b, xs, ys, rfl, rfl, s _ _ ha, s _ _ hb, by rw [ra.length, rb.length]; exact lim_le c, newL q (ra.append rb)⟩))
  · obtain ⟨c, rfl⟩ := ifs hg
    obtain ⟨a, xs, rfl, ha, ra⟩ := ix.tup'
    obtain ⟨b, ys, rfl, hb, rb⟩ := iy.tup'
    refine .inr (.inr (.inr ⟨a, b, xs, ys, rfl, rfl, hK ▸ sqt_same s ha, hK ▸ sqt_same s hb, by rw [ra.length, rb.length]; exact lim_le c, fun e => ?_, fun _ e => ?_, fun _ _ => newT q (ra.append rb)⟩))
    · subst e
      cases ra
      exact oldV q (.tup hb rb)
    · subst e
      cases rb
      rw [List.append_nil] at q
      exact oldV q (.tup ha ra)
  · cases hg
theorem od_sub : OpD X (binaryOp .Sub) subD := by
  refine ⟨_, op_sub, fun T Hh H x y dx dy z Q hK s ix iy hg q => ?_⟩
  unfold subD at hg
  split at hg
  · cases hg
    rw [ix.int', iy.int']
    exact ⟨_, _, rfl, rfl, q.flat fun _ => .int _⟩
  · cases hg
theorem od_mul : OpD X (binaryOp .Mult) mulD := by
  refine ⟨_, op_mul, fun T Hh H x y dx dy z Q hK s ix iy hg q => ?_⟩
  unfold mulD at hg
  split at hg
  · obtain ⟨c, rfl⟩ := ifs hg
    rw [ix.int', iy.int']
    exact ⟨_, _, rfl, rfl, c, q.flat fun _ => .int _⟩
  · cases hg
theorem okE2 {x y : D} (h : (okE x && okE y) = true) : plain x = true ∧ SeqAt.shaped x = true ∧ plain y = true ∧ SeqAt.shaped y = true := by
  unfold okE at h
  simp only [Bool.and_eq_true] at h
  exact ⟨h.1.1, h.1.2, h.2.1, h.2.2⟩
theorem od_eq (hu : X.A.units + 64 < cLine) : OpD X (compareOp .Eq) eqD := by
  refine ⟨_, op_eqD hu, fun T Hh H x y dx dy z Q hK s ix iy hg q => ?_⟩
  obtain ⟨c, rfl⟩ := ifs hg
  obtain ⟨p1, s1, p2, s2⟩ := okE2 c
  exact ⟨dx, dy, hK ▸ (ix.same s).dp p1, hK ▸ (iy.same s).dp p2, s1, s2, q.flat fun _ => .bl _⟩
theorem od_ne (hu : X.A.units + 64 < cLine) : OpD X (compareOp .NotEq) neD := by
  refine ⟨_, op_neD hu, fun T Hh H x y dx dy z Q hK s ix iy hg q => ?_⟩
  obtain ⟨c, rfl⟩ := ifs hg
  obtain ⟨p1, s1, p2, s2⟩ := okE2 c
  exact ⟨dx, dy, hK ▸ (ix.same s).dp p1, hK ▸ (iy.same s).dp p2, s1, s2, q.flat fun _ => .bl _⟩
theorem od_lt : OpD X (compareOp .Lt) ltD := by
  refine ⟨_, op_lt.or op_lt_str, fun T Hh H x y dx dy z Q hK s ix iy hg q => ?_⟩
  unfold ltD at hg
  split at hg
  · cases hg
    rw [ix.int', iy.int']
    exact .inl ⟨_, _, rfl, rfl, q.flat fun _ => .bl _⟩
  · cases hg
    rw [ix.str', iy.str']
    exact .inr ⟨_, _, rfl, rfl, q.flat fun _ => .bl _⟩
  · cases hg
theorem od_gt : OpD X (compareOp .Gt) gtD := by
  refine ⟨_, op_gt.or op_gt_str, fun T Hh H x y dx dy z Q hK s ix iy hg q => ?_⟩
  unfold gtD at hg
  split at hg
  · cases hg
    rw [ix.int', iy.int']
    exact .inl ⟨_, _, rfl, rfl, q.flat fun _ => .bl _⟩
  · cases hg
    rw [ix.str', iy.str']
    exact .inr ⟨_, _, rfl, rfl, q.flat fun _ => .bl _⟩
  · cases hg
theorem od_le : OpD X (compareOp .LtE) leD := by
  refine ⟨_, op_le, fun T Hh H x y dx dy z Q hK s ix iy hg q => ?_⟩
  unfold leD at hg
  split at hg
  · cases hg
    rw [ix.int', iy.int']
    exact ⟨_, _, rfl, rfl, q.flat fun _ => .bl _⟩
  · cases hg
/-! x in a tuple of data -/
end
end RM
namespace RM
open PySem PySem.Spec PyProof.Rows L2 CS RZ
/-! ### calls of built-ins -/
def CallD (X : Cx) (f : Value) (g : List D → D → Prop) : Prop := ∃ r, CallR X f r ∧ ∀ (T : Tab) (Hh H : Hp) (vs : List V) (ds : List D) (z : D) (Q : VK), T.K = X.K → Same Hh H → IsL T Hh vs ds → g ds z → NewQ T Hh H z Q → r vs H Q
/-- .. whose result is a new list -/
def CallF (X : Cx) (f : Value) (g : List D → List D → Prop) : Prop := ∃ r, CallR X f r ∧ ∀ (T : Tab) (Hh H : Hp) (vs : List V) (ds : List D) (z : List D) (Q : VK), T.K = X.K → Same Hh H → IsL T Hh vs ds → g ds z → (∀ xs, IsL T Hh xs z → ∀ p, H p = none → Q (.ref p) (upd H p (.lst xs))) → r vs H Q
def cCB (g : List D → D → Prop) (ta : CA) : CE := fun ρ n k ke => ta ρ n (fun ds ρ' n' => ∃ z, g ds z ∧ k z ρ' n') ke
def cCF (g : List D → List D → Prop) (ta : CA) : CE := fun ρ n k ke => ta ρ n (fun ds ρ' n' => ∃ z, g ds z ∧ k (.list z) ρ' n') ke
theorem CallD.or {X : Cx} {f : Value} {g g' : List D → D → Prop} (h : CallD X f g) (h' : CallD X f g') : CallD X f (fun ds z => g ds z ∨ g' ds z) := by
  obtain ⟨r, h1, h2⟩ := h
  obtain ⟨r', h1', h2'⟩ := h'
  exact ⟨_, h1.or h1', fun T Hh H vs ds z Q a b c d e => d.elim (fun d => .inl (h2 T Hh H vs ds z Q a b c d e)) fun d => .inr (h2' T Hh H vs ds z Q a b c d e)⟩
theorem CallF.or {X : Cx} {f : Value} {g g' : List D → List D → Prop} (h : CallF X f g) (h' : CallF X f g') : CallF X f (fun ds z => g ds z ∨ g' ds z) := by
  obtain ⟨r, h1, h2⟩ := h
  obtain ⟨r', h1', h2'⟩ := h'
  exact ⟨_, h1.or h1', fun T Hh H vs ds z Q a b c d e => d.elim (fun d => .inl (h2 T Hh H vs ds z Q a b c d e)) fun d => .inr (h2' T Hh H vs ds z Q a b c d e)⟩
section
variable {X : Cx} {g : Glob} {xk : WX} {pos p : Pos} {x : Str} {e : Expr} {es : List Expr} {ta : CA} {id : String} {u : List D → D → Prop} {gl : List D → List D → Prop}
theorem cb_use {r : List V → Hp → VK → Prop} (G : Good X g) (hg : ∀ (T : Tab) (Hh H : Hp) (vs : List V) (ds : List D) (z : D) (Q : VK), T.K = X.K → Same Hh H → IsL T Hh vs ds → u ds z → NewQ T Hh H z Q → r vs H Q)
    {σ : L2.St} {H : Hp} {Q : VK} (h : lift g xk (cCB u ta) σ H Q) : tCB r (liftA g xk ta) σ H Q := by
  obtain ⟨C, ρ, n, O, k, ke, hK, E, t, x, q⟩ := h
  refine ⟨C, ρ, n, O, _, ke, hK, E, t, x, fun ds ρ1 n1 vs H1 O1 k1 E1 S1 i1 => ?_⟩
  obtain ⟨z, hz, k1⟩ := k1
  exact hg C.T (hid C O1 H1) H1 vs ds z Q (hK.1.trans G.K) hid_le i1 hz (newq E1 fun v3 H3 E3 S3 i3 => q _ _ _ _ _ _ k1 E3 (S1.trans S3) i3)
theorem cf_use {r : List V → Hp → VK → Prop} (G : Good X g) (hg : ∀ (T : Tab) (Hh H : Hp) (vs : List V) (ds : List D) (z : List D) (Q : VK), T.K = X.K → Same Hh H → IsL T Hh vs ds → gl ds z → (∀ xs, IsL T Hh xs z → ∀ p, H p = none → Q (.ref p) (upd H p (.lst xs))) → r vs H Q)
    {σ : L2.St} {H : Hp} {Q : VK} (h : liftF g xk (cCF gl ta) σ H Q) : tCB r (liftA g xk ta) σ H Q := by
  obtain ⟨C, ρ, n, O, k, ke, hK, E, t, x, q⟩ := h
  refine ⟨C, ρ, n, O, _, ke, hK, E, t, x, fun ds ρ1 n1 vs H1 O1 k1 E1 S1 i1 => ?_⟩
  obtain ⟨z, hz, k1⟩ := k1
  exact hg C.T (hid C O1 H1) H1 vs ds z Q (hK.1.trans G.K) hid_le i1 hz fun xs ix p hp => q _ _ _ _ _ _ _ k1 E1 S1 hp (same_new hp) (.lst upd_same ix) rfl
theorem pd_callB (hc : CallD X (.builtin id) u) (G : Good X g) (hg : Gl X x) (hm : X.mg x = none) (hv : bootBuiltins x = some (.builtin id)) (ha : PDA X g xk (e :: es) ta) (hn : x ≠ "__name__" := by decide) (hdb : (x == ("__debug__" : Str)) = false := by decide)
    (he : starEach (e :: es) X.env = (false, eval e X.env) :: starEach es X.env := by rfl) (hpl : (backTo pos (starEach es X.env)).any (·.1) = false := by rfl) : PD X g xk (.Call (.Name x p) (e :: es) [] pos) (cCB u ta) := by
  obtain ⟨r, hr, hg'⟩ := hc
  exact ⟨PE.imp (pe_callB hr hg hm hv ha.pa hn hdb he hpl) fun σ H Q h => cb_use G hg' h⟩
theorem pd_callTy (hc : CallD X (.type id) u) (G : Good X g) (hg : Gl X x) (hm : X.mg x = none) (hv : bootBuiltins x = some (.type id)) (ha : PDA X g xk (e :: es) ta) (hn : x ≠ "__name__" := by decide) (hdb : (x == ("__debug__" : Str)) = false := by decide)
    (he : starEach (e :: es) X.env = (false, eval e X.env) :: starEach es X.env := by rfl) (hpl : (backTo pos (starEach es X.env)).any (·.1) = false := by rfl) : PD X g xk (.Call (.Name x p) (e :: es) [] pos) (cCB u ta) := by
  obtain ⟨r, hr, hg'⟩ := hc
  exact ⟨PE.imp (pe_callTy hr hg hm hv ha.pa hn hdb he hpl) fun σ H Q h => cb_use G hg' h⟩
theorem pf_callTy (hc : CallF X (.type id) gl) (G : Good X g) (hg : Gl X x) (hm : X.mg x = none) (hv : bootBuiltins x = some (.type id)) (ha : PDA X g xk (e :: es) ta) (hn : x ≠ "__name__" := by decide) (hdb : (x == ("__debug__" : Str)) = false := by decide)
    (he : starEach (e :: es) X.env = (false, eval e X.env) :: starEach es X.env := by rfl) (hpl : (backTo pos (starEach es X.env)).any (·.1) = false := by rfl) : PDF X g xk (.Call (.Name x p) (e :: es) [] pos) (cCF gl ta) := by
  obtain ⟨r, hr, hg'⟩ := hc
  exact ⟨PE.imp (pe_callTy hr hg hm hv ha.pa hn hdb he hpl) fun σ H Q h => cf_use G hg' h⟩
/-! which built-ins -/
def lenD : D → Option Nat
  | .list ds => some ds.length
  | .tuple ds => some ds.length
  | .str z => if z.length ≤ lim then some z.length else none
  | _ => none
def gLen (ds : List D) (z : D) : Prop := ∃ x n, ds = [x] ∧ lenD x = some n ∧ z = .int (n : Nat)
def seqD : D → Option (List D)
  | .list ds => some ds
  | .tuple ds => some ds
  | _ => none
def gTuple (ds : List D) (z : D) : Prop := ∃ x xs, ds = [x] ∧ seqD x = some xs ∧ z = .tuple xs
def gList (ds : List D) (z : List D) : Prop := ∃ x, ds = [x] ∧ seqD x = some z
def intsD (is : List Int) : List D := is.map PyData.int
def gSum (ds : List D) (z : D) : Prop := ∃ is, ds = [.list (intsD is)] ∧ z = .int is.sum
def boolsD (bs : List Bool) : List D := bs.map PyData.bool
def gAll (ds : List D) (z : D) : Prop := ∃ bs, ds = [.list (boolsD bs)] ∧ z = .bool (bs.all _root_.id)
def gMin2 (ds : List D) (z : D) : Prop := ∃ i j, ds = [.int i, .int j] ∧ z = .int (if j < i then j else i)
def gMin1 (ds : List D) (z : D) : Prop := ∃ is m, ds = [.list (intsD is)] ∧ z = .int m ∧ m ∈ is ∧ ∀ y ∈ is, m ≤ y
def gInt (ds : List D) (z : D) : Prop := (∃ i, ds = [.int i] ∧ z = .int i) ∨ ∃ b, ds = [.bool b] ∧ z = .int (if b then 1 else 0)
def leD' (a b : D) : Bool := PySem.W.dataLe false (fun d : D => d) a b
theorem IsL.one {T : Tab} {H : Hp} {vs : List V} {d : D} (h : IsL T H vs [d]) : ∃ v, vs = [v] ∧ Is T H v d := by
  cases h with
  | cons a b => cases b; exact ⟨_, rfl, a⟩
theorem IsL.two {T : Tab} {H : Hp} {vs : List V} {d e : D} (h : IsL T H vs [d, e]) : ∃ v u, vs = [v, u] ∧ Is T H v d ∧ Is T H u e := by
  cases h with
  | cons a b => obtain ⟨u, rfl, hu⟩ := b.one; exact ⟨_, _, rfl, a, hu⟩
theorem IsL.ints {T : Tab} {H : Hp} : ∀ {vs : List V} {is : List Int}, IsL T H vs (intsD is) → vs = is.map V.int
  | _, [], .nil => rfl
  | _, i :: is, .cons a b => by rw [List.map_cons, a.int', IsL.ints (is := is) b]
theorem IsL.bools {T : Tab} {H : Hp} : ∀ {vs : List V} {is : List Bool}, IsL T H vs (boolsD is) → vs = is.map V.bl
  | _, [], .nil => rfl
  | _, i :: is, .cons a b => by rw [List.map_cons, isBl a, IsL.bools (is := is) b]
theorem Is.seq {T : Tab} {H : Hp} {v : V} {d : D} {ds : List D} (h : Is T H v d) (e : seqD d = some ds) : ∃ a xs, v = .ref a ∧ IsL T H xs ds ∧ ((d = .list ds ∧ H a = some (.lst xs)) ∨ (d = .tuple ds ∧ SqT T.K H a xs)) := by
  cases h with
  | lst g r => cases e; exact ⟨_, _, rfl, r, .inl ⟨rfl, g⟩⟩
  | tup g r => cases e; exact ⟨_, _, rfl, r, .inr ⟨rfl, g⟩⟩
  | _ => cases e
theorem cd_len : CallD X (.builtin "len") gLen := by
  refine ⟨_, call_len_seq.or call_len_str, fun T Hh H vs ds z Q hK s il hg q => ?_⟩
  obtain ⟨y, n, rfl, hn, rfl⟩ := hg
  obtain ⟨v, rfl, iv⟩ := il.one
  unfold lenD at hn
  split at hn
  · cases hn
    obtain ⟨a, xs, rfl, ha, r⟩ := iv.list'
    exact .inl ⟨a, xs, rfl, .inl (SqL.of (s _ _ ha)), by rw [r.length]; exact q.flat fun _ => .int _⟩
  · cases hn
    obtain ⟨a, xs, rfl, ha, r⟩ := iv.tup'
    exact .inl ⟨a, xs, rfl, .inr (hK ▸ sqt_same s ha), by rw [r.length]; exact q.flat fun _ => .int _⟩
  · obtain ⟨c, rfl⟩ := ifs hn
    rw [iv.str']
    exact .inr ⟨_, rfl, lim_le c, q.flat fun _ => .int _⟩
  · cases hn
theorem cd_tuple : CallD X (.type "tuple") gTuple := by
  refine ⟨_, call_tuple_of, fun T Hh H vs ds z Q hK s il hg q => ?_⟩
  obtain ⟨y, xs, rfl, hs, rfl⟩ := hg
  obtain ⟨v, rfl, iv⟩ := il.one
  obtain ⟨a, us, rfl, r, c⟩ := iv.seq hs
  rcases c with ⟨_, c⟩ | ⟨_, c⟩
  · exact ⟨a, us, rfl, .inl ⟨SqL.of (s _ _ c), newT q r⟩⟩
  · exact ⟨a, us, rfl, .inr ⟨hK ▸ sqt_same s c, oldV q (.tup c r)⟩⟩
theorem cf_list : CallF X (.type "list") gList := by
  refine ⟨_, call_list_of, fun T Hh H vs ds z Q hK s il hg q => ?_⟩
  obtain ⟨y, rfl, hs⟩ := hg
  obtain ⟨v, rfl, iv⟩ := il.one
  obtain ⟨a, us, rfl, r, c⟩ := iv.seq hs
  rcases c with ⟨_, c⟩ | ⟨_, c⟩
  · exact ⟨a, us, rfl, .inl (SqL.of (s _ _ c)), q _ r⟩
  · exact ⟨a, us, rfl, .inr (hK ▸ sqt_same s c), q _ r⟩
theorem cd_sum (hc : X.calm = true) : CallD X (.builtin "sum") gSum := by
  refine ⟨_, cr_sum hc, fun T Hh H vs ds z Q hK s il hg q => ?_⟩
  obtain ⟨is, rfl, rfl⟩ := hg
  obtain ⟨v, rfl, iv⟩ := il.one
  obtain ⟨a, xs, rfl, ha, r⟩ := iv.list'
  rw [r.ints] at ha
  exact ⟨a, is, rfl, SqL.of (s _ _ ha), q.flat fun _ => .int _⟩
theorem cd_all (hc : X.calm = true) : CallD X (.builtin "all") gAll := by
  refine ⟨_, cr_all hc, fun T Hh H vs ds z Q hK s il hg q => ?_⟩
  obtain ⟨is, rfl, rfl⟩ := hg
  obtain ⟨v, rfl, iv⟩ := il.one
  obtain ⟨a, xs, rfl, ha, r⟩ := iv.list'
  rw [r.bools] at ha
  exact ⟨a, is, rfl, SqL.of (s _ _ ha), q.flat fun _ => .bl _⟩
theorem cd_min (hc : X.calm = true) : CallD X (.builtin "min") (fun ds z => gMin2 ds z ∨ gMin1 ds z) := by
  refine ⟨_, (call_min2 hc).or (cr_min hc), fun T Hh H vs ds z Q hK s il hg q => ?_⟩
  rcases hg with ⟨i, j, rfl, rfl⟩ | ⟨is, m, rfl, rfl, hm, hy⟩
  · obtain ⟨v, u, rfl, iv, iu⟩ := il.two
    rw [iv.int', iu.int']
    exact .inl ⟨i, j, rfl, q.flat fun _ => .int _⟩
  · obtain ⟨v, rfl, iv⟩ := il.one
    obtain ⟨a, xs, rfl, ha, r⟩ := iv.list'
    rw [r.ints] at ha
    refine .inr ⟨a, is, rfl, SqL.of (s _ _ ha), List.length_pos_of_mem hm, fun m' h1 h2 => ?_⟩
    have e : m' = m := Int.le_antisymm (h2 m hm) (hy m' h1)
    rw [e]
    exact q.flat fun _ => .int _
theorem cd_int : CallD X (.type "int") gInt := by
  refine ⟨_, call_int1, fun T Hh H vs ds z Q hK s il hg q => ?_⟩
  rcases hg with ⟨i, rfl, rfl⟩ | ⟨i, rfl, rfl⟩
  · obtain ⟨v, rfl, iv⟩ := il.one
    rw [iv.int']
    exact .inl ⟨i, rfl, q.flat fun _ => .int _⟩
  · obtain ⟨v, rfl, iv⟩ := il.one
    rw [isBl iv]
    exact .inr ⟨i, rfl, q.flat fun _ => .int _⟩
/-! ### subscripts, slices -/
def atD : D → D → Option D
  | .list ds, .int i => atI ds i
  | .tuple ds, .int i => atI ds i
  | .str z, .int i => if z.length ≤ lim then (atI z.cps.toList i).map fun c => .str ⟨#[c]⟩ else none
  | _, _ => none
def IxD (X : Cx) (g : D → D → Option D) : Prop := ∃ r, IxR X r ∧ ∀ (T : Tab) (Hh H : Hp) (x y : V) (dx dy z : D) (Q : VK), T.K = X.K → Same Hh H → Is T Hh x dx → Is T Hh y dy → g dx dy = some z → NewQ T Hh H z Q → r x y H Q
theorem atI_is {T : Tab} {H : Hp} {xs : List V} {ds : List D} {i : Int} {z : D} (h : IsL T H xs ds) (e : atI ds i = some z) : ∃ v, atI xs i = some v ∧ Is T H v z := by
  unfold atI at e ⊢
  rw [h.length]
  cases q : ixN ds.length i with
  | none => rw [q] at e; cases e
  | some j =>
    rw [q] at e
    exact h.get e
theorem ix_at : IxD X atD := by
  refine ⟨_, ix_seq, fun T Hh H x y dx dy z Q hK s ix iy hg q => ?_⟩
  unfold atD at hg
  split at hg
  · obtain ⟨a, xs, rfl, ha, r⟩ := ix.list'
    obtain ⟨v, h1, h2⟩ := atI_is r hg
    rw [iy.int']
    exact .inl ⟨a, xs, _, v, rfl, rfl, SqL.of (s _ _ ha), h1, oldV q h2⟩
  · obtain ⟨a, xs, rfl, ha, r⟩ := ix.tup'
    obtain ⟨v, h1, h2⟩ := atI_is r hg
    rw [iy.int']
    exact .inr (.inl ⟨a, xs, _, v, rfl, rfl, hK ▸ sqt_same s ha, h1, oldV q h2⟩)
  · rw [ix.str', iy.int']
    split at hg
    · rename_i z0 i c
      cases h : atI z0.cps.toList i with
      | none =>
        rw [h] at hg
        cases hg
      | some c' =>
        rw [h] at hg
        cases hg
        exact .inr (.inr ⟨_, _, c', rfl, rfl, lim_le c, h, q.flat fun _ => .str _⟩)
    · cases hg
  · cases hg
theorem pd_ix {u : D → D → Option D} {a b : Expr} {ta tb : CE} (hi : IxD X u) (G : Good X g) (ha : PD X g xk a ta) (hb : PD X g xk b tb) (hs : PlainIx b) : PD X g xk (.Subscript a b pos) (cOp u ta tb) := by
  obtain ⟨r, hr, hg⟩ := hi
  exact ⟨PE.imp (pe_ix hr ha.pe hb.pe hs) fun σ H Q h => op_use (f := getItem) G hg h⟩
abbrev CO := En → Nat → (Option Int → En → Nat → Prop) → KE → Prop
def liftO (g : Glob) (xk : WX) (td : CO) : TO := fun σ H Q => ∃ (C : Ctx) (ρ : En) (n : Nat) (O : Ow) (k : Option Int → En → Nat → Prop) (ke : KE), C.On g ∧ Ev C ρ n σ H O ∧ td ρ n k ke ∧ XL C xk ke ∧
  ∀ (b : Option Int) (ρ' : En) (n' : Nat) (H' : Hp) (O' : Ow), k b ρ' n' → Ev C ρ' n' σ H' O' → Same (hid C O H) (hid C O' H') → Q b H'
structure PDO (X : Cx) (g : Glob) (xk : WX) (e : Option Expr) (td : CO) : Prop where
  po : PO X e (liftO g xk td)
def cNo : CO := fun ρ n k _ => k none ρ n
def cPart (t : CE) : CO := fun ρ n k ke => t ρ n (fun d ρ' n' => ∃ i, d = .int i ∧ k (some i) ρ' n') ke
theorem po_imp {e : Option Expr} {t t' : TO} (h : PO X e t) (q : ∀ σ H Q, t' σ H Q → t σ H Q) : PO X e t' := ⟨fun pins s σ H Q I r => h.run pins s σ H Q I (q _ _ _ r)⟩
theorem pdo_none : PDO X g xk none cNo := ⟨po_imp po_none fun σ H Q ⟨C, ρ, n, O, k, ke, hK, E, t, x, q⟩ => q _ _ _ _ _ t E (Same.refl _)⟩
theorem pdo_some {t : CE} (h : PD X g xk e t) : PDO X g xk (some e) (cPart t) := by
  refine ⟨po_imp (po_some h.pe) fun σ H Q r => ?_⟩
  obtain ⟨C, ρ, n, O, k, ke, hK, E, t, x, q⟩ := r
  refine ⟨C, ρ, n, O, _, ke, hK, E, t, x, fun d ρ1 n1 v H1 O1 k1 E1 S1 i1 => ?_⟩
  obtain ⟨i, rfl, k1⟩ := k1
  have e := i1.int'
  subst e
  exact ⟨i, rfl, q _ _ _ _ _ k1 E1 S1⟩
def cutL (ds : List D) (lo hi : Option Int) : List D := (ds.drop (HT.sIx ds.length 0 lo)).take (HT.sIx ds.length ds.length hi - HT.sIx ds.length 0 lo)
def sliceD : D → Option Int → Option Int → Option D
  | .list ds, lo, hi => some (.list (cutL ds lo hi))
  | .tuple ds, lo, hi => some (.tuple (cutL ds lo hi))
  | .str z, lo, hi => if z.length ≤ lim then some (.str (cutS z lo hi)) else none
  | _, _, _ => none
def cSl (ta : CE) (tl th : CO) : CE := fun ρ n k ke => ta ρ n (fun x ρ1 n1 => tl ρ1 n1 (fun lo ρ2 n2 => th ρ2 n2 (fun hi ρ3 n3 => ∃ z, sliceD x lo hi = some z ∧ k z ρ3 n3) ke) ke) ke
theorem cutV_is {T : Tab} {H : Hp} {xs : List V} {ds : List D} (lo hi : Option Int) (h : IsL T H xs ds) : IsL T H (cutV xs lo hi) (cutL ds lo hi) := by
  unfold cutV cutL
  rw [h.length]
  exact (h.drop _).take _
theorem pd_slice {a : Expr} {lo hi : Option Expr} {ta : CE} {tl th : CO} {p2 : Pos} (G : Good X g) (ha : PD X g xk a ta) (hl : PDO X g xk lo tl) (hh : PDO X g xk hi th) : PD X g xk (.Subscript a (.Slice lo hi none p2) pos) (cSl ta tl th) := by
  refine ⟨PE.imp (pe_slice (SlR.or sl_list (SlR.or sl_tupA sl_str)) ha.pe hl.po hh.po) fun σ H Q h => ?_⟩
  obtain ⟨C, ρ, n, O, k, ke, hK, E, t, x, q⟩ := h
  refine ⟨C, ρ, n, O, _, ke, hK, E, t, x, fun d ρ1 n1 v H1 O1 k1 E1 S1 i1 => ⟨C, ρ1, n1, O1, _, ke, hK, E1, k1, x, fun lo ρ2 n2 H2 O2 k2 E2 S2 => ⟨C, ρ2, n2, O2, _, ke, hK, E2, k2, x, fun hi ρ3 n3 H3 O3 k3 E3 S3 => ?_⟩⟩⟩
  obtain ⟨z, hz, k3⟩ := k3
  have i3 := (i1.same S2).same S3
  have nq : NewQ C.T (hid C O3 H3) H3 z Q := newq E3 fun v4 H4 E4 S4 i4 => q _ _ _ _ _ _ k3 E4 (((S1.trans S2).trans S3).trans S4) i4
  unfold sliceD at hz
  split at hz
  · cases hz
    obtain ⟨a, xs, rfl, ha, r⟩ := i3.list'
    exact .inl ⟨a, xs, rfl, SqL.of (hid_le _ _ ha), newL nq (cutV_is _ _ r)⟩
  · cases hz
    obtain ⟨a, xs, rfl, ha, r⟩ := i3.tup'
    refine .inr (.inl ⟨a, xs, rfl, (hK.1.trans G.K) ▸ sqt_same hid_le ha, fun c => ?_, fun _ => newT nq (cutV_is _ _ r)⟩)
    have e : cutV xs lo hi = xs := by
      unfold cutV
      rw [c.1, c.2, Nat.sub_zero]
      exact List.take_length
    have r2 := cutV_is lo hi r
    rw [e] at r2
    exact oldV nq (.tup ha r2)
  · obtain ⟨c, rfl⟩ := ifs hz
    rw [i3.str']
    exact .inr (.inr ⟨_, rfl, lim_le c, nq.flat fun _ => .str _⟩)
  · cases hz
end
end RM
namespace RM
open PySem PySem.Spec PyProof.Rows L2 CS RZ
/-! ### what is walked -/
structure WalkD (T : Tab) (J : It) (ds : List D) (Hb : Hp) : Prop where
  ex : ∃ (G : Hp → Prop) (Y : Nat → Hp → V → Hp → Prop), Walk J ds.length G Y ∧ (∀ H, Same Hb H → G H) ∧ ∀ (i : Nat) (x : V) (H H2 : Hp) (d : D), Same Hb H → Y i H x H2 → ds[i]? = some d →
    Same H H2 ∧ ∀ Hx, Same Hb Hx → (∀ a o, H2 a = some o → H a = none → Hx a = some o) → Is T Hx x d
def liftI (g : Glob) (xk : WX) (td : CA) : TI := fun σ H R => ∃ (C : Ctx) (ρ : En) (n : Nat) (O : Ow) (k : List D → En → Nat → Prop) (ke : KE), C.On g ∧ Ev C ρ n σ H O ∧ td ρ n k ke ∧ XL C xk ke ∧
  ∀ (ds : List D) (ρ' : En) (n' : Nat) (J : It) (H' : Hp) (O' : Ow), k ds ρ' n' → Ev C ρ' n' σ H' O' → Same (hid C O H) (hid C O' H') → WalkD C.T J ds (hid C O' H') → R J H'
structure PDI (X : Cx) (g : Glob) (xk : WX) (tg : Expr) (e : Expr) (td : CA) : Prop where
  pi : PI X tg e (liftI g xk td)
theorem pi_imp {X : Cx} {tg e : Expr} {t t' : TI} (h : PI X tg e t) (q : ∀ σ H Q, t' σ H Q → t σ H Q) : PI X tg e t' := ⟨fun pins s σ H Q I r => h.run pins s σ H Q I (q _ _ _ r)⟩
section
variable {X : Cx} {g : Glob} {xk : WX} {tg : Expr} {pos p : Pos}
def iSeqV (K : PySem.W.Frag) (tl : TE) : TI := fun σ H R => tl σ H fun x H1 => ∃ a, x = .ref a ∧ (((∃ xs, SqL K H1 a xs) ∧ R (Itl K a) H1) ∨ ((∃ xs, SqT K H1 a xs) ∧ R (Itt K a) H1))
theorem pi_seqV {l : Expr} {tl : TE} (hl : PE X l tl) : PI X tg l (iSeqV X.K tl) := by
  refine ⟨fun pins s σ H R I h => ?_⟩
  refine thn (hl.run pins s σ H _ I h) fun v s1 ⟨x, H1, I1, r1, q1⟩ => ?_
  obtain ⟨a, e, q1⟩ := q1
  subst e
  cases r1
  have own : ∀ b ∈ [s1.heap.objs.size], _ := fun b hb => (List.mem_singleton.mp hb) ▸ I1.fpOk (Nat.le_refl _) (I1.hok.fresh (Nat.le_refl _))
  have up : ∀ (u : Obj) b o, s1.heap.get? b = some o → (s1.heap.push u).get? b = some o := fun _ _ _ e => Heap.get?_push_of_some _ e
  rcases q1 with ⟨⟨xs, hq⟩, q⟩ | ⟨⟨xs, hq⟩, q⟩
  · obtain ⟨_, _, p, _⟩ := I1.list hq
    exact wpAny_pyIter_list p.isList ⟨_, [s1.heap.objs.size], _, _, H1, rfl, I1.kept (t' := s1.toks) (up _), turn_list a _, ⟨_, Heap.get?_push_size _ rfl, rfl, rfl⟩, own, q⟩
  · obtain ⟨its, _, p, _⟩ := I1.tuple hq
    exact wpAny_pyIter_tuple (show s1.heap.IsTuple a its.toArray from p) ⟨_, [s1.heap.objs.size], _, _, H1, rfl, I1.kept (t' := s1.toks) (up _), turn_tuple a _, ⟨_, Heap.get?_push_size _ rfl, rfl, rfl⟩, own, q⟩
def cSeq (t : CE) : CA := fun ρ n k ke => t ρ n (fun d ρ' n' => ∃ ds, seqD d = some ds ∧ k ds ρ' n') ke
theorem walkd_list {T : Tab} {a : Addr} {xs : List V} {ds : List D} {Hb : Hp} (h : Hb a = some (.lst xs)) (r : IsL T Hb xs ds) : WalkD T (Itl T.K a) ds Hb :=
  ⟨⟨_, _, by rw [← r.length]; exact walk_list, fun H s => SqL.of (s _ _ h), fun i x H H2 d s y e => by
    obtain ⟨rfl, y⟩ := y
    obtain ⟨v, h1, h2⟩ := r.get e
    rw [y] at h1
    cases h1
    exact ⟨Same.refl _, fun Hx s2 _ => h2.same s2⟩⟩⟩
theorem walkd_tup {T : Tab} {a : Addr} {xs : List V} {ds : List D} {Hb : Hp} (h : SqT T.K Hb a xs) (r : IsL T Hb xs ds) : WalkD T (Itt T.K a) ds Hb :=
  ⟨⟨_, _, by rw [← r.length]; exact walk_tup, fun H s => sqt_same s h, fun i x H H2 d s y e => by
    obtain ⟨rfl, y⟩ := y
    obtain ⟨v, h1, h2⟩ := r.get e
    rw [y] at h1
    cases h1
    exact ⟨Same.refl _, fun Hx s2 _ => h2.same s2⟩⟩⟩
theorem pdi_seq {e : Expr} {t : CE} (G : Good X g) (h : PD X g xk e t) : PDI X g xk tg e (cSeq t) := by
  refine ⟨pi_imp (pi_seqV h.pe) fun σ H R r => ?_⟩
  obtain ⟨C, ρ, n, O, k, ke, hK, E, t, x, q⟩ := r
  refine ⟨C, ρ, n, O, _, ke, hK, E, t, x, fun d ρ1 n1 v H1 O1 k1 E1 S1 i1 => ?_⟩
  obtain ⟨ds, hs, k1⟩ := k1
  obtain ⟨a, us, rfl, r, c⟩ := i1.seq hs
  have eK := hK.1.trans G.K
  rcases c with ⟨_, c⟩ | ⟨_, c⟩
  · exact ⟨a, rfl, .inl ⟨⟨us, SqL.of (hid_le _ _ c)⟩, q _ _ _ _ _ _ k1 E1 S1 (eK ▸ walkd_list c r)⟩⟩
  · exact ⟨a, rfl, .inr ⟨⟨us, eK ▸ sqt_same hid_le c⟩, q _ _ _ _ _ _ k1 E1 S1 (eK ▸ walkd_tup c r)⟩⟩
def rangeD (lo : Int) (n : Nat) : List D := (List.range n).map fun i => .int (lo + (i : Nat))
theorem walkd_range {T : Tab} {lo : Int} {n : Nat} {Hb : Hp} : WalkD T (Itr lo n) (rangeD lo n) Hb :=
  ⟨⟨_, _, by unfold rangeD; rw [List.length_map, List.length_range]; exact walk_range, fun _ _ => trivial, fun i x H H2 d s y e => by
    obtain ⟨rfl, rfl⟩ := y
    unfold rangeD at e
    rw [List.getElem?_map] at e
    cases h : (List.range n)[i]? with
    | none => rw [h] at e; cases e
    | some j =>
      rw [h] at e
      obtain ⟨h1, h2⟩ := List.getElem?_eq_some_iff.mp h
      rw [List.getElem_range] at h2
      cases e
      rw [h2]
      exact ⟨Same.refl _, fun _ _ _ => .int _⟩⟩⟩
def cRange1 (ta : CA) : CA := fun ρ n k ke => ta ρ n (fun ds ρ' n' => ∃ j : Int, ds = [.int j] ∧ (-(2 ^ 62) ≤ j ∧ j < 2 ^ 62) ∧ k (rangeD 0 j.toNat) ρ' n') ke
theorem pdi_range1 {a : Expr} {ta : CA} (hg : Gl X "range") (hm : X.mg "range" = none) (ha : PDA X g xk [a] ta) (hs : starEach [a] X.env = [(false, eval a X.env)] := by rfl) : PDI X g xk tg (.Call (.Name "range" p) [a] [] pos) (cRange1 ta) := by
  refine ⟨pi_imp (pi_range1 hg hm ha.pa hs) fun σ H R r => ?_⟩
  obtain ⟨C, ρ, n, O, k, ke, hK, E, t, x, q⟩ := r
  refine ⟨C, ρ, n, O, _, ke, hK, E, t, x, fun d ρ1 n1 v H1 O1 k1 E1 S1 i1 => ?_⟩
  obtain ⟨j, rfl, ⟨c1, c2⟩, k1⟩ := k1
  obtain ⟨v, rfl, iv⟩ := i1.one
  rw [iv.int']
  exact ⟨j, rfl, c1, c2, q _ _ _ _ _ _ k1 E1 S1 walkd_range⟩
/-! ### targets -/
abbrev CG := D → En → Option En
def AgreeOff (js : List Nat) (σ σ' : L2.St) : Prop := σ'.length = σ.length ∧ ∀ j, j ∉ js → σ'[j]? = σ[j]?
def liftG (g : Glob) (js : List Nat) (cg : CG) : TG := fun v σ H Q => ∃ (C : Ctx) (ρ ρ' : En) (n : Nat) (O : Ow) (d : D), C.On g ∧ Ev C ρ n σ H O ∧ Is C.T (hid C O H) v d ∧ cg d ρ = some ρ' ∧
  ∀ (σ' : L2.St) (O' : Ow), Ev C ρ' n σ' H O' → Same (hid C O H) (hid C O' H) → AgreeOff js σ σ' → Q σ' H
def liftGs (g : Glob) (js : List Nat) (cg : List D → En → Option En) : TGs := fun vs σ H Q => ∃ (C : Ctx) (ρ ρ' : En) (n : Nat) (O : Ow) (ds : List D), C.On g ∧ Ev C ρ n σ H O ∧ IsL C.T (hid C O H) vs ds ∧ cg ds ρ = some ρ' ∧
  ∀ (σ' : L2.St) (O' : Ow), Ev C ρ' n σ' H O' → Same (hid C O H) (hid C O' H) → AgreeOff js σ σ' → Q σ' H
structure PDG (X : Cx) (g : Glob) (js : List Nat) (e : Expr) (cg : CG) : Prop where
  pg : PG X e (liftG g js cg)
structure PDGs (X : Cx) (g : Glob) (js : List Nat) (es : List Expr) (cg : List D → En → Option En) : Prop where
  pgs : PGs X es (liftGs g js cg)
def stN (i : Nat) : CG := fun d ρ => some (ρ.set i (some (Sl.v d)))
def stNil : List D → En → Option En
  | [], ρ => some ρ
  | _, _ => none
def stCons (s : CG) (t : List D → En → Option En) : List D → En → Option En
  | d :: ds, ρ => (s d ρ).bind (t ds)
  | _, _ => none
def stT (t : List D → En → Option En) : CG := fun d ρ => (seqD d).bind fun ds => t ds ρ
theorem AgreeOff.refl (σ : L2.St) : AgreeOff [] σ σ := ⟨rfl, fun _ _ => rfl⟩
theorem AgreeOff.trans {js ks : List Nat} {a b c : L2.St} (h : AgreeOff js a b) (h' : AgreeOff ks b c) : AgreeOff (js ++ ks) a c := ⟨h'.1.trans h.1, fun j n => by
  rw [List.mem_append, not_or] at n
  exact (h'.2 j n.2).trans (h.2 j n.1)⟩
theorem agree_set {σ : L2.St} {i : Nat} {x : Option V} : AgreeOff [i] σ (σ.set i x) := ⟨List.length_set, fun j n => by
  rw [List.mem_singleton] at n
  exact List.getElem?_set_ne (Ne.symm n)⟩
theorem pdg_name {i : Nat} {x : Str} (hN : X.N.Nodup) (hi : X.N[i]? = some x) (hx : Loc X.env.scope x) (hf : X.fn x = true ∨ X.env.scope.names.lookup x = some .local := by first | exact .inl rfl | exact .inr rfl | assumption) : PDG X g [i] (.Name x pos) (stN i) := by
  refine ⟨⟨fun pins s σ H v u Q I r h => ?_⟩⟩
  obtain ⟨C, ρ, ρ', n, O, d, hK, E, iv, e, q⟩ := h
  cases e
  obtain ⟨a, b⟩ := E.set (i := i) iv
  exact (pg_name hN hi hx hf).run pins s σ H v u Q I r (q _ _ a b agree_set)
theorem pdgs_nil : PDGs X g [] [] stNil := by
  refine ⟨⟨fun pins s σ H vs us Q I r h => ?_⟩⟩
  obtain ⟨C, ρ, ρ', n, O, ds, hK, E, iv, e, q⟩ := h
  cases ds with
  | nil =>
    cases e
    cases iv
    exact pgs_nil.run pins s σ H [] us Q I r ⟨rfl, q _ _ E (Same.refl _) (.refl _)⟩
  | cons d ds => cases e
theorem pdgs_cons {js ks : List Nat} {e : Expr} {es : List Expr} {t : CG} {u : List D → En → Option En} (h1 : PDG X g js e t) (h2 : PDGs X g ks es u)
    (hs : (assignEach (e :: es) X.env).map (·.2) = assign e X.env :: (assignEach es X.env).map (·.2) := by rfl) : PDGs X g (js ++ ks) (e :: es) (stCons t u) := by
  refine ⟨⟨fun pins s σ H vs us Q I r h => ?_⟩⟩
  obtain ⟨C, ρ, ρ', n, O, ds, hK, E, iv, e', q⟩ := h
  cases ds with
  | nil => cases e'
  | cons d ds =>
    cases iv with
    | cons a b =>
      replace e' : (t d ρ).bind (u ds) = some ρ' := e'
      cases hd : t d ρ with
      | none => rw [hd] at e'; cases e'
      | some ρ1 =>
        rw [hd] at e'
        exact (pgs_cons h1.pg h2.pgs hs).run pins s σ H _ us Q I r ⟨_, _, rfl, C, ρ, ρ1, n, O, d, hK, E, a, hd, fun σ1 O1 E1 S1 A1 => ⟨C, ρ1, ρ', n, O1, ds, hK, E1, b.same S1, e', fun σ2 O2 E2 S2 A2 => q _ _ E2 (S1.trans S2) (A1.trans A2)⟩⟩
theorem pg_or {e : Expr} {t u : TG} (h1 : PG X e t) (h2 : PG X e u) : PG X e (fun v σ H Q => t v σ H Q ∨ u v σ H Q) :=
  ⟨fun pins s σ H v w Q I r h => h.elim (h1.run pins s σ H v w Q I r) (h2.run pins s σ H v w Q I r)⟩
theorem pdg_tup {js : List Nat} {es : List Expr} {k : Nat} {t : List D → En → Option En} {m : Nat} (hc : X.calm = true) (G : Good X g) (h : PDGs X g js es t) (hl : ∀ ds ρ ρ', t ds ρ = some ρ' → ds.length = m)
    (hn : (assignEach es X.env).length = m := by rfl) (hst : (assignEach es X.env).findIdx? (·.1) = none := by rfl) : PDG X g js (.Tuple es k pos) (stT t) := by
  refine ⟨⟨fun pins s σ H v u Q I r h' => ?_⟩⟩
  obtain ⟨C, ρ, ρ', n, O, d, hK, E, iv, e, q⟩ := h'
  unfold stT at e
  cases hs : seqD d with
  | none => rw [hs] at e; cases e
  | some ds =>
    rw [hs] at e
    obtain ⟨a, us, rfl, r', c⟩ := iv.seq hs
    have l := hl ds ρ ρ' e
    have rest : liftGs g js t us σ H Q := ⟨C, ρ, ρ', n, O, ds, hK, E, r', e, q⟩
    have eK := hK.1.trans G.K
    refine (pg_or (pg_tup hc h.pgs hn hst) (pg_lst hc h.pgs hn hst)).run pins s σ H _ u Q I r ?_
    rcases c with ⟨_, c⟩ | ⟨_, c⟩
    · exact .inr ⟨a, us, rfl, SqL.of (hid_le _ _ c), by rw [r'.length, l], rest⟩
    · exact .inl ⟨a, us, rfl, eK ▸ sqt_same hid_le c, by rw [r'.length, l], rest⟩
theorem stNil_len (ds : List D) (ρ ρ' : En) (h : stNil ds ρ = some ρ') : ds.length = 0 := by
  cases ds with
  | nil => rfl
  | cons => cases h
theorem stCons_len {s : CG} {t : List D → En → Option En} {m : Nat} (ht : ∀ ds ρ ρ', t ds ρ = some ρ' → ds.length = m) (ds : List D) (ρ ρ' : En) (h : stCons s t ds ρ = some ρ') : ds.length = m + 1 := by
  cases ds with
  | nil => cases h
  | cons d ds =>
    replace h : (s d ρ).bind (t ds) = some ρ' := h
    cases hd : s d ρ with
    | none => rw [hd] at h; cases h
    | some ρ1 =>
      rw [hd] at h
      rw [List.length_cons, ht ds ρ1 ρ' h]
end
end RM
namespace RM
open PySem PySem.Spec PyProof.Rows L2 CS RZ
/-! ### a list in the making -/
def out (H : Hp) (a : Addr) : Hp := fun b => if b = a then none else H b
theorem out_same {H : Hp} {a : Addr} : out H a a = none := by unfold out; rw [if_pos rfl]
theorem out_ne {H : Hp} {a b : Addr} (h : b ≠ a) : out H a b = H b := by unfold out; rw [if_neg h]
theorem out_le {H : Hp} {a : Addr} : Same (out H a) H := fun b o h => by
  unfold out at h
  split at h
  · cases h
  · exact h
theorem out_upd {H : Hp} {a : Addr} {o : HO} : out (upd H a o) a = out H a := by
  funext b
  by_cases c : b = a
  · rw [c, out_same, out_same]
  · rw [out_ne c, out_ne c, upd_ne c]
theorem out_new {H : Hp} {a : Addr} {o : HO} (h : H a = none) : out (upd H a o) a = H := by
  funext b
  by_cases c : b = a
  · rw [c, out_same, h]
  · rw [out_ne c, upd_ne c]
/-- one more address is hidden, its object stays -/
def Ctx.plus (C : Ctx) (a : Addr) (o : HO) : Ctx := { C with Z := fun b => C.Z b ∨ b = a, H0 := upd C.H0 a o }
section
variable {C : Ctx} {ρ : En} {n : Nat} {σ : L2.St} {H H' : Hp} {O : Ow} {a : Addr} {o : HO}
theorem hid_plus : hid (C.plus a o) O H = hid C O (out H a) := by
  funext b
  unfold hid
  by_cases c : b = a
  · subst c
    rw [if_pos (.inl (.inr rfl)), out_same]
    split <;> rfl
  · rw [out_ne c]
    by_cases z : C.Z b ∨ ∃ i, O i = some b
    · rw [if_pos z, if_pos]
      rcases z with z | z
      · exact .inl (.inl z)
      · exact .inr z
    · rw [if_neg z, if_neg]
      rintro ((w | w) | w)
      · exact z (.inl w)
      · exact c w
      · exact z (.inr w)
theorem Ev.hide (E : Ev C ρ n σ (out H a) O) (h : H a = some o) (no : ∀ xs, o ≠ HO.tup xs := by intro xs z; cases z) : Ev (C.plus a o) ρ n σ H O := by
  obtain ⟨f1, f2, f3, f4⟩ := E.fresh (p := a) out_same
  have keepO : ∀ i p, O i = some p → p ≠ a := fun i p e z => f2 i (e.trans (congrArg some z))
  refine ⟨E.len, fun i d e => ?_, fun i d e => ?_, fun i p e => ⟨(E.only i p e).1, ?_⟩, E.inj, fun b z => ?_, fun b xs z e => ?_, fun b u e z => ?_, fun b e => ⟨.inl (E.box b e).1, ?_⟩, E.slf, by rw [hid_plus]; exact E.vis⟩
  · rw [hid_plus]
    exact E.val i d e
  · rw [hid_plus]
    obtain ⟨p, h1, h2, h3⟩ := E.own i d e
    exact ⟨p, h1, h2, h3.same (Same.refl _) (out_ne (keepO i p h1)).symm⟩
  · show upd C.H0 a o p = none
    rw [upd_ne (keepO i p e)]
    exact (E.only i p e).2
  · by_cases c : b = a
    · exact ⟨o, by show upd C.H0 a o b = some o; rw [c, upd_same]⟩
    · rcases z with z | z
      · obtain ⟨u, hu⟩ := E.zs b z
        exact ⟨u, by show upd C.H0 a o b = some u; rw [upd_ne c]; exact hu⟩
      · exact absurd z c
  · replace e : upd C.H0 a o b = some (.tup xs) := e
    by_cases c : b = a
    · subst c
      rw [upd_same] at e
      exact no xs (Option.some.inj e)
    · rw [upd_ne c] at e
      rcases z with z | z
      · exact E.zt b xs z e
      · exact c z
  · replace e : upd C.H0 a o b = some u := e
    by_cases c : b = a
    · subst c
      rw [upd_same] at e
      exact h.trans e
    · rw [upd_ne c] at e
      exact (out_ne c).symm.trans (E.keep b u e z)
  · exact (E.box b e).2.same out_le
theorem Ev.unhide (E : Ev (C.plus a o) ρ n σ H O) (hz : ¬ C.Z a) (hb : C.T.bx ≠ some a) (h0 : C.H0 a = none) : Ev C ρ n σ (out H a) O ∧ H a = some o := by
  have ha : H a = some o := E.keep a o (by show upd C.H0 a o a = some o; exact upd_same) hb
  have keepO : ∀ i p, O i = some p → p ≠ a := fun i p e z => by
    have h1 : upd C.H0 a o p = none := (E.only i p e).2
    rw [z, upd_same] at h1
    cases h1
  refine ⟨⟨E.len, fun i d e => ?_, fun i d e => ?_, fun i p e => ⟨(E.only i p e).1, ?_⟩, E.inj, fun b z => ?_, fun b xs z e => ?_, fun b u e z => ?_, fun b e => ⟨?_, ?_⟩, E.slf, by have := E.vis; rw [hid_plus] at this; exact this⟩, ha⟩
  · have := E.val i d e
    rw [hid_plus] at this
    exact this
  · obtain ⟨p, h1, h2, h3⟩ := E.own i d e
    rw [hid_plus] at h3
    exact ⟨p, h1, h2, h3.same (Same.refl _) (out_ne (keepO i p h1))⟩
  · have h1 : upd C.H0 a o p = none := (E.only i p e).2
    rw [upd_ne (keepO i p e)] at h1
    exact h1
  · obtain ⟨u, hu⟩ := E.zs b (.inl z)
    replace hu : upd C.H0 a o b = some u := hu
    have c : b ≠ a := fun q => hz (q ▸ z)
    rw [upd_ne c] at hu
    exact ⟨u, hu⟩
  · have c : b ≠ a := fun q => hz (q ▸ z)
    refine E.zt b xs (.inl z) ?_
    show upd C.H0 a o b = _
    rw [upd_ne c]
    exact e
  · have c : b ≠ a := fun q => by rw [q, h0] at e; cases e
    rw [out_ne c]
    exact E.keep b u (by show upd C.H0 a o b = some u; rw [upd_ne c]; exact e) z
  · have c : b ≠ a := fun q => hb (e.trans (congrArg some q))
    rcases (E.box b e).1 with z | z
    · exact z
    · exact absurd z c
  · have c : b ≠ a := fun q => hb (e.trans (congrArg some q))
    obtain ⟨A, B, F, h1, h2⟩ := (E.box b e).2
    exact ⟨A, B, F, (out_ne c).trans h1, h2⟩
/-! slots forgotten -/
def wipeE (ρ : En) : List Nat → En
  | [] => ρ
  | v :: vs => (wipeE ρ vs).set v none
noncomputable def cutOs (O : Ow) : List Nat → Ow
  | [] => O
  | v :: vs => cutO (cutOs O vs) v
theorem hid_cuts : ∀ vs : List Nat, Same (hid C O H) (hid C (cutOs O vs) H)
  | [] => Same.refl _
  | _ :: vs => (hid_cuts vs).trans hid_cut
theorem Ev.wipes (E : Ev C ρ n σ H O) : ∀ vs : List Nat, Ev C (wipeE ρ vs) n (wipe σ vs) H (cutOs O vs)
  | [] => E
  | v :: vs => (E.wipes vs).wipe1 v
theorem Ev.unwipe {vs : List Nat} (E : Ev C ρ n (wipe σ vs) H O) : Ev C ρ n σ H O where
  len := by rw [E.len, wipe_length]
  val := fun i d e => let ⟨v, h1, h2⟩ := E.val i d e; ⟨v, (wipe_some h1).1, h2⟩
  own := fun i d e => let ⟨p, h1, h2, h3⟩ := E.own i d e; ⟨p, h1, (wipe_some h2).1, h3⟩
  only := E.only
  inj := E.inj
  zs := E.zs
  zt := E.zt
  keep := E.keep
  box := E.box
  slf := E.slf
  vis := E.vis
theorem wipe_get (σ : L2.St) (j : Nat) : ∀ vs : List Nat, (wipe σ vs)[j]? = if j ∈ vs then (σ[j]?).map (fun _ => none) else σ[j]?
  | [] => by simp [wipe]
  | v :: vs => by
    unfold wipe
    by_cases c : v = j
    · subst c
      rw [List.getElem?_set_self']
      rw [wipe_get σ v vs]
      simp only [List.mem_cons, true_or, if_true]
      split
      · cases σ[v]? <;> rfl
      · rfl
    · rw [List.getElem?_set_ne c, wipe_get σ j vs]
      have e : (j ∈ v :: vs) = (j ∈ vs) := by
        rw [List.mem_cons, eq_iff_iff]
        exact ⟨fun h => h.elim (fun z => absurd z.symm c) id, .inr⟩
      simp only [e]
theorem wipe_agree {σ σ' : L2.St} {js vs : List Nat} (h : AgreeOff js σ σ') (hs : ∀ j ∈ js, j ∈ vs) : wipe σ' vs = wipe σ vs := by
  refine List.ext_getElem? fun j => ?_
  rw [wipe_get, wipe_get]
  by_cases c : j ∈ vs
  · rw [if_pos c, if_pos c]
    by_cases l : j < σ.length
    · rw [List.getElem?_eq_getElem l, List.getElem?_eq_getElem (by rw [h.1]; exact l)]
      rfl
    · have hl := h.1
      rw [List.getElem?_eq_none (by omega), List.getElem?_eq_none (by omega)]
  · rw [if_neg c, if_neg c]
    exact h.2 j fun z => c (hs j z)
end
def kF : KE := fun _ _ _ => False
theorem xl_F {C : Ctx} {xk : WX} : XL C xk kF := fun _ _ _ _ _ _ _ _ h => h.elim
structure PDTs (X : Cx) (g : Glob) (xk : WX) (es : List Expr) (td : CT) : Prop where
  pts : PTs X es (liftT g xk td)
def cYes : CT := fun ρ n k _ => k true ρ n
section
variable {X : Cx} {g : Glob} {xk : WX} {pos : Pos}
theorem pdts_nil : PDTs X g xk [] cYes := ⟨⟨fun pins s σ H Q I h => by
  obtain ⟨C, ρ, n, O, k, ke, hK, E, t, x, q⟩ := h
  exact pts_nil.run pins s σ H Q I (q _ _ _ _ _ t E (Same.refl _))⟩⟩
theorem pdts_one {e : Expr} {td : CT} (h : PDT X g xk e td) : PDTs X g xk [e] td := ⟨pts_one h.pt⟩
/-- the turns of a comprehension -/
def cLcL (cg : CG) (tt : CT) (te : CE) (vs : List Nat) : List D → En → Nat → List D → (List D → En → Nat → Prop) → Prop
  | [], ρ, n, acc, k => k acc ρ n
  | d :: ds, ρ, n, acc, k => ∃ ρ1, cg d ρ = some ρ1 ∧ tt ρ1 n (fun b ρ2 n2 => if b = true then te ρ2 n2 (fun y ρ3 n3 => acc.length < lim ∧ cLcL cg tt te vs ds (wipeE ρ3 vs) n3 (acc ++ [y]) k) kF
      else cLcL cg tt te vs ds (wipeE ρ2 vs) n2 acc k) kF
def cLc (ci : CA) (cg : CG) (tt : CT) (te : CE) (vs : List Nat) : CE := fun ρ n k ke => ci ρ n (fun ds ρ' n' => cLcL cg tt te vs ds (wipeE ρ' vs) n' [] (fun acc ρ2 n2 => k (.list acc) ρ2 n2)) ke
theorem lc_use {ci : CA} {cg : CG} {js vs : List Nat} {tt : CT} {te : CE} (hj : ∀ j ∈ js, j ∈ vs) {σ : L2.St} {H : Hp} {Q : VK} (r : liftF g xk (cLc ci cg tt te vs) σ H Q) : tLc (liftI g xk ci) (liftG g js cg) (liftT g xF tt) (lift g xF te) vs σ H Q := by
  obtain ⟨C, ρ, n, O, k, ke, hK, E, t, x, q⟩ := r
  refine ⟨C, ρ, n, O, _, ke, hK, E, t, x, fun ds ρ1 n1 J H1 O1 k1 E1 S1 WD => ?_⟩
  intro Da nD
  obtain ⟨f1, f2, f3, f4⟩ := E1.fresh nD
  obtain ⟨Gd, Y, WK, hG, hY⟩ := WD.ex
  refine lc_it WK (fun i H => ∃ (ρ : En) (n : Nat) (O : Ow) (acc : List D) (accV : List V), Ev C ρ n (wipe σ vs) (out H Da) O ∧ H Da = some (.lst accV) ∧ IsL C.T (hid C O (out H Da)) accV acc ∧
    cLcL cg tt te vs (ds.drop i) ρ n acc (fun acc ρ2 n2 => k (.list acc) ρ2 n2) ∧ Same (hid C O1 H1) (hid C O (out H Da))) ?_ ?_ ?_ ?_
  · refine ⟨_, n1, _, [], [], (by rw [out_new nD]; exact E1.wipes vs), upd_same, .nil, k1, ?_⟩
    rw [out_new nD]
    exact hid_cuts vs
  · rintro i H2 _ ⟨ρ2, n2, O2, acc, accV, E2, eD, iA, c2, S2⟩
    exact hG _ ((S2.trans hid_le).trans out_le)
  · rintro i x0 H2 H3 hi' ⟨ρ2, n2, O2, acc, accV, E2, eD, iA, c2, S2⟩ y
    have hd : ds.drop i = ds[i] :: ds.drop (i + 1) := List.drop_eq_getElem_cons hi'
    rw [hd] at c2
    obtain ⟨ρ3, e3, c3⟩ := c2
    have S2' : Same (hid C O1 H1) H2 := (S2.trans hid_le).trans out_le
    obtain ⟨sY, iY⟩ := hY i x0 H2 H3 ds[i] S2' y (List.getElem?_eq_getElem hi')
    have E4 := E2.hide eD
    have E5 := E4.ext sY
    have h45 := hid_same (C := C.plus Da (.lst accV)) (O := O2) sY
    have S6 : Same (hid C O1 H1) (hid (C.plus Da (.lst accV)) O2 H3) := by
      refine Same.trans ?_ h45
      rw [hid_plus]
      exact S2
    have ix : Is C.T (hid (C.plus Da (.lst accV)) O2 H3) x0 ds[i] := iY _ S6 fun b u h1 h2 => let ⟨g1, g2, _, _⟩ := E4.fresh h2; hid_of h1 g1 g2
    refine ⟨C.plus Da (.lst accV), ρ2, ρ3, n2, O2, ds[i], hK, E5, ix, e3, fun σ4 O4 E6 S7 A4 => ⟨wipe_agree (σ := wipe σ vs) A4 hj |>.trans (by
      refine List.ext_getElem? fun j => ?_
      rw [wipe_get, wipe_get]
      split
      · cases σ[j]? <;> rfl
      · rfl), ?_⟩⟩
    have wp : wipe σ4 vs = wipe σ vs := wipe_agree (σ := wipe σ vs) A4 hj |>.trans (by
      refine List.ext_getElem? fun j => ?_
      rw [wipe_get, wipe_get]
      split
      · cases σ[j]? <;> rfl
      · rfl)
    refine ⟨C.plus Da (.lst accV), ρ3, n2, O4, _, kF, hK, E6, c3, xl_F, fun b ρ5 n5 H5 O5 c5 E7 S8 => ?_⟩
    cases b with
    | false =>
      show ∃ _, _
      obtain ⟨E8, eD8⟩ := E7.unhide f1 f4 f3
      have E9 := E8.wipes vs
      rw [wp] at E9
      have S10 := ((S6.trans S7).trans S8)
      rw [hid_plus] at S10
      have iA2 : IsL C.T (hid C O5 (out H5 Da)) accV acc := iA.same (by
        have := (h45.trans S7).trans S8
        rw [hid_plus, hid_plus] at this
        exact this)
      exact ⟨_, _, _, acc, accV, E9, eD8, iA2.same (hid_cuts vs), c5, S10.trans (hid_cuts vs)⟩
    | true =>
      refine ⟨C.plus Da (.lst accV), ρ5, n5, O5, _, kF, hK, E7, c5, xl_F, fun yd ρ6 n6 yv H6 O6 c6 E8 S9 iy => ?_⟩
      obtain ⟨E9, eD9⟩ := E8.unhide f1 f4 f3
      refine ⟨accV, eD9, by rw [iA.length]; exact lim_lt c6.1, ?_⟩
      have E10 := E9.wipes vs
      rw [wp] at E10
      have S10 := (((S6.trans S7).trans S8).trans S9)
      rw [hid_plus] at S10 iy
      have iA2 : IsL C.T (hid C O6 (out H6 Da)) accV acc := iA.same (by
        have := ((h45.trans S7).trans S8).trans S9
        rw [hid_plus, hid_plus] at this
        exact this)
      refine ⟨_, _, cutOs O6 vs, acc ++ [yd], accV ++ [yv], ?_, upd_same, ?_, c6.2, ?_⟩
      · rw [out_upd]
        exact E10
      · rw [out_upd]
        exact (iA2.append (.cons iy .nil)).same (hid_cuts vs)
      · rw [out_upd]
        exact S10.trans (hid_cuts vs)
  · rintro H2 ⟨ρ2, n2, O2, acc, accV, E2, eD, iA, c2, S2⟩
    rw [List.drop_length] at c2
    exact q _ _ _ _ _ _ _ c2 E2.unwipe (S1.trans S2) out_same out_le (.lst eD iA) rfl
theorem pf_lc {elt tg iter : Expr} {ifs : List Expr} {scope : Scope} {own : List (Str × Nat)} {ci : CA} {cg : CG} {js : List Nat} {tt : CT} {te : CE} (hc : X.calm = true) (hN : X.N.Nodup) (hi : PDI X g xk tg iter ci) (ok : BlkOk X.N X.env.scope scope own)
    (hg : ∀ (s : Shared) (H : Hp) (C : Addr) (cl : List (Str × Addr)) (fp : List Addr), PDG (X.blk s H scope (compEnvC scope cl C X.env) fp) g js tg cg) (ht : ∀ (s : Shared) (H : Hp) (C : Addr) (cl : List (Str × Addr)) (fp : List Addr), PDTs (X.blk s H scope (compEnvC scope cl C X.env) fp) g xF ifs tt)
    (he : ∀ (s : Shared) (H : Hp) (C : Addr) (cl : List (Str × Addr)) (fp : List Addr), PD (X.blk s H scope (compEnvC scope cl C X.env) fp) g xF elt te) (hj : ∀ j ∈ js, j ∈ own.map (·.2) := by decide) (hs : ∀ x, foldedSetIterable iter X.env x = pure x := by intro _; rfl) :
    PDF X g xk (.ListComp elt [⟨tg, iter, ifs, 0⟩] scope pos) (cLc ci cg tt te (own.map (·.2))) :=
  ⟨PE.imp (pe_lc hc hN hi.pi ok (fun s H C cl fp => (hg s H C cl fp).pg) (fun s H C cl fp => (ht s H C cl fp).pts) (fun s H C cl fp => (he s H C cl fp).pe) hs) fun σ H Q r => lc_use hj r⟩
end
end RM
namespace RM
open PySem PySem.Spec PyProof.Rows L2 CS RZ
/-! ### statements -/
structure EndsD where
  nx : En → Nat → Prop
  rt : D → Nat → Prop
  bk : En → Nat → Prop
  ct : En → Nat → Prop
  xc : KE
abbrev CS := En → Nat → EndsD → Prop
/-- a def is left: what was there is kept, the box is at its count -/
structure Fin (C : Ctx) (n : Nat) (H : Hp) : Prop where
  keep : ∀ a o, C.H0 a = some o → C.T.bx ≠ some a → H a = some o
  box : ∀ b, C.T.bx = some b → BoxAt H b n
theorem Ev.fin {C : Ctx} {ρ : En} {n : Nat} {σ : L2.St} {H : Hp} {O : Ow} (E : Ev C ρ n σ H O) : Fin C n H := ⟨E.keep, fun b h => (E.box b h).2⟩
theorem hid_now {C : Ctx} {H : Hp} {O : Ow} : Same (hid C O H) (hid C now H) := fun a o h => by
  obtain ⟨h1, h2, _⟩ := hid_some h
  exact hid_of h1 h2 fun i z => nomatch z
structure LinkS (C : Ctx) (xk : WX) (e : EndsD) (Hb : Hp) (F : Ends) : Prop where
  nx : ∀ (ρ : En) (n : Nat) (σ : L2.St) (H : Hp) (O : Ow), e.nx ρ n → Ev C ρ n σ H O → Same Hb (hid C O H) → F.nx σ H
  rt : ∀ (d : D) (n : Nat) (v : V) (H : Hp), e.rt d n → Fin C n H → Is C.T (hid C now H) v d → F.rt v H
  bk : ∀ (ρ : En) (n : Nat) (σ : L2.St) (H : Hp) (O : Ow), e.bk ρ n → Ev C ρ n σ H O → Same Hb (hid C O H) → F.bk σ H
  ct : ∀ (ρ : En) (n : Nat) (σ : L2.St) (H : Hp) (O : Ow), e.ct ρ n → Ev C ρ n σ H O → Same Hb (hid C O H) → F.ct σ H
  xc : XL C xk e.xc
theorem LinkS.mono {C : Ctx} {xk : WX} {e : EndsD} {Hb Hb' : Hp} {F : Ends} (l : LinkS C xk e Hb F) (s : Same Hb Hb') : LinkS C xk e Hb' F :=
  ⟨fun ρ n σ H O a b c => l.nx ρ n σ H O a b (s.trans c), l.rt, fun ρ n σ H O a b c => l.bk ρ n σ H O a b (s.trans c), fun ρ n σ H O a b c => l.ct ρ n σ H O a b (s.trans c), l.xc⟩
def liftS (g : Glob) (xk : WX) (cs : CS) : TS := fun F σ H => ∃ (C : Ctx) (ρ : En) (n : Nat) (O : Ow) (e : EndsD), C.On g ∧ Ev C ρ n σ H O ∧ cs ρ n e ∧ LinkS C xk e (hid C O H) F
structure PDS (X : Cx) (g : Glob) (xk : WX) (st : Stmt) (cs : CS) : Prop where
  ps : PS X st (liftS g xk cs)
structure PDSs (X : Cx) (g : Glob) (xk : WX) (st : List Stmt) (cs : CS) : Prop where
  pss : PSs X st (liftS g xk cs)
theorem ps_imp {X : Cx} {e : Stmt} {t t' : TS} (h : PS X e t) (q : ∀ D σ H, t' D σ H → t D σ H) : PS X e t' := ⟨fun pins s σ H D I r => h.run pins s σ H D I (q _ _ _ r)⟩
theorem pss_imp {X : Cx} {e : List Stmt} {t t' : TS} (h : PSs X e t) (q : ∀ D σ H, t' D σ H → t D σ H) : PSs X e t' := ⟨fun pins s σ H D I r => h.run pins s σ H D I (q _ _ _ r)⟩
def cNext : CS := fun ρ n e => e.nx ρ n
def cSq (a b : CS) : CS := fun ρ n e => a ρ n { e with nx := fun ρ' n' => b ρ' n' e }
def cDrop (t : CE) : CS := fun ρ n e => t ρ n (fun _ ρ' n' => e.nx ρ' n') e.xc
def cRet (t : CE) : CS := fun ρ n e => t ρ n (fun d _ n' => e.rt d n') e.xc
def cSet (i : Nat) (t : CE) : CS := fun ρ n e => t ρ n (fun d ρ' n' => e.nx (ρ'.set i (some (Sl.v d))) n') e.xc
def cOwn (i : Nat) (t : CE) : CS := fun ρ n e => t ρ n (fun d ρ' n' => i < ρ'.length ∧ e.nx (ρ'.set i (some (Sl.own d))) n') e.xc
def cIfS (c : CT) (a b : CS) : CS := fun ρ n e => c ρ n (fun t ρ' n' => if t = true then a ρ' n' e else b ρ' n' e) e.xc
def cForL (cg : CG) (body : CS) : List D → En → Nat → EndsD → Prop
  | [], ρ, n, e => e.nx ρ n
  | d :: ds, ρ, n, e => ∃ ρ1, cg d ρ = some ρ1 ∧ body ρ1 n { e with nx := fun ρ' n' => cForL cg body ds ρ' n' e, ct := fun ρ' n' => cForL cg body ds ρ' n' e, bk := e.nx }
def cFor (ci : CA) (cg : CG) (body : CS) : CS := fun ρ n e => ci ρ n (fun ds ρ' n' => cForL cg body ds ρ' n' e) e.xc
def cWhL (c : CT) (body : CS) : Nat → En → Nat → EndsD → Prop
  | 0, _, _, _ => False
  | m + 1, ρ, n, e => c ρ n (fun b ρ' n' => if b = true then body ρ' n' { e with nx := fun ρ2 n2 => cWhL c body m ρ2 n2 e, ct := fun ρ2 n2 => cWhL c body m ρ2 n2 e, bk := e.nx } else e.nx ρ' n') e.xc
def cWh (c : CT) (body : CS) : CS := fun ρ n e => ∃ m, cWhL c body m ρ n e
section
variable {X : Cx} {g : Glob} {xk : WX} {pos : Pos}
theorem pdss_nil : PDSs X g xk [] cNext := ⟨pss_imp pss_nil fun D σ H ⟨C, ρ, n, O, e, hK, E, t, l⟩ => l.nx _ _ _ _ _ t E (Same.refl _)⟩
theorem pdss_cons {st : Stmt} {rest : List Stmt} {a b : CS} (h1 : PDS X g xk st a) (h2 : PDSs X g xk rest b) : PDSs X g xk (st :: rest) (cSq a b) :=
  ⟨pss_imp (pss_cons h1.ps h2.pss) fun D σ H ⟨C, ρ, n, O, e, hK, E, t, l⟩ => ⟨C, ρ, n, O, _, hK, E, t, ⟨fun ρ' n' σ' H' O' x E' S => ⟨C, ρ', n', O', e, hK, E', x, l.mono S⟩, l.rt, l.bk, l.ct, l.xc⟩⟩⟩
theorem pdss_one {st : Stmt} {a : CS} (h1 : PDS X g xk st a) : PDSs X g xk [st] a := ⟨pss_one h1.ps⟩
theorem pds_expr {e : Expr} {t : CE} (he : PD X g xk e t) (hs : swapsWith e none pos.line X.env = pure false := by rfl) : PDS X g xk (.Expr e pos) (cDrop t) :=
  ⟨ps_imp (ps_expr he.pe hs) fun D σ H ⟨C, ρ, n, O, e, hK, E, t, l⟩ => ⟨C, ρ, n, O, _, _, hK, E, t, l.xc, fun d ρ' n' v H' O' x E' S i => l.nx _ _ _ _ _ x E' S⟩⟩
theorem pds_ret {e : Expr} {t : CE} (he : PD X g xk e t) : PDS X g xk (.Return (some e) pos) (cRet t) :=
  ⟨ps_imp (ps_ret he.pe) fun D σ H ⟨C, ρ, n, O, e, hK, E, t, l⟩ => ⟨C, ρ, n, O, _, _, hK, E, t, l.xc, fun d ρ' n' v H' O' x E' S i => l.rt _ _ _ _ x E'.fin (i.same hid_now)⟩⟩
theorem set_use {t : CE} {i : Nat} {D : Ends} {σ : L2.St} {H : Hp} (h : liftS g xk (cSet i t) D σ H) : tAsg (lift g xk t) (gName i) D σ H := by
  obtain ⟨C, ρ, n, O, e, hK, E, t, l⟩ := h
  refine ⟨C, ρ, n, O, _, _, hK, E, t, l.xc, fun d ρ' n' v H' O' x E' S iv => ?_⟩
  obtain ⟨a, b⟩ := E'.set (i := i) iv
  exact l.nx _ _ _ _ _ x a (S.trans b)
theorem own_use {t : CE} {i : Nat} {D : Ends} {σ : L2.St} {H : Hp} (h : liftS g xk (cOwn i t) D σ H) : tAsg (liftF g xk t) (gName i) D σ H := by
  obtain ⟨C, ρ, n, O, e, hK, E, t, l⟩ := h
  refine ⟨C, ρ, n, O, _, _, hK, E, t, l.xc, fun d ρ' n' p H1 H' O' x E' S hp s ow no => ?_⟩
  obtain ⟨a, b⟩ := E'.setOwn (i := i) x.1 hp s ow no
  exact l.nx _ _ _ _ _ x.2 a (S.trans b)
theorem pds_set {i : Nat} {x : Str} {e : Expr} {t : CE} {pos' : Pos} (hN : X.N.Nodup) (hi : X.N[i]? = some x) (hx : Loc X.env.scope x) (he : PD X g xk e t) (hs : swapsWith e (some (.Name x pos')) pos.line X.env = pure false := by rfl)
    (hf : X.fn x = true ∨ X.env.scope.names.lookup x = some .local := by first | exact .inl rfl | exact .inr rfl | assumption) : PDS X g xk (.Assign [.Name x pos'] e pos) (cSet i t) :=
  ⟨ps_imp (ps_set hN hi hx he.pe hs hf) fun D σ H h => set_use h⟩
theorem pds_own {i : Nat} {x : Str} {e : Expr} {t : CE} {pos' : Pos} (hN : X.N.Nodup) (hi : X.N[i]? = some x) (hx : Loc X.env.scope x) (he : PDF X g xk e t) (hs : swapsWith e (some (.Name x pos')) pos.line X.env = pure false := by rfl)
    (hf : X.fn x = true ∨ X.env.scope.names.lookup x = some .local := by first | exact .inl rfl | exact .inr rfl | assumption) : PDS X g xk (.Assign [.Name x pos'] e pos) (cOwn i t) :=
  ⟨ps_imp (ps_set hN hi hx he.pe hs hf) fun D σ H h => own_use h⟩
theorem pds_ownLc {i : Nat} {y : Str} {py : Pos} {elt tg iter : Expr} {ifs : List Expr} {scope : Scope} {own : List (Str × Nat)} {pos spos : Pos} {ci : CA} {cg : CG} {js : List Nat} {tt : CT} {te : CE} (hc : X.calm = true) (hN : X.N.Nodup) (hy : X.N[i]? = some y) (hyl : X.env.scope.names.lookup y = some .local)
    (hi : PDI X g xk tg iter ci) (ok : BlkOk X.N X.env.scope scope own)
    (hg : ∀ (s : Shared) (H : Hp) (C : Addr) (cl : List (Str × Addr)) (fp : List Addr), PDG (X.blk s H scope (compEnvC scope cl C X.env) fp) g js tg cg) (ht : ∀ (s : Shared) (H : Hp) (C : Addr) (cl : List (Str × Addr)) (fp : List Addr), PDTs (X.blk s H scope (compEnvC scope cl C X.env) fp) g xF ifs tt)
    (he : ∀ (s : Shared) (H : Hp) (C : Addr) (cl : List (Str × Addr)) (fp : List Addr), PD (X.blk s H scope (compEnvC scope cl C X.env) fp) g xF elt te)
    (hsw : swapsWith (.ListComp elt [⟨tg, iter, ifs, 0⟩] scope pos) (some (.Name y py)) spos.line X.env = pure true := by rfl) (hj : ∀ j ∈ js, j ∈ own.map (·.2) := by decide) (hs : ∀ x, foldedSetIterable iter X.env x = pure x := by intro _; rfl) :
    PDS X g xk (.Assign [.Name y py] (.ListComp elt [⟨tg, iter, ifs, 0⟩] scope pos) spos) (cOwn i (cLc ci cg tt te (own.map (·.2)))) :=
  ⟨ps_imp (ps_setLc hc hN hy hyl hsw hi.pi ok (fun s H C cl fp => (hg s H C cl fp).pg) (fun s H C cl fp => (ht s H C cl fp).pts) (fun s H C cl fp => (he s H C cl fp).pe) hs) fun D σ H h => lc_use hj (own_use h)⟩
theorem pds_if {c : Expr} {p q : List Stmt} {tc : CT} {a b : CS} (hc : PDT X g xk c tc) (ha : PDSs X g xk p a) (hb : PDSs X g xk q b) : PDS X g xk (.If c p q pos) (cIfS tc a b) := by
  refine ⟨ps_imp (ps_if hc.pt ha.pss hb.pss) fun D σ H h => ?_⟩
  obtain ⟨C, ρ, n, O, e, hK, E, t, l⟩ := h
  refine ⟨C, ρ, n, O, _, _, hK, E, t, l.xc, fun b ρ' n' H' O' x E' S => ?_⟩
  cases b with
  | true => exact ⟨C, ρ', n', O', e, hK, E', x, l.mono S⟩
  | false => exact ⟨C, ρ', n', O', e, hK, E', x, l.mono S⟩
theorem pds_for {tg iter : Expr} {body : List Stmt} {ci : CA} {cg : CG} {js : List Nat} {cb : CS} (hp : PassesOwn (model X.prog X.w) X.A X.env X.xe) (hc : X.calm = true) (hi : PDI X g xk tg iter ci) (hg : PDG X g js tg cg) (hb : PDSs X g xk body cb)
    (hs : ∀ x, foldedSetIterable iter X.env x = pure x := by intro _; rfl) : PDS X g xk (.For tg iter body [] pos) (cFor ci cg cb) := by
  refine ⟨ps_imp (ps_for hp hc hi.pi hg.pg hb.pss hs) fun D σ H h => ?_⟩
  obtain ⟨C, ρ, n, O, e, hK, E, t, l⟩ := h
  refine ⟨C, ρ, n, O, _, _, hK, E, t, l.xc, fun ds ρ1 n1 J H1 O1 k1 E1 S1 WD => ?_⟩
  obtain ⟨Gd, Y, WK, hG, hY⟩ := WD.ex
  refine for_it WK (fun i σ H => ∃ (ρ : En) (n : Nat) (O : Ow), Ev C ρ n σ H O ∧ cForL cg cb (ds.drop i) ρ n e ∧ Same (hid C O1 H1) (hid C O H)) ⟨ρ1, n1, O1, E1, k1, Same.refl _⟩ ?_ ?_ ?_
  · rintro i σ2 H2 _ ⟨ρ2, n2, O2, E2, c2, S2⟩
    exact hG _ (S2.trans hid_le)
  · rintro i x0 σ2 H2 H3 hi' ⟨ρ2, n2, O2, E2, c2, S2⟩ y
    have hd : ds.drop i = ds[i] :: ds.drop (i + 1) := List.drop_eq_getElem_cons hi'
    rw [hd] at c2
    obtain ⟨ρ3, e3, c3⟩ := c2
    obtain ⟨sY, iY⟩ := hY i x0 H2 H3 ds[i] (S2.trans hid_le) y (List.getElem?_eq_getElem hi')
    have E5 := E2.ext sY
    have S6 : Same (hid C O1 H1) (hid C O2 H3) := S2.trans (hid_same sY)
    have ix : Is C.T (hid C O2 H3) x0 ds[i] := iY _ S6 fun b u h1 h2 => let ⟨g1, g2, _, _⟩ := E2.fresh h2; hid_of h1 g1 g2
    refine ⟨C, ρ2, ρ3, n2, O2, ds[i], hK, E5, ix, e3, fun σ4 O4 E6 S7 A4 => ?_⟩
    refine ⟨C, ρ3, n2, O4, _, hK, E6, c3, ⟨fun ρ5 n5 σ5 H5 O5 x E7 S8 => ⟨ρ5, n5, O5, E7, x, (S6.trans S7).trans S8⟩, l.rt, fun ρ5 n5 σ5 H5 O5 x E7 S8 => l.nx _ _ _ _ _ x E7 (((S1.trans S6).trans S7).trans S8), fun ρ5 n5 σ5 H5 O5 x E7 S8 => ⟨ρ5, n5, O5, E7, x, (S6.trans S7).trans S8⟩, l.xc⟩⟩
  · rintro σ2 H2 ⟨ρ2, n2, O2, E2, c2, S2⟩
    rw [List.drop_length] at c2
    exact l.nx _ _ _ _ _ c2 E2 (S1.trans S2)
theorem pds_while {c : Expr} {body : List Stmt} {tc : CT} {cb : CS} (hp : PassesOwn (model X.prog X.w) X.A X.env X.xe) (hc : PDT X g xk c tc) (hb : PDSs X g xk body cb) : PDS X g xk (.While c body [] pos) (cWh tc cb) := by
  refine ⟨ps_imp (ps_while hp hc.pt hb.pss) fun D σ H h => ?_⟩
  obtain ⟨C, ρ, n, O, e, hK, E, ⟨m0, t⟩, l⟩ := h
  refine ⟨fun m σ' H' => ∃ (ρ' : En) (n' : Nat) (O' : Ow), Ev C ρ' n' σ' H' O' ∧ cWhL tc cb m ρ' n' e ∧ Same (hid C O H) (hid C O' H'), ⟨m0, ρ, n, O, E, t, Same.refl _⟩, ?_⟩
  rintro m σ1 H1 ⟨ρ1, n1, O1, E1, c1, S1⟩
  cases m with
  | zero => exact c1.elim
  | succ m =>
    refine ⟨C, ρ1, n1, O1, _, _, hK, E1, c1, l.xc, fun b ρ2 n2 H2 O2 x E2 S2 => ?_⟩
    cases b with
    | false => exact l.nx _ _ _ _ _ x E2 (S1.trans S2)
    | true =>
      exact ⟨fun σ3 H3 => ∃ (ρ' : En) (n' : Nat) (O' : Ow), Ev C ρ' n' σ3 H3 O' ∧ cWhL tc cb m ρ' n' e ∧ Same (hid C O H) (hid C O' H3), fun σ3 H3 z => ⟨m, Nat.lt_succ_self m, z⟩,
        C, ρ2, n2, O2, _, hK, E2, x, ⟨fun ρ5 n5 σ5 H5 O5 x E7 S8 => ⟨ρ5, n5, O5, E7, x, (S1.trans S2).trans S8⟩, l.rt, fun ρ5 n5 σ5 H5 O5 x E7 S8 => l.nx _ _ _ _ _ x E7 ((S1.trans S2).trans S8), fun ρ5 n5 σ5 H5 O5 x E7 S8 => ⟨ρ5, n5, O5, E7, x, (S1.trans S2).trans S8⟩, l.xc⟩⟩
end
end RM
namespace RM
open PySem PySem.Spec PyProof.Rows L2 CS RZ
/-! ### defs and calls -/
abbrev SpD := List D → Nat → (D → Nat → Prop) → (Xv → Nat → Prop) → Prop
def spD (g : Glob) (sd : SpD) : Sp := fun vs H Q E => ∃ (C : Ctx) (ds : List D) (n : Nat) (k : D → Nat → Prop) (ke : Xv → Nat → Prop), C.On g ∧ C.H0 = H ∧ Ev C [] n [] H now ∧ IsL C.T (hid C now H) vs ds ∧ sd ds n k ke ∧
  (∀ (d : D) (n' : Nat) (v : V) (H' : Hp), k d n' → Fin C n' H' → Is C.T (hid C now H') v d → Q v H') ∧
  ∀ (c : Nat) (fs : List (D × D)) (n' : Nat) (dd : Option Addr) (H' : Hp), ke (c, fs) n' → Fin C n' H' → XIs C.T (hid C now H') dd fs → E (.ref (C.T.cls c)) dd H'
def startE (N : List Str) (ds : List D) : En := ds.map (fun d => some (Sl.v d)) ++ List.replicate (N.length - ds.length) none
section
variable {X : Cx} {g : Glob} {xk : WX} {pos : Pos} {C : Ctx} {ρ : En} {n : Nat} {σ : L2.St} {H H' : Hp} {O : Ow}
theorem startE_get {N : List Str} {ds : List D} {i : Nat} {d : D} (h : (startE N ds)[i]? = some (some (Sl.v d))) : ds[i]? = some d := by
  unfold startE at h
  by_cases c : i < ds.length
  · rw [List.getElem?_append_left (by rw [List.length_map]; exact c), List.getElem?_map] at h
    rw [List.getElem?_eq_getElem c] at h ⊢
    cases h
    rfl
  · rw [List.getElem?_append_right (by rw [List.length_map]; omega), List.getElem?_replicate] at h
    split at h <;> cases h
theorem startE_own {N : List Str} {ds : List D} {i : Nat} {d : D} (h : (startE N ds)[i]? = some (some (Sl.own d))) : False := by
  unfold startE at h
  by_cases c : i < ds.length
  · rw [List.getElem?_append_left (by rw [List.length_map]; exact c), List.getElem?_map] at h
    rw [List.getElem?_eq_getElem c] at h
    cases h
  · rw [List.getElem?_append_right (by rw [List.length_map]; omega), List.getElem?_replicate] at h
    split at h <;> cases h
theorem ev_start {N : List Str} {vs : List V} {ds : List D} (E : Ev C [] n [] H now) (i : IsL C.T (hid C now H) vs ds) : Ev C (startE N ds) n (start N vs) H now := by
  refine ⟨?_, fun j d h => ?_, fun j d h => (startE_own h).elim, fun j p h => (by cases h), fun j k p h => (by cases h), E.zs, E.zt, E.keep, E.box, fun p hp j q d h => (by cases h), E.vis⟩
  · unfold startE L2.start
    rw [List.length_append, List.length_append, List.length_map, List.length_map, List.length_replicate, List.length_replicate, i.length]
  · obtain ⟨v, h1, h2⟩ := i.get (startE_get h)
    refine ⟨v, ?_, h2⟩
    unfold L2.start
    rw [List.getElem?_append_left (by rw [List.length_map]; exact lt_of_get h1), List.getElem?_map, h1]
    rfl
/-- the end of a call, sorted by what it gives back -/
theorem cr_out {CX : CXT} {P : Program} {w : World} {outer : List Env} {s : Shared} {Q : VK} {E : XK} {R : Result → Shared → Prop} (he : ∀ e s', CX outer H s E e s' → R (.error e) s') (hv : ∀ u s', L2.CE outer P w H s Q u s' → R (.ok (.ret u)) s') : ∀ r s', CR CX outer P w H s Q E r s' → R r s'
  | .error e, s', h => he e s' h
  | .ok (.ret u), s', h => hv u s' h
  | .ok .next, _, h => h.elim
  | .ok .brk, _, h => h.elim
  | .ok .cont, _, h => h.elim
/-- a caller's slots are out of the callee's sight -/
def Ctx.sub (C : Ctx) (O : Ow) (H : Hp) : Ctx := { C with Z := fun a => C.Z a ∨ ∃ i, O i = some a, H0 := H, B := fun _ => none }
theorem hid_sub : hid (C.sub O H) now H' = hid C O H' := by
  funext a
  unfold hid
  by_cases c : C.Z a ∨ ∃ i, O i = some a
  · rw [if_pos c, if_pos (.inl c)]
  · rw [if_neg c, if_neg]
    rintro (z | ⟨i, z⟩)
    · exact c z
    · cases z
theorem ev_sub (E : Ev C ρ n σ H O) : Ev (C.sub O H) [] n [] H now := by
  refine ⟨rfl, fun i d h => by simp at h, fun i d h => by simp at h, fun i p h => (by cases h), fun i j p h => (by cases h), fun a z => ?_, fun a xs z e => ?_, fun a o h _ => h, fun b h => ⟨.inl (E.box b h).1, (E.box b h).2⟩, fun p hp j q d h => (by cases h), fun a o h => (by cases h)⟩
  rcases z with z | ⟨i, z⟩
  · obtain ⟨o, ho⟩ := E.zs a z
    by_cases c : C.T.bx = some a
    · obtain ⟨A, B, F, e, _⟩ := (E.box a c).2
      exact ⟨_, e⟩
    · exact ⟨o, E.keep a o ho c⟩
  · obtain ⟨⟨d, e⟩, _⟩ := E.only i a z
    obtain ⟨p, h1, _, h3⟩ := E.own i d e
    rw [z] at h1
    cases h1
    exact h3.some
  · replace e : H a = some (.tup xs) := e
    have := E.tup e
    obtain ⟨_, h2, h3⟩ := hid_some this
    rcases z with z | ⟨i, z⟩
    · exact h2 z
    · exact h3 i z
theorem ev_back {n' : Nat} (E : Ev C ρ n σ H O) (F : Fin (C.sub O H) n' H') : Ev C ρ n' σ H' O ∧ Same (hid C O H) (hid C O H') :=
  ⟨E.extB (fun a o h z => F.keep a o h z) F.box, E.hidKb fun a o h z => F.keep a o h z⟩
def cCall (sd : SpD) (ta : CA) : CE := fun ρ n k ke => ta ρ n (fun ds ρ' n' => sd ds n' (fun d n2 => k d ρ' n2) (fun x n2 => ke x ρ' n2)) ke
/-- the promise of the callee, from a caller's reading -/
theorem spD_use {sd : SpD} {ds : List D} {vs : List V} {k : D → Nat → Prop} {ke : KE} {Q : VK} (hK : C.On g) (E : Ev C ρ n σ H O) (x : XL C xk ke) (i : IsL C.T (hid C O H) vs ds) (s : sd ds n k (fun y n2 => ke y ρ n2))
    (q : ∀ (d : D) (n' : Nat) (v : V) (H' : Hp), k d n' → Ev C ρ n' σ H' O → Same (hid C O H) (hid C O H') → Is C.T (hid C O H') v d → Q v H') : spD g sd vs H Q (WE xk σ) := by
  refine ⟨C.sub O H, ds, n, k, fun y n2 => ke y ρ n2, hK, rfl, ev_sub E, by rw [hid_sub]; exact i, s, fun d n' v H' a F b => ?_, fun c fs n' dd H' a F b => ?_⟩
  · obtain ⟨e1, e2⟩ := ev_back E F
    rw [hid_sub] at b
    exact q d n' v H' a e1 e2 b
  · obtain ⟨e1, e2⟩ := ev_back E F
    rw [hid_sub] at b
    exact x c fs ρ n' σ H' O dd a e1 b
theorem pa0 {X : Cx} {σ : L2.St} {E : XK} : PassesAt CX0 X σ E := fun _ _ _ _ _ _ h => h.elim
theorem pd_call {CX : CXT} {sd : SpD} {k : Nat} {f : Addr} {fd : FuncData} {ps : List Str} {x : Str} {p : Pos} {e : Expr} {es : List Expr} {ta : CA} (F : FnOk X.prog X.w X.K X.mg X.base CX k f fd ps (spD g sd)) (hr : Room k X.A) (hg : Gl X x) (hm : X.mg x = some (.ref f)) (hk : PySem.W.keepIn X.K (.ref f) = true) (hb : Binds X.K fd ps [])
    (hx : ∀ σ, PassesAt CX X σ (WE xk σ)) (ha : PDA X g xk (e :: es) ta) (hdb : (x == ("__debug__" : Str)) = false := by decide) (he : starEach (e :: es) X.env = (false, eval e X.env) :: starEach es X.env := by rfl) (hpl : (backTo pos (starEach es X.env)).any (·.1) = false := by rfl) :
    PD X g xk (.Call (.Name x p) (e :: es) [] pos) (cCall sd ta) :=
  ⟨PE.imp (pe_callS F hr hg hm hk hb hx ha.pa hdb he hpl) fun σ H Q ⟨C, ρ, n, O, k, ke, hK, E, t, x, q⟩ => ⟨C, ρ, n, O, _, ke, hK, E, t, x, fun ds ρ1 n1 vs H1 O1 k1 E1 S1 i1 =>
    spD_use hK E1 x i1 k1 fun d n' v H' a b c i => q _ _ _ _ _ _ a b (S1.trans c) i⟩⟩
theorem pd_call0 {CX : CXT} {sd : SpD} {k : Nat} {f : Addr} {fd : FuncData} {ps : List Str} {x : Str} {p : Pos} (F : FnOk X.prog X.w X.K X.mg X.base CX k f fd ps (spD g sd)) (hr : Room k X.A) (hg : Gl X x) (hm : X.mg x = some (.ref f)) (hk : PySem.W.keepIn X.K (.ref f) = true) (hb : Binds X.K fd ps [])
    (hx : ∀ σ, PassesAt CX X σ (WE xk σ)) (hdb : (x == ("__debug__" : Str)) = false := by decide) : PD X g xk (.Call (.Name x p) [] [] pos) (cCall sd cNil) := by
  refine ⟨⟨fun pins s σ H Q I r => ?_⟩⟩
  obtain ⟨C, ρ, n, O, k, ke, hK, E, t, x, q⟩ := r
  refine wpAny_Call_Name_kw (ld_glob I hg hm ?_ hdb)
  exact PySem.W.callWith_K0 I.kIn hk (run_fnSD (us := []) (ds := []) (dvs := []) (vs := []) (E := WE xk) F hr hb .nil (hx σ) I .nil (spD_use hK E x .nil t fun d n' v H' a b c i => q _ _ _ _ _ _ a b c i))
end
section
variable {P : Program} {w : World} {K : PySem.W.Frag} {mg : Str → Option Value} {base : Heap} {g : Glob}
/-- a def that raises nothing -/
theorem fnD {x qual : Str} {st : Stmt} {f : Addr} {fd : FuncData} {N ps : List Str} {k : Nat} {sd : SpD} {cs : CS} (F : Fun K x qual st f fd) (S : FnScope N ps (defScope st)) (hl : ∀ ds n k ke, sd ds n k ke → ds.length = ps.length)
    (hbody : ∀ (cdv : Value) (A : Around) (outer : List Env) (s : Shared) (H : Hp) (E : XK), Room k (A.deeper (envOfC qual (defScope st) s.heap.objs.size f cdv)) → PDSs (cxOf CX0 P w K mg base N qual (defScope st) f cdv A outer s H E).nox g xF (defBody st) cs)
    (himp : ∀ ds n k ke, sd ds n k ke → cs (startE N ds) n ⟨fun _ n' => k .none n', k, fun _ _ => False, fun _ _ => False, kF⟩) : FnOk P w K mg base CX0 (k + 1) f fd ps (spD g sd) := by
  refine F.ok S (fun vs H Q E h => ?_) (fun cdv A outer s H vs Q E hr h => ?_)
  · obtain ⟨C, ds, n, k, ke, _, _, _, i, sdd, _, _⟩ := h
    rw [i.length]
    exact hl _ _ _ _ sdd
  · refine ⟨_, (hbody cdv A outer s H E hr).pss, ?_⟩
    obtain ⟨C, ds, n, k, ke, hK, e0, Ev0, i, sdd, q, _⟩ := h
    exact ⟨C, _, n, now, _, hK, ev_start Ev0 i, himp _ _ _ _ sdd, ⟨fun ρ n' σ' H' O' a E' S' => q _ _ _ _ a E'.fin .non, fun d n' v H' a F b => q _ _ _ _ a F b, fun _ _ _ _ _ h => h.elim, fun _ _ _ _ _ h => h.elim, xl_F⟩⟩
end
end RM
namespace RM
open PySem PySem.Spec PyProof.Rows L2 CS RZ
/-! ### operands that are looked at, not taken: names of own things, values -/
def peekD (ρ : En) (i : Nat) : Option D := match ρ[i]? with
  | some (some (Sl.v d)) => some d
  | some (some (Sl.own d)) => some d
  | _ => none
inductive Pk (T : Tab) (Hh H : Hp) : V → D → Prop
  | val {v : V} {d : D} : Is T Hh v d → Pk T Hh H v d
  | own {p : Addr} {d : D} : OwnAt T Hh H p d → Pk T Hh H (.ref p) d
inductive Opd where
  | nm (i : Nat)
  | ex (t : CE)
def cOpd (o : Opd) (ρ : En) (n : Nat) (k : (En → Option D) → En → Nat → Prop) (ke : KE) : Prop := match o with
  | .nm i => (peekD ρ i).isSome = true ∧ k (fun ρ => peekD ρ i) ρ n
  | .ex t => t ρ n (fun d ρ' n' => k (fun _ => some d) ρ' n') ke
def liftQ (g : Glob) (xk : WX) (o : Opd) : TE := fun σ H Q => ∃ (C : Ctx) (ρ : En) (n : Nat) (O : Ow) (k : (En → Option D) → En → Nat → Prop) (ke : KE), C.On g ∧ Ev C ρ n σ H O ∧ cOpd o ρ n k ke ∧ XL C xk ke ∧
  ∀ (get : En → Option D) (ρ' : En) (n' : Nat) (v : V) (H' : Hp) (O' : Ow), k get ρ' n' → Ev C ρ' n' σ H' O' → Same (hid C O H) (hid C O' H') →
    (∀ (ρ2 : En) (n2 : Nat) (H2 : Hp) (O2 : Ow) (d : D), Ev C ρ2 n2 σ H2 O2 → Same (hid C O' H') (hid C O2 H2) → get ρ2 = some d → Pk C.T (hid C O2 H2) H2 v d) → Q v H'
structure PDQ (X : Cx) (g : Glob) (xk : WX) (e : Expr) (o : Opd) : Prop where
  pe : PE X e (liftQ g xk o)
section
variable {X : Cx} {g : Glob} {xk : WX} {pos : Pos} {C : Ctx} {ρ : En} {n : Nat} {σ : L2.St} {H H' : Hp} {O : Ow}
theorem peek_at (E : Ev C ρ n σ H O) {i : Nat} {d : D} (h : peekD ρ i = some d) : ∃ v, σ[i]? = some (some v) ∧ Pk C.T (hid C O H) H v d := by
  unfold peekD at h
  split at h
  · rename_i e
    cases h
    obtain ⟨v, h1, h2⟩ := E.val i _ e
    exact ⟨v, h1, .val h2⟩
  · rename_i e
    cases h
    obtain ⟨p, _, h1, h2⟩ := E.own i _ e
    exact ⟨_, h1, .own h2⟩
  · cases h
theorem Pk.is {T : Tab} {Hh H : Hp} {v : V} {d : D} (s : Same Hh H) (h : Pk T Hh H v d) : Is T H v d := by
  cases h with
  | val h => exact h.same s
  | own h =>
    cases h with
    | lst h r => exact .lst h (r.same s)
    | dk h r => exact .dk (.inl h) (r.same s)
    | dt h r => exact .dt (.inl h) (r.same s)
    | obj h h2 r => exact .obj h (s _ _ h2) (r.same s)
def scalD : D → Bool
  | .none => true
  | .bool _ => true
  | .int _ => true
  | .str _ => true
  | _ => false
theorem Is.scal {T : Tab} {H H' : Hp} {v : V} {d : D} (h : Is T H v d) (s : scalD d = true) : Is T H' v d := by
  cases h <;> first | exact .non | exact .bl _ | exact .int _ | exact .str _ | (cases s)
theorem scalQ {z : D} {Q : VK} (E : Ev C ρ n σ H O) (s : scalD z = true) (h : ∀ (v : V) (H' : Hp), Ev C ρ n σ H' O → Same (hid C O H) (hid C O H') → Is C.T (hid C O H') v z → Q v H') : NewQ C.T H H z Q := fun v H' s1 i =>
  h v H' (E.ext s1) (hid_same s1) ((i H' s1 fun a o e _ => e).scal s)
theorem pdq_nm (i : Nat) {x : Str} (hN : X.N[i]? = some x := by rfl) (hv : Vis X.env.scope x := by first | exact Or.inl rfl | exact Or.inr (Or.inl rfl) | exact Or.inr (Or.inr rfl)) (hd : (x == ("__debug__" : Str)) = false := by decide)
    (hcd : (x == ("__classdict__" : Str)) = false := by decide) : PDQ X g xk (.Name x pos) (.nm i) := by
  refine ⟨PE.imp (pe_var hN hv hd hcd) fun σ H Q r => ?_⟩
  obtain ⟨C, ρ, n, O, k, ke, hK, E, t, x, q⟩ := r
  obtain ⟨d, hd⟩ := Option.isSome_iff_exists.mp t.1
  obtain ⟨v, h1, h2⟩ := peek_at E hd
  refine ⟨v, h1, q _ _ _ _ _ _ t.2 E (Same.refl _) fun ρ2 n2 H2 O2 d2 E2 S2 hd2 => ?_⟩
  obtain ⟨v2, h3, h4⟩ := peek_at E2 hd2
  rw [h1] at h3
  cases h3
  exact h4
/-! scalar results -/
theorem tB_use {t : TE} {td : CE} (ht : ∀ σ H Q, lift g xk td σ H Q → t σ H Q) {σ : L2.St} {H : Hp} {Q : Bool → Hp → Prop} (h : liftT g xk (cB td) σ H Q) : t σ H fun x H1 => ∃ b, x = .bl b ∧ Q b H1 := by
  obtain ⟨C, ρ, n, O, k, ke, hK, E, t, x, q⟩ := h
  refine ht _ _ _ ⟨C, ρ, n, O, _, ke, hK, E, t, x, fun d ρ1 n1 v H1 O1 k1 E1 S1 i1 => ?_⟩
  obtain ⟨b, rfl, k1⟩ := k1
  exact ⟨b, isBl i1, q _ _ _ _ _ k1 E1 S1⟩
def cCBQ (u : List D → D → Prop) (o : Opd) : CE := fun ρ n k ke => cOpd o ρ n (fun get ρ1 n1 => ∃ x z, get ρ1 = some x ∧ u [x] z ∧ scalD z = true ∧ k z ρ1 n1) ke
theorem pd_callBQ {id : String} {u : List D → D → Prop} {x : Str} {p : Pos} {e : Expr} {o : Opd} (hc : CallD X (.builtin id) u) (G : Good X g) (hg : Gl X x) (hm : X.mg x = none) (hv : bootBuiltins x = some (.builtin id)) (ha : PDQ X g xk e o) (hn : x ≠ "__name__" := by decide) (hdb : (x == ("__debug__" : Str)) = false := by decide)
    (hs : starEach [e] X.env = (false, eval e X.env) :: starEach [] X.env := by rfl) (hpl : (backTo pos (starEach [] X.env)).any (·.1) = false := by rfl) : PD X g xk (.Call (.Name x p) [e] [] pos) (cCBQ u o) := by
  obtain ⟨r, hr, hg'⟩ := hc
  refine ⟨PE.imp (pe_callB hr hg hm hv (pa_cons ha.pe pa_nil hs) hn hdb hs hpl) fun σ H Q h => ?_⟩
  obtain ⟨C, ρ, n, O, k, ke, hK, E, t, x, q⟩ := h
  refine ⟨C, ρ, n, O, _, ke, hK, E, t, x, fun get ρ1 n1 v H1 O1 k1 E1 S1 p1 => ?_⟩
  obtain ⟨x0, z, h1, hz, sc, k1⟩ := k1
  exact hg' C.T H1 H1 [v] [x0] z Q (hK.1.trans G.K) (Same.refl _) (.cons ((p1 _ _ _ _ _ E1 (Same.refl _) h1).is hid_le) .nil) hz (scalQ E1 sc fun v3 H3 E3 S3 i3 => q _ _ _ _ _ _ k1 E3 (S1.trans S3) i3)
/-! a member -/
def cIxQ (o : Opd) (tb : CE) : CE := fun ρ n k ke => cOpd o ρ n (fun get ρ1 n1 => tb ρ1 n1 (fun y ρ2 n2 => ∃ x z, get ρ2 = some x ∧ atD x y = some z ∧ k z ρ2 n2) ke) ke
theorem pd_ixQ {a b : Expr} {o : Opd} {tb : CE} (G : Good X g) (ha : PDQ X g xk a o) (hb : PD X g xk b tb) (hs : PlainIx b) : PD X g xk (.Subscript a b pos) (cIxQ o tb) := by
  refine ⟨PE.imp (pe_ix ix_seq ha.pe hb.pe hs) fun σ H Q h => ?_⟩
  obtain ⟨C, ρ, n, O, k, ke, hK, E, t, x, q⟩ := h
  refine ⟨C, ρ, n, O, _, ke, hK, E, t, x, fun get ρ1 n1 v H1 O1 k1 E1 S1 p1 => ⟨C, ρ1, n1, O1, _, ke, hK, E1, k1, x, fun d2 ρ2 n2 v2 H2 O2 k2 E2 S2 i2 => ?_⟩⟩
  obtain ⟨x0, z, h1, hz, k2⟩ := k2
  have pk := p1 _ _ _ _ _ E2 S2 h1
  have fin : ∀ u, Is C.T (hid C O2 H2) u z → Q u H2 := fun u iu => q _ _ _ _ _ _ k2 E2 (S1.trans S2) iu
  unfold atD at hz
  split at hz
  · rename_i ds0 i0
    rw [i2.int']
    have : ∃ a xs, v = .ref a ∧ H2 a = some (.lst xs) ∧ IsL C.T (hid C O2 H2) xs ds0 := by
      cases pk with
      | val h => obtain ⟨a, xs, e, h, r⟩ := h.list'; exact ⟨a, xs, e, hid_le _ _ h, r⟩
      | own h => cases h with | lst h r => exact ⟨_, _, rfl, h, r⟩
    obtain ⟨a, xs, rfl, ha, r⟩ := this
    obtain ⟨u, h3, h4⟩ := atI_is r hz
    exact .inl ⟨a, xs, _, u, rfl, rfl, SqL.of ha, h3, fin u h4⟩
  · rw [i2.int']
    cases pk with
    | val h =>
      obtain ⟨a, xs, rfl, ha, r⟩ := h.tup'
      obtain ⟨u, h3, h4⟩ := atI_is r hz
      exact .inr (.inl ⟨a, xs, _, u, rfl, rfl, (hK.1.trans G.K) ▸ sqt_same hid_le ha, h3, fin u h4⟩)
    | own h => cases h
  · rw [i2.int']
    cases pk with
    | own h => cases h
    | val h =>
      rw [h.str']
      split at hz
      · rename_i z0 i c
        cases h' : atI z0.cps.toList i with
        | none =>
          rw [h'] at hz
          cases hz
        | some c' =>
          rw [h'] at hz
          cases hz
          exact .inr (.inr ⟨_, _, c', rfl, rfl, lim_le c, h', fin _ (.str _)⟩)
      · cases hz
  · cases hz
/-! the truth of a list, a tuple, a text -/
/-! own lists change -/
def cApp (i : Nat) (tb : CE) : CE := fun ρ n k ke => (∃ xs, ρ[i]? = some (some (Sl.own (.list xs)))) ∧ tb ρ n (fun y ρ1 n1 => ∃ xs, ρ1[i]? = some (some (Sl.own (.list xs))) ∧ xs.length < lim ∧ k .none (ρ1.set i (some (Sl.own (.list (xs ++ [y]))))) n1) ke
theorem own_list (E : Ev C ρ n σ H O) {i : Nat} {xs : List D} (h : ρ[i]? = some (some (Sl.own (.list xs)))) : ∃ p us, O i = some p ∧ σ[i]? = some (some (.ref p)) ∧ H p = some (.lst us) ∧ IsL C.T (hid C O H) us xs := by
  obtain ⟨p, h1, h2, h3⟩ := E.own i _ h
  cases h3 with
  | lst h3 r => exact ⟨p, _, h1, h2, h3, r⟩
theorem pd_append (i : Nat) {x : Str} {a : Expr} {tb : CE} {p1 apos : Pos} (ha : PD X g xk a tb) (hN : X.N[i]? = some x := by rfl) (hv : Vis X.env.scope x := by first | exact Or.inl rfl | exact Or.inr (Or.inl rfl) | exact Or.inr (Or.inr rfl)) (hd : (x == ("__debug__" : Str)) = false := by decide)
    (hcd : (x == ("__classdict__" : Str)) = false := by decide) (hbase : attributeBase (.Name x p1) "append" X.env (eval (.Name x p1) X.env) = eval (.Name x p1) X.env := by rfl)
    (hfew : ((backTo pos (starEach [a] X.env)).all (fun x => !x.1) && (backToKw pos (keywordEach [] X.env)).all (fun x => x.1.isSome)
      && decide (([a] : List Expr).length + ([] : List Keyword).length + (if ([] : List Keyword).isEmpty then 0 else 1) < 30)) = true := by rfl)
    (hline : (apos.endLine == pos.line) = true := by rfl) (hs : starEach [a] X.env = (false, eval a X.env) :: starEach [] X.env := by rfl) (hplain : (backTo pos (starEach [] X.env)).any (·.1) = false := by rfl) :
    PD X g xk (.Call (.Attribute (.Name x p1) "append" apos) [a] [] pos) (cApp i tb) := by
  refine ⟨PE.imp (pe_bm PySem.F.plainAttrs_list PySem.F.slot_list_append PySem.F.type_list_append mt_append (pe_var (i := i) hN hv hd hcd) (pa_cons ha.pe pa_nil hs) hbase hfew hline hs hplain) fun σ H Q h => ?_⟩
  obtain ⟨C, ρ, n, O, k, ke, hK, E, ⟨⟨xs, e0⟩, t⟩, x, q⟩ := h
  obtain ⟨p, us, g1, g2, g3, g4⟩ := own_list E e0
  refine ⟨.ref p, g2, .inl ⟨rfl, us, SqL.of g3⟩, C, ρ, n, O, _, ke, hK, E, t, x, fun d ρ1 n1 v H1 O1 k1 E1 S1 i1 => ?_⟩
  obtain ⟨ys, e1, hl, k1⟩ := k1
  obtain ⟨p', us', w1, w2, w3, w4⟩ := own_list E1 e1
  rw [g2] at w2
  cases w2
  obtain ⟨E2, S2⟩ := E1.chg (d := .list (ys ++ [d])) (o := .lst (us' ++ [v])) (lt_of_get e1) w1 (.lst upd_same (w4.append (.cons i1 .nil)))
  exact ⟨p, us', v, rfl, rfl, w3, by rw [w4.length]; exact lim_lt hl, q _ _ _ _ _ _ k1 E2 (S1.trans S2) .non⟩
end
end RM
namespace RM
open PySem PySem.Spec PyProof.Rows L2 CS RZ
section
variable {X : Cx} {g : Glob} {xk : WX} {pos : Pos} {C : Ctx} {ρ : En} {n : Nat} {σ : L2.St} {H H' : Hp} {O : Ow}
/-! ### truth -/
/-! ### own lists change -/
theorem name_at (E : Ev C ρ n σ H O) {ρ1 : En} {n1 : Nat} {H1 : Hp} {O1 : Ow} (E1 : Ev C ρ1 n1 σ H1 O1) {i : Nat} {p : Addr} {ys : List D} (h : σ[i]? = some (some (.ref p))) (e : ρ1[i]? = some (some (Sl.own (.list ys)))) : ∃ us, O1 i = some p ∧ H1 p = some (.lst us) ∧ IsL C.T (hid C O1 H1) us ys := by
  obtain ⟨p', us', w1, w2, w3, w4⟩ := own_list E1 e
  rw [h] at w2
  cases w2
  exact ⟨us', w1, w3, w4⟩
def ownL (ρ : En) (i : Nat) (xs : List D) : Prop := ρ[i]? = some (some (Sl.own (.list xs)))
def cMut (i : Nat) (ta : CA) (u : List D → List D → Option (D × List D)) : CE := fun ρ n k ke => (∃ xs, ownL ρ i xs) ∧ ta ρ n (fun ds ρ1 n1 => ∃ xs r ys, ownL ρ1 i xs ∧ xs.length < lim ∧ u xs ds = some (r, ys) ∧ k r (ρ1.set i (some (Sl.own (.list ys)))) n1) ke
/-- x.m(..) of an own list: what it tells, what is left -/
def MutD (X : Cx) (r : V → List V → Hp → VK → Prop) (u : List D → List D → Option (D × List D)) : Prop := ∀ (T : Tab) (Hh H : Hp) (p : Addr) (us vs : List V) (xs ds ys : List D) (z : D) (Q : VK), Same Hh H → H p = some (.lst us) → IsL T Hh us xs → IsL T Hh vs ds → xs.length < lim → u xs ds = some (z, ys) →
  (∀ v us', IsL T Hh us' ys → Is T Hh v z → Q v (upd H p (.lst us'))) → r (.ref p) vs H Q
theorem mut_use {r : V → List V → Hp → VK → Prop} {u : List D → List D → Option (D × List D)} {i : Nat} {ta : CA} (hM : MutD X r u) {σ : L2.St} {H : Hp} {Q : VK} (h : lift g xk (cMut i ta u) σ H Q) : tBM X.K "list" r (tVar i) (liftA g xk ta) σ H Q := by
  obtain ⟨C, ρ, n, O, k, ke, hK, E, ⟨⟨xs, e0⟩, t⟩, x, q⟩ := h
  obtain ⟨p, us, g1, g2, g3, g4⟩ := own_list E e0
  refine ⟨.ref p, g2, .inl ⟨rfl, us, SqL.of g3⟩, C, ρ, n, O, _, ke, hK, E, t, x, fun ds ρ1 n1 vs H1 O1 k1 E1 S1 i1 => ?_⟩
  obtain ⟨ys, z, zs, e1, hl, hu, k1⟩ := k1
  obtain ⟨us', w1, w3, w4⟩ := name_at E E1 g2 e1
  refine hM C.T (hid C O1 H1) H1 p us' vs ys ds zs z Q hid_le w3 w4 i1 hl hu fun v us2 i2 iz => ?_
  obtain ⟨E2, S2⟩ := E1.chg (d := .list zs) (o := .lst us2) (lt_of_get e1) w1 (.lst upd_same i2)
  exact q _ _ _ _ _ _ k1 E2 (S1.trans S2) (iz.same S2)
def uPopAt (xs ds : List D) : Option (D × List D) := match ds with
  | [.int i] => if 0 ≤ i ∧ i < 2 ^ 63 then (xs[i.toNat]?).map fun d => (d, xs.eraseIdx i.toNat) else none
  | _ => none
def uIns (xs ds : List D) : Option (D × List D) := match ds with
  | [.int i, d] => if 0 ≤ i ∧ i < 2 ^ 63 then some (.none, xs.take i.toNat ++ [d] ++ xs.drop i.toNat) else none
  | _ => none
theorem mu_popAt : MutD X rPopAt uPopAt := by
  intro T Hh H p us vs xs ds ys z Q s hp r i hl hu q
  unfold uPopAt at hu
  split at hu
  · split at hu
    · rename_i j c
      obtain ⟨v, rfl, iv⟩ := i.one
      rw [iv.int']
      cases hx : xs[j.toNat]? with
      | none => rw [hx] at hu; cases hu
      | some d =>
        rw [hx] at hu
        cases hu
        obtain ⟨y, h1, h2⟩ := r.get hx
        have l1 := lt_of_get h1
        refine ⟨p, us, j, j.toNat, y, rfl, rfl, hp, by omega, c.2, ?_, h1, q _ _ (r.eraseIdx _) h2⟩
        have h0 : ixN us.length j = some j.toNat := by
          unfold ixN
          rw [if_pos c.1, if_pos (by omega)]
        exact (ixN_seq h0).1
    · cases hu
  · cases hu
theorem pd_mut (i : Nat) {x : Str} {m : Str} {id : String} {a : Expr} {as : List Expr} {ta : CA} {p1 apos : Pos} {r : V → List V → Hp → VK → Prop} {u : List D → List D → Option (D × List D)} (slot : Slot "list" m id) (hty : typeOf (.builtin id) = pure (.type "method_descriptor")) (hm : MtR X id r) (hM : MutD X r u)
    (ha : PDA X g xk (a :: as) ta) (hN : X.N[i]? = some x := by rfl) (hv : Vis X.env.scope x := by first | exact Or.inl rfl | exact Or.inr (Or.inl rfl) | exact Or.inr (Or.inr rfl)) (hd : (x == ("__debug__" : Str)) = false := by decide)
    (hcd : (x == ("__classdict__" : Str)) = false := by decide) (hbase : attributeBase (.Name x p1) m X.env (eval (.Name x p1) X.env) = eval (.Name x p1) X.env := by rfl)
    (hfew : ((backTo pos (starEach (a :: as) X.env)).all (fun x => !x.1) && (backToKw pos (keywordEach [] X.env)).all (fun x => x.1.isSome)
      && decide ((a :: as).length + ([] : List Keyword).length + (if ([] : List Keyword).isEmpty then 0 else 1) < 30)) = true := by rfl)
    (hline : (apos.endLine == pos.line) = true := by rfl) (hs : starEach (a :: as) X.env = (false, eval a X.env) :: starEach as X.env := by rfl) (hplain : (backTo pos (starEach as X.env)).any (·.1) = false := by rfl) :
    PD X g xk (.Call (.Attribute (.Name x p1) m apos) (a :: as) [] pos) (cMut i ta u) :=
  ⟨PE.imp (pe_bm PySem.F.plainAttrs_list slot hty hm (pe_var (i := i) hN hv hd hcd) ha.pa hbase hfew hline hs hplain) fun σ H Q h => mut_use hM h⟩
end
end RM
namespace RM
open PySem PySem.Spec PyProof.Rows L2 CS RZ
/-! ### dicts -/
theorem eqv_kD (a b : L2.Key) : PyData.eqv (kD a) (kD b) = decide (a = b) := by
  cases a <;> cases b
  · rename_i i j
    show (i == j) = _
    rw [← key_ll]
  · rfl
  · rfl
  · rename_i x y
    show (x == y) = _
    rw [key_rr]
    by_cases c : x = y
    · rw [decide_eq_true c, c]
      exact beq_self_eq_true y
    · rw [decide_eq_false c]
      exact beq_eq_false_iff_ne.mpr c
theorem eqvAll_kD : ∀ a b : List L2.Key, PyData.eqvAll (a.map kD) (b.map kD) = decide (a = b)
  | [], [] => rfl
  | [], _ :: _ => rfl
  | _ :: _, [] => rfl
  | x :: a, y :: b => by
    show (PyData.eqv (kD x) (kD y) && PyData.eqvAll (a.map kD) (b.map kD)) = _
    rw [eqv_kD, eqvAll_kD a b]
    simp
theorem eqv_kT (a b : List L2.Key) : PyData.eqv (.tuple (a.map kD)) (.tuple (b.map kD)) = decide (a = b) := eqvAll_kD a b
def flatK : D → Bool
  | .int _ => true
  | .str _ => true
  | _ => false
inductive KeyAt (Hh : Hp) : V → D → Prop
  | k (k : L2.Key) : KeyAt Hh (kV k) (kD k)
  | t {b : Addr} {ks : List L2.Key} : Hh b = some (.tup (ks.map kV)) → KeyAt Hh (.ref b) (.tuple (ks.map kD))
theorem KeyAt.same {H H' : Hp} {v : V} {d : D} (h : KeyAt H v d) (s : Same H H') : KeyAt H' v d := by
  cases h with
  | k k => exact .k k
  | t h => exact .t (s _ _ h)
theorem isK_look {T : Tab} {H : Hp} (k : L2.Key) : ∀ {kvs : List (L2.Key × V)} {ks : List (D × D)}, IsK T H kvs ks → match keyD ks (kD k) with
    | some d => ∃ v, valV kvs k = some v ∧ Is T H v d
    | none => valV kvs k = none
  | _, _, .nil => rfl
  | _, _, .cons (k := k') (v := v) (d := d) h r => by
    have ih := isK_look k r
    unfold keyD at ih ⊢
    rw [List.find?_cons]
    show match (match PyData.eqv (kD k') (kD k) with | true => _ | false => _ : Option (D × D)).map (·.2) with | some d => _ | none => _
    rw [eqv_kD]
    by_cases c : k' = k
    · rw [decide_eq_true c]
      exact ⟨v, valV_pos (p := (k', v)) c, h⟩
    · rw [decide_eq_false c]
      rw [valV_neg (p := (k', v)) c]
      exact ih
theorem isT_look {T : Tab} {H : Hp} (k : List L2.Key) : ∀ {kvs : List (List L2.Key × V)} {ks : List (D × D)}, IsT T H kvs ks → match keyD ks (.tuple (k.map kD)) with
    | some d => ∃ v, valV kvs k = some v ∧ Is T H v d
    | none => valV kvs k = none
  | _, _, .nil => rfl
  | _, _, .cons (k := k') (v := v) (d := d) h r => by
    have ih := isT_look k r
    unfold keyD at ih ⊢
    rw [List.find?_cons]
    show match (match PyData.eqv (.tuple (k'.map kD)) (.tuple (k.map kD)) with | true => _ | false => _ : Option (D × D)).map (·.2) with | some d => _ | none => _
    rw [eqv_kT]
    by_cases c : k' = k
    · rw [decide_eq_true c]
      exact ⟨v, valV_pos (p := (k', v)) c, h⟩
    · rw [decide_eq_false c]
      rw [valV_neg (p := (k', v)) c]
      exact ih
/-- what a marked dict holds at a key: none where it may not be asked -/
def lookD : D → D → Option (Option D)
  | .dict ((.none, .bool false) :: ks), x => if flatK x = true then some (keyD ks x) else none
  | .dict ((.none, .bool true) :: ks), .tuple xs => if xs.all flatK = true then some (keyD ks (.tuple xs)) else none
  | _, _ => none
def isDct : D → Bool
  | .dict ((.none, .bool _) :: _) => true
  | _ => false
theorem kD_inj {a b : L2.Key} (h : kD a = kD b) : a = b := by
  cases a <;> cases b <;> (unfold kD at h; first | (injection h with h; rw [h]) | (cases h))
def RelOD (T : Tab) (H : Hp) : Option V → Option D → Prop
  | some v, some d => Is T H v d
  | none, none => True
  | _, _ => False
theorem pk_dk {T : Tab} {Hh H : Hp} {v : V} {ks : List (D × D)} (s : Same Hh H) (h : Pk T Hh H v (.dict ((.none, .bool false) :: ks))) : ∃ a kvs, v = .ref a ∧ Rd H a (.dK kvs) ∧ IsK T Hh kvs ks := by
  cases h with
  | val h => cases h with | dk h r => exact ⟨_, _, rfl, rd_same s h, r⟩
  | own h => cases h with | dk h r => exact ⟨_, _, rfl, .inl h, r⟩
theorem pk_dt {T : Tab} {Hh H : Hp} {v : V} {ks : List (D × D)} (s : Same Hh H) (h : Pk T Hh H v (.dict ((.none, .bool true) :: ks))) : ∃ a kvs, v = .ref a ∧ Rd H a (.dT kvs) ∧ IsT T Hh kvs ks := by
  cases h with
  | val h => cases h with | dt h r => exact ⟨_, _, rfl, rd_same s h, r⟩
  | own h => cases h with | dt h r => exact ⟨_, _, rfl, .inl h, r⟩
theorem look_use {T : Tab} {Hh H : Hp} {x y : V} {d key : D} {o : Option D} (s : Same Hh H) (h : Pk T Hh H x d) (hy : KeyAt Hh y key) (e : lookD d key = some o) : ∃ a ov, x = .ref a ∧ DGet H a y ov ∧ RelOD T Hh ov o := by
  unfold lookD at e
  split at e
  · obtain ⟨c, rfl⟩ := ifs e
    obtain ⟨a, kvs, rfl, hr, ik⟩ := pk_dk s h
    cases hy with
    | k k =>
      have := isK_look k ik
      refine ⟨a, _, rfl, .inl ⟨kvs, k, hr, rfl, rfl⟩, ?_⟩
      revert this
      split
      · rintro ⟨v, e1, e2⟩
        rename_i e3
        rw [e1, e3]
        exact e2
      · rename_i e3
        intro e1
        rw [e1, e3]
        trivial
    | t h => cases c
  · obtain ⟨c, rfl⟩ := ifs e
    obtain ⟨a, kvs, rfl, hr, ik⟩ := pk_dt s h
    generalize hk : (PyData.tuple _) = key at hy
    cases hy with
    | k k => cases k <;> cases hk
    | @t b ks hb =>
      injection hk with e4
      subst e4
      have := isT_look ks ik
      refine ⟨a, _, rfl, .inr ⟨kvs, ks, b, hr, rfl, s _ _ hb, rfl⟩, ?_⟩
      revert this
      split
      · rintro ⟨v, e1, e2⟩
        rename_i e3
        rw [e1, e3]
        exact e2
      · rename_i e3
        intro e1
        rw [e1, e3]
        trivial
  · cases e
theorem dct_use {T : Tab} {Hh H : Hp} {x : V} {d : D} (s : Same Hh H) (h : Pk T Hh H x d) (e : isDct d = true) : ∃ a, x = .ref a ∧ IsD H a := by
  unfold isDct at e
  split at e
  · rename_i b ks
    cases b with
    | false =>
      obtain ⟨a, kvs, rfl, hr, ik⟩ := pk_dk s h
      exact ⟨a, rfl, .inl ⟨kvs, hr⟩⟩
    | true =>
      obtain ⟨a, kvs, rfl, hr, ik⟩ := pk_dt s h
      exact ⟨a, rfl, .inr ⟨kvs, hr⟩⟩
  · cases e
def liftK (g : Glob) (xk : WX) (td : CE) : TE := fun σ H Q => ∃ (C : Ctx) (ρ : En) (n : Nat) (O : Ow) (k : D → En → Nat → Prop) (ke : KE), C.On g ∧ Ev C ρ n σ H O ∧ td ρ n k ke ∧ XL C xk ke ∧
  ∀ (d : D) (ρ' : En) (n' : Nat) (v : V) (H' : Hp) (O' : Ow), k d ρ' n' → Ev C ρ' n' σ H' O' → Same (hid C O H) (hid C O' H') → KeyAt (hid C O' H') v d → Q v H'
structure PDK (X : Cx) (g : Glob) (xk : WX) (e : Expr) (td : CE) : Prop where
  pe : PE X e (liftK g xk td)
section
variable {X : Cx} {g : Glob} {xk : WX} {pos : Pos}
def cKey (t : CE) : CE := fun ρ n k ke => t ρ n (fun d ρ' n' => flatK d = true ∧ k d ρ' n') ke
theorem Is.key {T : Tab} {H Hh : Hp} {v : V} {d : D} (h : Is T H v d) (f : flatK d = true) : KeyAt Hh v d := by
  cases h <;> first | exact .k (.inl _) | exact .k (.inr _) | (cases f)
theorem pk_val {e : Expr} {t : CE} (h : PD X g xk e t) : PDK X g xk e (cKey t) :=
  ⟨PE.imp h.pe fun σ H Q ⟨C, ρ, n, O, k, ke, hK, E, t, x, q⟩ => ⟨C, ρ, n, O, _, ke, hK, E, t, x, fun d ρ' n' v H' O' a b c i => q _ _ _ _ _ _ a.2 b c (i.key a.1)⟩⟩
def cDGet (o : Opd) (tk : CE) : CE := fun ρ n k ke => cOpd o ρ n (fun get ρ1 n1 => tk ρ1 n1 (fun y ρ2 n2 => ∃ x z, get ρ2 = some x ∧ lookD x y = some (some z) ∧ k z ρ2 n2) ke) ke
def cDGet2 (o : Opd) (tk tx : CE) : CE := fun ρ n k ke => cOpd o ρ n (fun get ρ1 n1 => (∃ x0, get ρ1 = some x0 ∧ isDct x0 = true) ∧ tk ρ1 n1 (fun y ρ2 n2 => tx ρ2 n2 (fun dv ρ3 n3 => ∃ x z, get ρ3 = some x ∧ lookD x y = some z ∧ k (z.getD dv) ρ3 n3) ke) ke) ke
def cDIn (b : Bool) (tk : CE) (o : Opd) : CE := fun ρ n k ke => tk ρ n (fun y ρ1 n1 => cOpd o ρ1 n1 (fun get ρ2 n2 => ∃ x z, get ρ2 = some x ∧ lookD x y = some z ∧ k (.bool (z.isSome != b)) ρ2 n2) ke) ke
theorem pd_dget {a b : Expr} {o : Opd} {tk : CE} (hu : X.A.units + 1 < cLine) (ha : PDQ X g xk a o) (hb : PDK X g xk b tk) (hs : NoSl b) : PD X g xk (.Subscript a b pos) (cDGet o tk) := by
  refine ⟨PE.imp (pe_dget hu ha.pe hb.pe hs) fun σ H Q h => ?_⟩
  obtain ⟨C, ρ, n, O, k, ke, hK, E, t, x, q⟩ := h
  refine ⟨C, ρ, n, O, _, ke, hK, E, t, x, fun get ρ1 n1 v H1 O1 k1 E1 S1 p1 => ⟨C, ρ1, n1, O1, _, ke, hK, E1, k1, x, fun y ρ2 n2 v2 H2 O2 k2 E2 S2 i2 => ?_⟩⟩
  obtain ⟨x0, z, h1, h2, k2⟩ := k2
  obtain ⟨a, ov, rfl, dg, r⟩ := look_use hid_le (p1 _ _ _ _ _ E2 S2 h1) i2 h2
  cases ov with
  | none => exact r.elim
  | some w => exact ⟨a, w, rfl, dg, q _ _ _ _ _ _ k2 E2 (S1.trans S2) r⟩
theorem pd_dget2 {a b c : Expr} {apos : Pos} {o : Opd} {tk tx : CE} (hu : X.A.units + 1 < cLine) (ha : PDQ X g xk a o) (hb : PDK X g xk b tk) (hc : PD X g xk c tx) (m : M2 X a "get" apos b c pos) : PD X g xk (.Call (.Attribute a "get" apos) [b, c] [] pos) (cDGet2 o tk tx) := by
  refine ⟨PE.imp (pe_dget2 hu ha.pe hb.pe hc.pe m) fun σ H Q h => ?_⟩
  obtain ⟨C, ρ, n, O, k, ke, hK, E, t, x, q⟩ := h
  refine ⟨C, ρ, n, O, _, ke, hK, E, t, x, fun get ρ1 n1 v H1 O1 k1 E1 S1 p1 => ?_⟩
  obtain ⟨⟨x0, h0, hd⟩, k1⟩ := k1
  obtain ⟨a0, rfl, isd⟩ := dct_use hid_le (p1 _ _ _ _ _ E1 (Same.refl _) h0) hd
  refine ⟨a0, rfl, isd, C, ρ1, n1, O1, _, ke, hK, E1, k1, x, fun y ρ2 n2 v2 H2 O2 k2 E2 S2 i2 => ⟨C, ρ2, n2, O2, _, ke, hK, E2, k2, x, fun dv ρ3 n3 v3 H3 O3 k3 E3 S3 i3 => ?_⟩⟩
  obtain ⟨x1, z, h1, h2, k3⟩ := k3
  obtain ⟨a, ov, e, dg, r⟩ := look_use hid_le (p1 _ _ _ _ _ E3 (S2.trans S3) h1) (i2.same S3) h2
  cases e
  refine ⟨ov, dg, ?_⟩
  cases ov with
  | none =>
    cases z with
    | none => exact q _ _ _ _ _ _ k3 E3 ((S1.trans S2).trans S3) i3
    | some z => exact r.elim
  | some w =>
    cases z with
    | none => exact r.elim
    | some z => exact q _ _ _ _ _ _ k3 E3 ((S1.trans S2).trans S3) r
theorem relod_some {T : Tab} {H : Hp} {ov : Option V} {z : Option D} (r : RelOD T H ov z) : ov.isSome = z.isSome := by
  cases ov <;> cases z <;> first | rfl | exact r.elim
theorem din_use {tk : CE} {o : Opd} {σ : L2.St} {H : Hp} {Q : VK} (h : lift g xk (cDIn false tk o) σ H Q) : tDIn (liftK g xk tk) (liftQ g xk o) σ H Q := by
  obtain ⟨C, ρ, n, O, k, ke, hK, E, t, x, q⟩ := h
  refine ⟨C, ρ, n, O, _, ke, hK, E, t, x, fun y ρ1 n1 v H1 O1 k1 E1 S1 i1 => ⟨C, ρ1, n1, O1, _, ke, hK, E1, k1, x, fun get ρ2 n2 v2 H2 O2 k2 E2 S2 p2 => ?_⟩⟩
  obtain ⟨x1, z, h1, h2, k2⟩ := k2
  obtain ⟨a, ov, rfl, dg, r⟩ := look_use hid_le (p2 _ _ _ _ _ E2 (Same.refl _) h1) (i1.same S2) h2
  refine ⟨a, ov, rfl, dg, q _ _ _ _ _ _ k2 E2 (S1.trans S2) ?_⟩
  rw [relod_some r]
  cases z.isSome <;> exact .bl _
theorem pdt_din {a b : Expr} {o : Opd} {tk : CE} (hu : X.A.units + 1 < cLine) (ha : PDK X g xk a tk) (hb : PDQ X g xk b o) (hm : behindInMarks .In b = false) : PDT X g xk (.Compare a [.In] [b] pos) (cB (cDIn false tk o)) :=
  ⟨PT.imp (pt_cmp (pc_din hu ha.pe hb.pe) hm) fun σ H Q h => tB_use (fun _ _ _ h => din_use h) h⟩
/-! a new dict, a store -/
def cDNew (b : Bool) : CE := fun ρ n k _ => k (.dict [(.none, .bool b)]) ρ n
theorem pf_dnewK : PDF X g xk (.Dict [] [] pos) (cDNew false) := ⟨PE.imp pe_dnewK fun σ H Q ⟨C, ρ, n, O, k, ke, hK, E, t, x, q⟩ => fun p hp => q _ _ _ _ _ _ _ t E (Same.refl _) hp (same_new hp) (.dk upd_same .nil) rfl⟩
def putKD (ks : List (D × D)) (x d : D) : List (D × D) := if (ks.any fun kv => PyData.eqv kv.1 x) = true then ks.map (fun kv => if PyData.eqv kv.1 x = true then (kv.1, d) else kv) else ks ++ [(x, d)]
def putD : D → D → D → Option D
  | .dict ((.none, .bool false) :: ks), x, d => if flatK x = true ∧ ks.length < lim then some (.dict ((.none, .bool false) :: putKD ks x d)) else none
  | .dict ((.none, .bool true) :: ks), .tuple xs, d => if xs.all flatK = true ∧ ks.length < lim then some (.dict ((.none, .bool true) :: putKD ks (.tuple xs) d)) else none
  | _, _, _ => none
theorem isK_any {T : Tab} {H : Hp} (k : L2.Key) : ∀ {kvs : List (L2.Key × V)} {ks : List (D × D)}, IsK T H kvs ks → (ks.any fun kv => PyData.eqv kv.1 (kD k)) = (kvs.any fun kv => decide (kv.1 = k))
  | _, _, .nil => rfl
  | _, _, .cons (k := k') h r => by rw [List.any_cons, List.any_cons, isK_any k r, eqv_kD]
theorem isK_map {T : Tab} {H : Hp} (k : L2.Key) {v : V} {d : D} (iv : Is T H v d) : ∀ {kvs : List (L2.Key × V)} {ks : List (D × D)}, IsK T H kvs ks → IsK T H (kvs.map fun kv => if kv.1 = k then (kv.1, v) else kv) (ks.map fun kv => if PyData.eqv kv.1 (kD k) = true then (kv.1, d) else kv)
  | _, _, .nil => .nil
  | _, _, .cons (k := k') (v := v') (d := d') h r => by
    rw [List.map_cons, List.map_cons]
    simp only [eqv_kD]
    by_cases c : k' = k
    · rw [if_pos c, if_pos (decide_eq_true c)]
      exact .cons iv (isK_map k iv r)
    · rw [if_neg c, if_neg (by rw [decide_eq_false c]; simp)]
      exact .cons h (isK_map k iv r)
theorem isK_snoc {T : Tab} {H : Hp} (k : L2.Key) {v : V} {d : D} (iv : Is T H v d) : ∀ {kvs : List (L2.Key × V)} {ks : List (D × D)}, IsK T H kvs ks → IsK T H (kvs ++ [(k, v)]) (ks ++ [(kD k, d)])
  | _, _, .nil => .cons iv .nil
  | _, _, .cons h r => .cons h (isK_snoc k iv r)
theorem isK_put {T : Tab} {H : Hp} (k : L2.Key) {v : V} {d : D} {kvs : List (L2.Key × V)} {ks : List (D × D)} (iv : Is T H v d) (i : IsK T H kvs ks) : IsK T H (L2.putK kvs k v) (putKD ks (kD k) d) := by
  unfold L2.putK putKD
  rw [isK_any k i]
  split
  · exact isK_map k iv i
  · exact isK_snoc k iv i
theorem isT_any {T : Tab} {H : Hp} (k : List L2.Key) : ∀ {kvs : List (List L2.Key × V)} {ks : List (D × D)}, IsT T H kvs ks → (ks.any fun kv => PyData.eqv kv.1 (.tuple (k.map kD))) = (kvs.any fun kv => decide (kv.1 = k))
  | _, _, .nil => rfl
  | _, _, .cons (k := k') h r => by rw [List.any_cons, List.any_cons, isT_any k r, eqv_kT]
theorem isT_map {T : Tab} {H : Hp} (k : List L2.Key) {v : V} {d : D} (iv : Is T H v d) : ∀ {kvs : List (List L2.Key × V)} {ks : List (D × D)}, IsT T H kvs ks → IsT T H (kvs.map fun kv => if kv.1 = k then (kv.1, v) else kv) (ks.map fun kv => if PyData.eqv kv.1 (.tuple (k.map kD)) = true then (kv.1, d) else kv)
  | _, _, .nil => .nil
  | _, _, .cons (k := k') (v := v') (d := d') h r => by
    rw [List.map_cons, List.map_cons]
    simp only [eqv_kT]
    by_cases c : k' = k
    · rw [if_pos c, if_pos (decide_eq_true c)]
      exact .cons iv (isT_map k iv r)
    · rw [if_neg c, if_neg (by rw [decide_eq_false c]; simp)]
      exact .cons h (isT_map k iv r)
theorem isT_snoc {T : Tab} {H : Hp} (k : List L2.Key) {v : V} {d : D} (iv : Is T H v d) : ∀ {kvs : List (List L2.Key × V)} {ks : List (D × D)}, IsT T H kvs ks → IsT T H (kvs ++ [(k, v)]) (ks ++ [(.tuple (k.map kD), d)])
  | _, _, .nil => .cons iv .nil
  | _, _, .cons h r => .cons h (isT_snoc k iv r)
theorem isT_put {T : Tab} {H : Hp} (k : List L2.Key) {v : V} {d : D} {kvs : List (List L2.Key × V)} {ks : List (D × D)} (iv : Is T H v d) (i : IsT T H kvs ks) : IsT T H (L2.putK kvs k v) (putKD ks (.tuple (k.map kD)) d) := by
  unfold L2.putK putKD
  rw [isT_any k i]
  split
  · exact isT_map k iv i
  · exact isT_snoc k iv i
theorem isK_len {T : Tab} {H : Hp} : ∀ {kvs : List (L2.Key × V)} {ks : List (D × D)}, IsK T H kvs ks → kvs.length = ks.length
  | _, _, .nil => rfl
  | _, _, .cons _ r => by rw [List.length_cons, List.length_cons, isK_len r]
theorem isT_len {T : Tab} {H : Hp} : ∀ {kvs : List (List L2.Key × V)} {ks : List (D × D)}, IsT T H kvs ks → kvs.length = ks.length
  | _, _, .nil => rfl
  | _, _, .cons _ r => by rw [List.length_cons, List.length_cons, isT_len r]
def ownD (ρ : En) (i : Nat) (d : D) : Prop := ρ[i]? = some (some (Sl.own d))
def cDPut (i : Nat) (tk tv : CE) : CS := fun ρ n e => tv ρ n (fun d ρ1 n1 => (∃ m, ownD ρ1 i m) ∧ tk ρ1 n1 (fun y ρ2 n2 => ∃ m m', ownD ρ2 i m ∧ putD m y d = some m' ∧ e.nx (ρ2.set i (some (Sl.own m'))) n2) e.xc) e.xc
theorem pds_dput (i : Nat) {x : Str} {a v : Expr} {tk tv : CE} {p1 p2 : Pos} (hu : X.A.units + 1 < cLine) (hi : PDK X g xk a tk) (he : PD X g xk v tv) (hN : X.N[i]? = some x := by rfl) (hv : Vis X.env.scope x := by first | exact Or.inl rfl | exact Or.inr (Or.inl rfl) | exact Or.inr (Or.inr rfl)) (hd : (x == ("__debug__" : Str)) = false := by decide)
    (hcd : (x == ("__classdict__" : Str)) = false := by decide) (hs : swapsWith v (some (.Subscript (.Name x p1) a p2)) pos.line X.env = pure false := by rfl) :
    PDS X g xk (.Assign [.Subscript (.Name x p1) a p2] v pos) (cDPut i tk tv) := by
  refine ⟨ps_imp (ps_dput hu (pe_var (i := i) hN hv hd hcd) hi.pe he.pe hs) fun F σ H h => ?_⟩
  obtain ⟨C, ρ, n, O, e, hK, E, t, l⟩ := h
  refine ⟨C, ρ, n, O, _, _, hK, E, t, l.xc, fun d ρ1 n1 v H1 O1 k1 E1 S1 i1 => ?_⟩
  obtain ⟨⟨m0, e0⟩, k1⟩ := k1
  obtain ⟨p, g1, g2, g3⟩ := E1.own i _ e0
  refine ⟨.ref p, g2, C, ρ1, n1, O1, _, _, hK, E1, k1, l.xc, fun y ρ2 n2 v2 H2 O2 k2 E2 S2 i2 => ?_⟩
  obtain ⟨m, m', e2, hu, k2⟩ := k2
  obtain ⟨p', w1, w2, w3⟩ := E2.own i _ e2
  rw [g2] at w2
  cases w2
  have i1' := i1.same S2
  unfold putD at hu
  split at hu
  · obtain ⟨⟨c1, c2⟩, rfl⟩ := ifs hu
    cases w3 with
    | dk h r =>
      cases i2 with
      | t h => cases c1
      | k k =>
        refine ⟨p, _, rfl, .k h (by rw [isK_len r]; exact lim_lt c2), ?_⟩
        obtain ⟨E3, S3⟩ := E2.chg (o := .dK (L2.putK _ k v)) (lt_of_get e2) w1 (.dk upd_same (isK_put k i1' r))
        exact l.nx _ _ _ _ _ k2 E3 ((S1.trans S2).trans S3)
  · obtain ⟨⟨c1, c2⟩, rfl⟩ := ifs hu
    cases w3 with
    | dt h r =>
      generalize hk : (PyData.tuple _) = key at i2
      cases i2 with
      | k k => cases k <;> cases hk
      | @t b ks hb =>
        injection hk with e4
        subst e4
        refine ⟨p, _, rfl, .t h (hid_le _ _ hb) (by rw [isT_len r]; exact lim_lt c2), ?_⟩
        obtain ⟨E3, S3⟩ := E2.chg (o := .dT (L2.putK _ ks v)) (lt_of_get e2) w1 (.dt upd_same (isT_put ks i1' r))
        exact l.nx _ _ _ _ _ k2 E3 ((S1.trans S2).trans S3)
  · cases hu
end
end RM
namespace RM
open PySem PySem.Spec PyProof.Rows L2 CS RZ
/-! ### objects -/
def fieldD (fs : List (D × D)) (f : Str) : Option D := (fs.find? fun kv => PyData.eqv kv.1 (.str f)).map (·.2)
theorem eqv_str (a b : Str) : PyData.eqv (.str a) (.str b) = decide (a = b) := by
  show (a == b) = _
  by_cases c : a = b
  · rw [decide_eq_true c, c]
    exact beq_self_eq_true b
  · rw [decide_eq_false c]
    exact beq_eq_false_iff_ne.mpr c
section
variable {X : Cx} {g : Glob} {xk : WX} {pos : Pos} {C : Ctx} {ρ : En} {n : Nat} {σ : L2.St} {H H' : Hp} {O : Ow}
/-- o.f, a property: what its def tells -/
def cProp (sd : SpD) (ta : CE) (c : Nat) : CE := fun ρ n k ke => ta ρ n (fun d ρ1 n1 => (∃ fs, d = obj c fs) ∧ sd [d] n1 (fun z n2 => k z ρ1 n2) (fun _ _ => False)) ke
/-- o.m(..) -/
def cMeth (sd : SpD) (to : CE) (ta : CA) (c : Nat) (m : Str) : CE := fun ρ n k ke => to ρ n (fun d ρ1 n1 => (∃ fs, d = obj c fs ∧ fieldD fs m = none) ∧ ta ρ1 n1 (fun ds ρ2 n2 => sd (d :: ds) n2 (fun z n3 => k z ρ2 n3) (fun y n3 => ke y ρ2 n3)) ke) ke
/-! ### a new object -/
abbrev SpI := List D → Nat → (List (D × D) → Nat → Prop) → (Xv → Nat → Prop) → Prop
def cMake (c : Nat) (sd : SpI) (ta : CA) : CE := fun ρ n k ke => ta ρ n (fun ds ρ1 n1 => sd ds n1 (fun fs n2 => k (obj c fs) ρ1 n2) (fun y n2 => ke y ρ1 n2)) ke
end
end RM
namespace L2
open PySem PySem.Spec PyProof.Rows CS
end L2
namespace RM
open PySem PySem.Spec PyProof.Rows L2 CS RZ
/-! ### __init__ -/
section
variable {P : Program} {w : World} {K : PySem.W.Frag} {mg : Str → Option Value} {base : Heap} {g : Glob}
def at0 (x : Addr) : Ow := fun i => if i = 0 then some x else none
end
/-! ### own errors -/
def errF (fs : List Str) (ds : List D) : List (D × D) := ((fs.zip ds).map fun p => (.str p.1, p.2)).reverse
end RM
namespace RM
open PySem PySem.Spec PyProof.Rows L2 CS RZ
/-! ### try: .. except C as n: .. -/
end RM
namespace RM
open PySem PySem.Spec PyProof.Rows L2 CS RZ
/-! ### operators of own classes -/
section
variable {X : Cx} {g : Glob} {xk : WX} {pos : Pos}
/-! o[e] -/
def cSubO (sd : SpD) (ta tb : CE) (c : Nat) : CE := fun ρ n k ke => ta ρ n (fun x ρ1 n1 => tb ρ1 n1 (fun y ρ2 n2 => (∃ fs, x = obj c fs) ∧ sd [x, y] n2 (fun z n3 => k z ρ2 n3) (fun w n3 => ke w ρ2 n3)) ke) ke
/-! e in o, e not in o -/
/-! a == b of one own class -/
end
end RM
namespace L2
open PySem PySem.Spec PyProof.Rows
/-! ### {k: v for ..} whose keys may be tuples -/
/-- the reading: o0 is what the new dict is at first -/
def tDcP (o0 : HO) (wi : TI) (g : TG) (tt : TT) (tk tv : TE) (vs : List Nat) : TE := fun σ H Q => wi σ H fun J H1 => ∀ D, H1 D = none → ∃ W : Nat → Nat → Hp → Prop, (∃ m, W 0 m (upd H1 D o0)) ∧
  ∀ i m H, W i m H → (J.stop i H ∧ Q (.ref D) H) ∨ (J.go i H ∧ ∃ Nx : Hp → Prop, (∀ H', Nx H' → ∃ m', m' < m ∧ W (i + 1) m' H') ∧
    ∀ x H', J.yld i H x H' → g x (wipe σ vs) H' fun σ2 H2 => wipe σ2 vs = wipe σ vs ∧ tt σ2 H2 fun b H3 => if b = true then tk σ2 H3 fun y H4 => tv σ2 H4 fun z H5 => ∃ H6, DPut H5 D y z H6 ∧ Nx H6 else Nx H3)
/-- an empty dict of either kind -/
def Void (o : HO) : Prop := o = .dK [] ∨ o = .dT []
section
variable {X : Cx} {pins : List (Addr × Obj)} {σ : St} {H H' : Hp} {s : Shared} {D : Addr}
theorem void_laid {o : HO} (v : Void o) (I : Inv X pins σ H s) : Inv X pins σ (upd H s.heap.objs.size o) { s with heap := s.heap.push { cls := .type "dict", data := .dict #[] } } :=
  I.laid (t' := s.toks) (fun _ _ q => Heap.get?_push_of_some _ q) (Nat.le_refl _) (v.elim (fun e => e ▸ dk_empty s.heap I.big) fun e => e ▸ dt_empty s.heap I.big)
/-- a comprehension's d[k] = v -/
theorem void_put {E : Value → Shared → Prop} {Q : Unit → Shared → Prop} {y z : V} {u r : Value} (hu : X.A.units + 1 < cLine) (I : Inv X pins σ H s) (p : DPut H D y z H') (ry : RelV y u) (rz : RelV z r) (q : ∀ s', Inv X pins σ H' s' → Q () s') :
    wpAny (model X.prog X.w) X.A (dictSet D u r) Q E s := by
  rcases p with ⟨kvs, k, e, rfl, l, rfl⟩ | ⟨kvs, k, b, e, rfl, eb, l, rfl⟩
  · exact d_dictSet I e l ry rz q
  · obtain rfl : u = Value.ref b := ry
    obtain ⟨small, low, xs, rel, dd⟩ := dt_of I.hok e
    have few : xs.length ≤ sizeLine := (Paired.length rel) ▸ small
    have more : (L2.putK kvs k z).length ≤ sizeLine := by
      have := length_putK kvs k z
      omega
    refine wpAny_dictSet_heap (knd := tupleKind (mixKind X.prog X.w)) (hsz := few) (show X.A.units < cLine by omega) (key_of I.hok eb) dd fun h' dd' only => q _ ?_
    obtain ⟨ob, es, ep, there, shape⟩ := dd'
    obtain ⟨s2, s3, s4, _, s5⟩ := shape
    refine d_write I (by rw [e]; trivial) only ⟨ob, there⟩ ⟨more, low, _, (rel.put k eb rz).keeps fun c ys ec => ?_, ob, es, ep, there, s2, s3, s4, s5⟩
    have ne : c ≠ D := ne_of ec e (fun w => nomatch w)
    rw [upd_ne ne]
    exact ec
end
section
variable {X : Cx} {pins : List (Addr × Obj)} {σ : St} {H : Hp} {s : Shared} {Q : VK}
/-- the block of a comprehension begins: where it stands, what of the iterator's objects holds there -/
structure Block (X : Cx) (pins : List (Addr × Obj)) (s : Shared) (H : Hp) (scope : Scope) (fp : List Addr) (vs : List Nat) (σ : St) (E : Env) (s4 : Shared) : Prop where
  env : ∃ cl, E = compEnvC scope cl s.heap.objs.size X.env
  inv : Inv (X.blk s H scope E fp) [] (wipe σ vs) H s4
  loc : E.locals = s.heap.objs.size
  old : ∀ b o, s.heap.get? b = some o → s4.heap.get? b = some o
theorem block_at {scope : Scope} {own : List (Str × Nat)} {fp : List Addr} (I : Inv X pins σ H s) (ok : BlkOk X.N X.env.scope scope own) (nd : X.N.Nodup) (f : ∀ b ∈ fp, FpOk X pins H b ∧ b < s.heap.objs.size) :
    Block X pins s H scope fp (own.map (·.2)) σ (compEnvC scope (cellsFrom (s.heap.objs.size + 1) scope.names (cloFrom X.env.cells scope.names [])) s.heap.objs.size X.env) { s with heap := pushCells (s.heap.push { cls := .type "dict", data := .dict #[] }) scope.names } :=
  ⟨⟨_, rfl⟩, block_start I ok nd f, rfl, fun b o e => pushCells_keeps _ _ _ _ (Heap.get?_push_of_some _ e)⟩
theorem dcP_core {kx vx tg iter : Expr} {ifs : List Expr} {scope : Scope} {own : List (Str × Nat)} {pos pos' : Pos} {o0 : HO} {wi : TI} {g : TG} {tt : TT} {tk tv : TE} {use : Option (Value → Sem Unit)} {Qf : Value → Shared → Prop} (v0 : Void o0) (hu : X.A.units + 1 < cLine)
    (calm : X.calm = true) (nd : X.N.Nodup) (I : Inv X pins σ H s) (hi : PI X tg iter wi) (ok : BlkOk X.N X.env.scope scope own)
    (hg : ∀ (s : Shared) (H : Hp) (C : Addr) (cl : List (Str × Addr)) (fp : List Addr), PG (X.blk s H scope (compEnvC scope cl C X.env) fp) tg g) (ht : ∀ (s : Shared) (H : Hp) (C : Addr) (cl : List (Str × Addr)) (fp : List Addr), PTs (X.blk s H scope (compEnvC scope cl C X.env) fp) ifs tt)
    (hk : ∀ (s : Shared) (H : Hp) (C : Addr) (cl : List (Str × Addr)) (fp : List Addr), PE (X.blk s H scope (compEnvC scope cl C X.env) fp) kx tk) (hv : ∀ (s : Shared) (H : Hp) (C : Addr) (cl : List (Str × Addr)) (fp : List Addr), PE (X.blk s H scope (compEnvC scope cl C X.env) fp) vx tv)
    (fold : ∀ x, foldedSetIterable iter X.env x = pure x) (h : tDcP o0 wi g tt tk tv (own.map (·.2)) σ H Q)
    (done : ∀ D C s' m H', Inv X pins σ H' s' → Q (.ref D) H' → s'.heap.Ns C m → FpOk X pins H' C → compPost (model X.prog X.w) X.A X.xe use Qf (.ref D) C (.ok .next) s') :
    wpAny (model X.prog X.w) X.A (comprehension (.DictComp kx vx [⟨tg, iter, ifs, 0⟩] scope pos) scope X.env pos' newDict false (eval iter X.env) use) Qf X.xe s := by
  have caught : ∀ y ∈ scope.names, y.2 = .free → ∃ c, X.env.cells.lookup y.1 = some c := fun y hy e => (ok.free y hy e).elim (fun k => I.ok.has _ (.inl k)) fun k => I.ok.has _ (.inr k)
  refine wpAny_comprehension_free (use := use) rfl fold (closure_ok caught) ok.kind (fun y hy e => (ok.uniq y hy).trans (congrArg some e)) (thn (hi.run pins s σ H _ I h) fun src s1 w1 => thn w1 fun walker s2 w2 => ?_)
  obtain ⟨it, fp, tn, J, H2, rfl, I2, T, at0, f2, q⟩ := w2
  refine wpAny_newObj_type (newEnv_comp ?_)
  have room : H2 s2.heap.objs.size = none := I2.hok.fresh (Nat.le_refl _)
  obtain ⟨W, ⟨m0, w0⟩, turn⟩ := q s2.heap.objs.size room
  have I3 := void_laid v0 I2
  have young : ∀ b ∈ fp, b < s2.heap.objs.size := fun b hb => let ⟨_, e, _⟩ := T.obj _ _ at0 b hb; Heap.lt_size e
  have f3 : ∀ b ∈ fp, FpOk X pins (upd H2 s2.heap.objs.size o0) b ∧ b < (s2.heap.push { cls := .type "dict", data := .dict #[] }).objs.size := fun b hb =>
    ⟨⟨(upd_ne (Nat.ne_of_lt (young b hb))).trans (f2 b hb).1, (f2 b hb).2⟩, Nat.lt_of_lt_of_le (young b hb) (by rw [Heap.size_push]; exact Nat.le_succ _)⟩
  have step0 : tn 0 (s2.heap.push { cls := .type "dict", data := .dict #[] }) := T.keep _ _ _ at0 fun b _ o e => Heap.get?_push_of_some _ e
  generalize hD : s2.heap.objs.size = D at *
  generalize hs3 : ({ s2 with heap := s2.heap.push { cls := .type "dict", data := .dict #[] } } : Shared) = s3 at *
  have e3 : s2.heap.push { cls := .type "dict", data := .dict #[] } = s3.heap := by rw [← hs3]
  rw [e3] at f3 step0
  generalize hH : upd H2 D o0 = H3 at *
  have B := block_at I3 ok nd f3
  have step1 : tn 0 (pushCells (s3.heap.push { cls := .type "dict", data := .dict #[] }) scope.names) := T.keep _ _ _ step0 fun b _ o e => B.old b o e
  show codeAny _ _ (.compStart _ 0 (.ref it) (.ref D) (compEnvC scope (cellsFrom (s3.heap.objs.size + 1) scope.names (cloFrom X.env.cells scope.names [])) s3.heap.objs.size X.env)) (compPost _ X.A X.xe use Qf (.ref D) s3.heap.objs.size) { s3 with heap := pushCells (s3.heap.push { cls := .type "dict", data := .dict #[] }) scope.names }
  have nG := hg s3 H3 s3.heap.objs.size (cellsFrom (s3.heap.objs.size + 1) scope.names (cloFrom X.env.cells scope.names [])) fp
  have nT := ht s3 H3 s3.heap.objs.size (cellsFrom (s3.heap.objs.size + 1) scope.names (cloFrom X.env.cells scope.names [])) fp
  have nK := hk s3 H3 s3.heap.objs.size (cellsFrom (s3.heap.objs.size + 1) scope.names (cloFrom X.env.cells scope.names [])) fp
  have nV := hv s3 H3 s3.heap.objs.size (cellsFrom (s3.heap.objs.size + 1) scope.names (cloFrom X.env.cells scope.names [])) fp
  generalize hce : compEnvC scope (cellsFrom (s3.heap.objs.size + 1) scope.names (cloFrom X.env.cells scope.names [])) s3.heap.objs.size X.env = ce at B nG nT nK nV ⊢
  have free0 : ∀ b ∈ fp, H3 b = none := fun b hb => (f3 b hb).1.1
  have I4 := B.inv
  have cL := B.loc
  have mine : ∀ {σ' : St} {H' : Hp} {s' : Shared}, Inv (X.blk s3 H3 scope ce fp) [] σ' H' s' → (∀ b ∈ fp, H' b = none) → ∀ b ∈ fp, FpOk (X.blk s3 H3 scope ce fp) [] H' b := fun J' no b hb =>
    ⟨no b hb, (J'.ok.exf b hb).1, J'.ok.exfs b hb, .inl hb, fun x c e => (J'.ok.exf b hb).2 x c e, fun p hp => nomatch (show p ∈ ([] : List (Addr × Obj)) by simpa using hp)⟩
  generalize hs4 : ({ s3 with heap := pushCells (s3.heap.push { cls := .type "dict", data := .dict #[] }) scope.names } : Shared) = s4 at I4 ⊢
  have step4 : tn 0 s4.heap := by
    rw [← hs4]
    exact step1
  have turns : codeAny (model X.prog X.w) X.A (.compLoop (.DictComp kx vx [⟨tg, iter, ifs, 0⟩] scope pos) 0 (.ref it) (.ref D) ce) (compPost (model X.prog X.w) X.A X.xe use Qf (.ref D) s3.heap.objs.size) s4 := by
    refine compLoop_anyD (fun m t => ∃ i G, Inv (X.blk s3 H3 scope ce fp) [] (wipe σ (own.map (·.2))) G t ∧ tn i t.heap ∧ (∀ b ∈ fp, G b = none) ∧ W i m G) ?_ m0 ⟨0, H3, I4, step4, free0, w0⟩
    rintro m t ⟨i, G, IG, stepG, freeG, wG⟩
    rcases turn i m G wG with ⟨halt, qG⟩ | ⟨goes, Nx, toNx, each⟩
    · refine thnF (T.done (X.blk s3 H3 scope ce fp) rfl rfl rfl calm i [] t _ G (fun _ _ => False) IG (mine IG freeG) stepG halt) fun r t1 ⟨rNone, I1⟩ => ?_
      subst rNone
      have home : Inv X pins σ G t1 := I3.call' (ch := fp) I1.os I1.base I1.hok I1.bare fun b hb => let z := (f3 b hb).1; ⟨z.2.2.2.1, z.2.1, z.2.2.2.2.1, z.2.2.2.2.2⟩
      have noC : G s3.heap.objs.size = none := by
        rw [← cL]
        exact I1.free
      obtain ⟨mm, names, _⟩ := I1.loc
      rw [show (X.blk s3 H3 scope ce fp).env.locals = s3.heap.objs.size from cL] at names
      exact done D s3.heap.objs.size t1 mm G home qG names (I3.fpOk (Nat.le_refl _) noC)
    · refine thnF (T.item (X.blk s3 H3 scope ce fp) rfl rfl rfl calm i [] t _ G (fun _ _ => False) IG (mine IG freeG) stepG goes) fun r t1 ⟨u, rSome, w1⟩ => ?_
      subst rSome
      refine thnF w1 fun _ t2 ⟨x, G2, I2', r2, y2, step2, free2⟩ => ?_
      refine thnF (nG.run _ t2 _ G2 x u _ (I2'.pinned (mine I2' free2) (T.obj _ _ step2)) r2 (each x G2 y2)) fun _ t3 ⟨σ3, G3, I3', wiped, q3⟩ => ?_
      refine thnF (nT.run _ t3 σ3 G3 _ I3' q3) fun b t4 ⟨G4, I4', q4⟩ => ?_
      have next : ∀ {t' : Shared} {G' : Hp}, Inv (X.blk s3 H3 scope ce fp) ([] ++ pinsAt fp t2.heap) σ3 G' t' → Nx G' → ∃ k, k < m ∧ ∃ i G, Inv (X.blk s3 H3 scope ce fp) [] (wipe σ (own.map (·.2))) G t' ∧ tn i t'.heap ∧ (∀ b ∈ fp, G b = none) ∧ W i k G := fun {t' G'} I' nx => by
        obtain ⟨k, less, w'⟩ := toNx G' nx
        have held : ∀ b ∈ fp, ∀ o, t2.heap.get? b = some o → t'.heap.get? b = some o ∧ G' b = none := fun b hb o e =>
          let z := I'.pin (b, o) (List.mem_append_right _ (List.mem_append_right _ (mem_pinsAt hb e)))
          ⟨z.1, z.2.1⟩
        have len : (wipe σ (own.map (·.2))).length = σ3.length := by
          rw [← wiped, wipe_length]
        refine ⟨k, less, i + 1, G', (I'.unpinned (pins := [])).weak len (fun j v e => ?_), T.keep _ _ _ step2 fun b hb o e => (held b hb o e).1, fun b hb => ?_, w'⟩
        · rw [← wiped] at e
          exact (wipe_some e).1
        · obtain ⟨o, e, _⟩ := T.obj _ _ step2 b hb
          exact (held b hb o e).2
      cases b with
      | false =>
        rw [if_neg Bool.false_ne_true] at q4 ⊢
        exact next I4' q4
      | true =>
        rw [if_pos rfl] at q4 ⊢
        refine thnF (nK.run _ t4 σ3 G4 _ I4' q4) fun a t5 ⟨y, G5, I5', r5, q5⟩ => ?_
        refine thnF (nV.run _ t5 σ3 G5 _ I5' q5) fun b t6 ⟨z, G6, I6', r6, G7, put, nx⟩ => ?_
        exact void_put (X := X.blk s3 H3 scope ce fp) hu I6' put r5 r6 fun t7 I7' => next I7' nx
  exact codeAny_compStart_dict turns (T.self X.A 0 _ _ _ step4 turns)
end
end L2
namespace RM
open PySem PySem.Spec PyProof.Rows L2 CS RZ
/-! ### dict comprehensions -/
theorem put_use {T : Tab} {Hh H : Hp} {p : Addr} {y v : V} {m m' key d : D} (s : Same Hh H) (ow : OwnAt T Hh H p m) (hy : KeyAt Hh y key) (iv : Is T Hh v d) (e : putD m key d = some m') : ∃ o', DPut H p y v (upd H p o') ∧ OwnAt T Hh (upd H p o') p m' ∧ isObjD m' = false := by
  unfold putD at e
  split at e
  · obtain ⟨⟨c1, c2⟩, rfl⟩ := ifs e
    cases ow with
    | dk h r =>
      cases hy with
      | t h => cases c1
      | k k => exact ⟨_, .k h (by rw [isK_len r]; exact lim_lt c2), .dk upd_same (isK_put k iv r), rfl⟩
  · obtain ⟨⟨c1, c2⟩, rfl⟩ := ifs e
    cases ow with
    | dt h r =>
      generalize hk : (PyData.tuple _) = kk at hy
      cases hy with
      | k k => cases k <;> cases hk
      | @t b ks hb =>
        injection hk with e4
        subst e4
        exact ⟨_, .t h (s _ _ hb) (by rw [isT_len r]; exact lim_lt c2), .dt upd_same (isT_put ks iv r), rfl⟩
  · cases e
theorem dcP_it {J : It} {m : Nat} {G : Hp → Prop} {Y : Nat → Hp → V → Hp → Prop} (w : Walk J m G Y) {o0 : HO} {g : TG} {tt : TT} {tk tv : TE} {vs : List Nat} {σ : L2.St} {H1 : Hp} {Da : Addr} {Qd : Hp → Prop} (Pv : Nat → Hp → Prop) (h0 : Pv 0 (upd H1 Da o0)) (hG : ∀ i H, i ≤ m → Pv i H → G H)
    (hs : ∀ i x H H', i < m → Pv i H → Y i H x H' → g x (wipe σ vs) H' fun σ2 H2 => wipe σ2 vs = wipe σ vs ∧ tt σ2 H2 fun b H3 => if b = true then tk σ2 H3 fun y H4 => tv σ2 H4 fun z H5 => ∃ H6, DPut H5 Da y z H6 ∧ Pv (i + 1) H6 else Pv (i + 1) H3) (hd : ∀ H, Pv m H → Qd H) :
    ∃ W : Nat → Nat → Hp → Prop, (∃ k, W 0 k (upd H1 Da o0)) ∧ ∀ i k H, W i k H → (J.stop i H ∧ Qd H) ∨ (J.go i H ∧ ∃ Nx : Hp → Prop, (∀ H', Nx H' → ∃ k', k' < k ∧ W (i + 1) k' H') ∧
      ∀ x H', J.yld i H x H' → g x (wipe σ vs) H' fun σ2 H2 => wipe σ2 vs = wipe σ vs ∧ tt σ2 H2 fun b H3 => if b = true then tk σ2 H3 fun y H4 => tv σ2 H4 fun z H5 => ∃ H6, DPut H5 Da y z H6 ∧ Nx H6 else Nx H3) := by
  refine ⟨fun i k H => k + i = m ∧ Pv i H, ⟨m, rfl, h0⟩, fun i k H z => ?_⟩
  have g0 := hG i H (by omega) z.2
  rcases Nat.lt_or_ge i m with lt | ge
  · exact .inr ⟨w.goes i H lt g0, Pv (i + 1), fun H' q => ⟨m - (i + 1), by omega, by omega, q⟩, fun x H' y => hs i x H H' lt z.2 (w.yields i H x H' lt g0 y)⟩
  · have e : i = m := by omega
    subst e
    exact .inl ⟨w.stops H g0, hd H z.2⟩
def cDcL (cg : CG) (tt : CT) (tk tv : CE) (vs : List Nat) : List D → En → Nat → D → (D → En → Nat → Prop) → Prop
  | [], ρ, n, m, k => k m ρ n
  | d :: ds, ρ, n, m, k => ∃ ρ1, cg d ρ = some ρ1 ∧ tt ρ1 n (fun b ρ2 n2 => if b = true then tk ρ2 n2 (fun y ρ3 n3 => tv ρ3 n3 (fun z ρ4 n4 => ∃ m', putD m y z = some m' ∧ cDcL cg tt tk tv vs ds (wipeE ρ4 vs) n4 m' k) kF) kF
      else cDcL cg tt tk tv vs ds (wipeE ρ2 vs) n2 m k) kF
def cDc (b : Bool) (ci : CA) (cg : CG) (tt : CT) (tk tv : CE) (vs : List Nat) : CE := fun ρ n k ke => ci ρ n (fun ds ρ' n' => cDcL cg tt tk tv vs ds (wipeE ρ' vs) n' (.dict [(.none, .bool b)]) k) ke
def void (b : Bool) : HO := if b = true then .dT [] else .dK []
theorem void_is (b : Bool) : Void (void b) := by
  cases b
  · exact .inl rfl
  · exact .inr rfl
theorem void_own {T : Tab} {Hh H : Hp} {p : Addr} (b : Bool) (h : H p = some (void b)) : OwnAt T Hh H p (.dict [(.none, .bool b)]) := by
  cases b
  · exact .dk h .nil
  · exact .dt h .nil
section
variable {X : Cx} {g : Glob} {xk : WX} {pos : Pos}
theorem wipe_again {σ : L2.St} {vs : List Nat} : wipe (wipe σ vs) vs = wipe σ vs := by
  refine List.ext_getElem? fun j => ?_
  rw [wipe_get, wipe_get]
  split
  · cases σ[j]? <;> rfl
  · rfl
theorem dc_use {b0 : Bool} {ci : CA} {cg : CG} {js vs : List Nat} {tt : CT} {tk tv : CE} (hj : ∀ j ∈ js, j ∈ vs) {σ : L2.St} {H : Hp} {Q : VK} (r : liftF g xk (cDc b0 ci cg tt tk tv vs) σ H Q) : tDcP (void b0) (liftI g xk ci) (liftG g js cg) (liftT g xF tt) (liftK g xF tk) (lift g xF tv) vs σ H Q := by
  obtain ⟨C, ρ, n, O, k, ke, hK, E, t, x, q⟩ := r
  refine ⟨C, ρ, n, O, _, ke, hK, E, t, x, fun ds ρ1 n1 J H1 O1 k1 E1 S1 WD => ?_⟩
  intro Da nD
  obtain ⟨f1, f2, f3, f4⟩ := E1.fresh nD
  obtain ⟨Gd, Y, WK, hG, hY⟩ := WD.ex
  refine dcP_it WK (fun i H => ∃ (ρ : En) (n : Nat) (O : Ow) (m : D), Ev C ρ n (wipe σ vs) (out H Da) O ∧ OwnAt C.T (hid C O (out H Da)) H Da m ∧ isObjD m = false ∧ cDcL cg tt tk tv vs (ds.drop i) ρ n m k ∧ Same (hid C O1 H1) (hid C O (out H Da))) ?_ ?_ ?_ ?_
  · refine ⟨_, n1, _, _, (by rw [out_new nD]; exact E1.wipes vs), void_own b0 upd_same, rfl, k1, ?_⟩
    rw [out_new nD]
    exact hid_cuts vs
  · rintro i H2 _ ⟨ρ2, n2, O2, m, E2, ow, no, c2, S2⟩
    exact hG _ ((S2.trans hid_le).trans out_le)
  · rintro i x0 H2 H3 hi' ⟨ρ2, n2, O2, m, E2, ow, no, c2, S2⟩ y
    obtain ⟨o, eD⟩ := ow.some
    have hd : ds.drop i = ds[i] :: ds.drop (i + 1) := List.drop_eq_getElem_cons hi'
    rw [hd] at c2
    obtain ⟨ρ3, e3, c3⟩ := c2
    obtain ⟨sY, iY⟩ := hY i x0 H2 H3 ds[i] ((S2.trans hid_le).trans out_le) y (List.getElem?_eq_getElem hi')
    have E4 := E2.hide eD fun xs z => ow.notup xs (eD.trans (congrArg some z))
    have E5 := E4.ext sY
    have h45 := hid_same (C := C.plus Da o) (O := O2) sY
    have S6 : Same (hid C O1 H1) (hid (C.plus Da o) O2 H3) := by
      refine Same.trans ?_ h45
      rw [hid_plus]
      exact S2
    have ix : Is C.T (hid (C.plus Da o) O2 H3) x0 ds[i] := iY _ S6 fun b u h1 h2 => let ⟨g1, g2, _, _⟩ := E4.fresh h2; hid_of h1 g1 g2
    refine ⟨C.plus Da o, ρ2, ρ3, n2, O2, ds[i], hK, E5, ix, e3, fun σ4 O4 E6 S7 A4 => ?_⟩
    have wp : wipe σ4 vs = wipe σ vs := (wipe_agree (σ := wipe σ vs) A4 hj).trans wipe_again
    refine ⟨wp, C.plus Da o, ρ3, n2, O4, _, kF, hK, E6, c3, xl_F, fun b ρ5 n5 H5 O5 c5 E7 S8 => ?_⟩
    cases b with
    | false =>
      show ∃ _, _
      obtain ⟨E8, eD8⟩ := E7.unhide f1 f4 f3
      have E9 := E8.wipes vs
      rw [wp] at E9
      have Sx := (h45.trans S7).trans S8
      rw [hid_plus, hid_plus] at Sx
      exact ⟨_, _, _, m, E9, (ow.same Sx (eD8.trans eD.symm)).same (hid_cuts vs) rfl, no, c5, (S2.trans Sx).trans (hid_cuts vs)⟩
    | true =>
      refine ⟨C.plus Da o, ρ5, n5, O5, _, kF, hK, E7, c5, xl_F, fun yd ρ6 n6 yv H6 O6 c6 E8 S9 ky => ?_⟩
      refine ⟨C.plus Da o, ρ6, n6, O6, _, kF, hK, E8, c6, xl_F, fun zd ρ7 n7 zv H7 O7 c7 E9 S10 iz => ?_⟩
      obtain ⟨m', hp, c7⟩ := c7
      obtain ⟨E10, eD10⟩ := E9.unhide f1 f4 f3
      have E11 := E10.wipes vs
      rw [wp] at E11
      have Sx := ((h45.trans S7).trans S8).trans (S9.trans S10)
      have ky2 := ky.same S10
      rw [hid_plus, hid_plus] at Sx
      rw [hid_plus] at ky2 iz
      obtain ⟨o', pu, ow', no'⟩ := put_use (Same.trans hid_le out_le) (ow.same Sx (eD10.trans eD.symm)) ky2 iz hp
      refine ⟨_, pu, _, _, cutOs O7 vs, m', ?_, ?_, no', c7, ?_⟩
      · rw [out_upd]
        exact E11
      · rw [out_upd]
        exact ow'.same (hid_cuts vs) rfl
      · rw [out_upd]
        exact (S2.trans Sx).trans (hid_cuts vs)
  · rintro H2 ⟨ρ2, n2, O2, m, E2, ow, no, c2, S2⟩
    rw [List.drop_length] at c2
    exact q _ _ _ _ _ _ _ c2 E2.unwipe (S1.trans S2) out_same out_le ow no
/-! ### stars, and, or, not, minus -/
def cAndV (ta tb : CE) : CE := fun ρ n k ke => ta ρ n (fun d ρ1 n1 => ∃ b, d = .bool b ∧ if b = true then tb ρ1 n1 k ke else k (.bool false) ρ1 n1) ke
def cNeg (ta : CE) : CE := fun ρ n k ke => ta ρ n (fun d ρ1 n1 => ∃ i, d = .int i ∧ k (.int (-i)) ρ1 n1) ke
variable {a b : Expr} {rest : List Expr} {ta tb : CE} {ca cb : CT}
theorem pd_one {op} (h : PD X g xk a ta) : PD X g xk (.BoolOp op [a] pos) ta := ⟨pe_one h.pe⟩
theorem pd_and (ha : PD X g xk a ta) (hb : PD X g xk (.BoolOp .And (b :: rest) pos) tb) : PD X g xk (.BoolOp .And (a :: b :: rest) pos) (cAndV ta tb) := by
  refine ⟨PE.imp (pe_and ha.pe hb.pe) fun σ H Q r => ?_⟩
  obtain ⟨C, ρ, n, O, k, ke, hK, E, t, x, q⟩ := r
  refine ⟨C, ρ, n, O, _, ke, hK, E, t, x, fun d ρ1 n1 v H1 O1 k1 E1 S1 i1 => ?_⟩
  obtain ⟨b, rfl, k1⟩ := k1
  refine ⟨b, isBl i1, ?_⟩
  cases b with
  | true => exact ⟨C, ρ1, n1, O1, k, ke, hK, E1, k1, x, fun d ρ2 n2 v H2 O2 k2 E2 S2 i2 => q _ _ _ _ _ _ k2 E2 (S1.trans S2) i2⟩
  | false => exact q _ _ _ _ _ _ k1 E1 S1 (.bl false)
theorem pd_neg (ha : PD X g xk a ta) : PD X g xk (.UnaryOp .USub a pos) (cNeg ta) := by
  refine ⟨PE.imp (pe_un un_neg ha.pe) fun σ H Q r => ?_⟩
  obtain ⟨C, ρ, n, O, k, ke, hK, E, t, x, q⟩ := r
  refine ⟨C, ρ, n, O, _, ke, hK, E, t, x, fun d ρ1 n1 v H1 O1 k1 E1 S1 i1 => ?_⟩
  obtain ⟨i, rfl, k1⟩ := k1
  exact ⟨i, i1.int', q _ _ _ _ _ _ k1 E1 S1 (.int _)⟩
/-! tests of and, or -/
structure PDW (X : Cx) (g : Glob) (xk : WX) (e : Expr) (td : CT) : Prop where
  pw : PW X e (liftT g xk td)
theorem pw_imp {e : Expr} {t t' : TT} (h : PW X e t) (q : ∀ σ H Q, t' σ H Q → t σ H Q) : PW X e t' := ⟨fun wh pins s σ H Q I r => h.run wh pins s σ H Q I (q _ _ _ r)⟩
def cAndT (ta tb : CT) : CT := fun ρ n k ke => ta ρ n (fun b ρ1 n1 => if b = true then tb ρ1 n1 k ke else k false ρ1 n1) ke
theorem pdw_and1 (h : PDT X g xk a ca) : PDW X g xk (.BoolOp .And [a] pos) ca := ⟨pw_and1 h.pt⟩
theorem pdw_and (ha : PDT X g xk a ca) (hb : PDW X g xk (.BoolOp .And (b :: rest) pos) cb) : PDW X g xk (.BoolOp .And (a :: b :: rest) pos) (cAndT ca cb) := by
  refine ⟨pw_imp (pw_and ha.pt hb.pw) fun σ H Q r => ?_⟩
  obtain ⟨C, ρ, n, O, k, ke, hK, E, t, x, q⟩ := r
  refine ⟨C, ρ, n, O, _, ke, hK, E, t, x, fun b ρ1 n1 H1 O1 k1 E1 S1 => ?_⟩
  cases b with
  | true => exact ⟨C, ρ1, n1, O1, k, ke, hK, E1, k1, x, fun d ρ2 n2 H2 O2 k2 E2 S2 => q _ _ _ _ _ k2 E2 (S1.trans S2)⟩
  | false => exact q _ _ _ _ _ k1 E1 S1
theorem PDW.pdt {e : Expr} (h : PDW X g xk e ca) : PDT X g xk e ca := ⟨h.pw.pt⟩
end
end RM
namespace RM
open PySem PySem.Spec PyProof.Rows L2 CS RZ
/-! ### short words for what is generated -/
theorem hu1 {k : Nat} {A : Around} (r : Room k A) : A.units + 1 < cLine := by have := r.un; omega
theorem hu64 {k : Nat} {A : Around} (r : Room k A) : A.units + 64 < cLine := by have := r.un; omega
/-- the built-in names are what they are -/
structure Bl (mg : Str → Option Value) : Prop where
  len : mg "len" = none
  sum : mg "sum" = none
  all : mg "all" = none
  any : mg "any" = none
  min : mg "min" = none
  max : mg "max" = none
  sorted : mg "sorted" = none
  tuple : mg "tuple" = none
  list : mg "list" = none
  set : mg "set" = none
  dict : mg "dict" = none
  range : mg "range" = none
  zip : mg "zip" = none
  enumerate : mg "enumerate" = none
  isinstance : mg "isinstance" = none
  abs : mg "abs" = none
  int : mg "int" = none
  str : mg "str" = none
  repr : mg "repr" = none
  bool : mg "bool" = none
  ValueError : mg "ValueError" = none
  LookupError : mg "LookupError" = none
/-- a def of the module, by its name, and what it keeps -/
structure HasF (P : Program) (w : World) (K : PySem.W.Frag) (mg : Str → Option Value) (base : Heap) (CX : CXT) (g : Glob) (k : Nat) (x : Str) (ps : List Str) (sd : SpD) : Prop where
  ex : ∃ f fd, FnOk P w K mg base CX k f fd ps (spD g sd) ∧ Binds K fd ps [] ∧ PySem.W.keepIn K (.ref f) = true ∧ mg x = some (.ref f)
section
variable {P : Program} {w : World} {K : PySem.W.Frag} {mg : Str → Option Value} {base : Heap} {X : Cx} {g : Glob} {xk : WX} {pos : Pos} {CX : CXT} {k j : Nat} {x : Str} {ps : List Str} {sd : SpD}
theorem pd_fun {p : Pos} {e : Expr} {es : List Expr} {ta : CA} (h : HasF X.prog X.w X.K X.mg X.base CX g j x ps sd) (hr : Room k X.A) (l : j ≤ k) (hg : Gl X x) (hx : ∀ σ, PassesAt CX X σ (WE xk σ)) (ha : PDA X g xk (e :: es) ta)
    (hdb : (x == ("__debug__" : Str)) = false := by decide) (he : starEach (e :: es) X.env = (false, eval e X.env) :: starEach es X.env := by rfl) (hpl : (backTo pos (starEach es X.env)).any (·.1) = false := by rfl) : PD X g xk (.Call (.Name x p) (e :: es) [] pos) (cCall sd ta) := by
  obtain ⟨f, fd, a, b, c, d⟩ := h.ex
  exact pd_call a (hr.mono l) hg d c b hx ha hdb he hpl
theorem pd_fun0 {p : Pos} (h : HasF X.prog X.w X.K X.mg X.base CX g j x ps sd) (hr : Room k X.A) (l : j ≤ k) (hg : Gl X x) (hx : ∀ σ, PassesAt CX X σ (WE xk σ)) (hdb : (x == ("__debug__" : Str)) = false := by decide) : PD X g xk (.Call (.Name x p) [] [] pos) (cCall sd cNil) := by
  obtain ⟨f, fd, a, b, c, d⟩ := h.ex
  exact pd_call0 a (hr.mono l) hg d c b hx hdb
end
end RM
namespace RM
open PySem PySem.Spec PyProof.Rows L2 CS RZ
/-! ### sorted of a dict whose keys are tuples -/
end RM
namespace RM
open PySem PySem.Spec PyProof.Rows L2 CS RZ
section
variable {X : Cx} {g : Glob} {xk : WX} {pos : Pos}
/-! sorted of a dict with keys of text -/
theorem isL_strs {T : Tab} {H : Hp} : ∀ ss : List Str, IsL T H (ss.map V.str) (ss.map PyData.str)
  | [] => .nil
  | s :: ss => .cons (.str s) (isL_strs ss)
/-! ### a, b = x, y -/
def cPar (i j : Nat) (ta : CA) : CS := fun ρ n e => ta ρ n (fun ds ρ' n' => ∃ x y, ds = [x, y] ∧ e.nx ((ρ'.set i (some (Sl.v x))).set j (some (Sl.v y))) n') e.xc
theorem pds_par {i j : Nat} {x y : Str} {a b : Expr} {ta : CA} {px py pt : Pos} {kt k2 pt2} (hc : X.calm = true) (hN : X.N.Nodup) (hi : X.N[i]? = some x) (hj : X.N[j]? = some y) (hij : i ≠ j)
    (hx : X.env.scope.names.lookup x = some .local) (hy : X.env.scope.names.lookup y = some .local) (ha : PDA X g xk [a, b] ta)
    (hw : swappedStores [.Tuple [.Name x px, .Name y py] kt pt] (.Tuple [a, b] k2 pt2) X.env = pure (some [x, y]) := by rfl)
    (hs : swapsWithSole [.Tuple [.Name x px, .Name y py] kt pt] (.Tuple [a, b] k2 pt2) pos.line X.env = pure false := by rfl) :
    PDS X g xk (.Assign [.Tuple [.Name x px, .Name y py] kt pt] (.Tuple [a, b] k2 pt2) pos) (cPar i j ta) := by
  refine ⟨ps_imp (ps_par hc hN hi hj hij hx hy ha.pa hw hs) fun D σ H h => ?_⟩
  obtain ⟨C, ρ, n, O, e, hK, E, t, l⟩ := h
  refine ⟨C, ρ, n, O, _, _, hK, E, t, l.xc, fun ds ρ1 n1 vs H1 O1 k1 E1 S1 i1 => ?_⟩
  obtain ⟨x, y, rfl, k1⟩ := k1
  obtain ⟨v, u, rfl, iv, iu⟩ := i1.two
  refine ⟨v, u, rfl, ?_⟩
  obtain ⟨E2, S2⟩ := E1.set (i := i) iv
  obtain ⟨E3, S3⟩ := E2.set (i := j) (iu.same S2)
  exact l.nx _ _ _ _ _ k1 E3 ((S1.trans S2).trans S3)
/-- a, b = a new list, [] : both this frame's own -/
def cPar0 (i j : Nat) (t : CE) : CS := fun ρ n e => t ρ n (fun d ρ' n' => i < ρ'.length ∧ j < ρ'.length ∧ e.nx ((ρ'.set i (some (Sl.own d))).set j (some (Sl.own (.list [])))) n') e.xc
theorem pds_par0 {i j : Nat} {x y : Str} {a : Expr} {t : CE} {px py pt pn : Pos} {kt k2 pt2} (hc : X.calm = true) (hN : X.N.Nodup) (hi : X.N[i]? = some x) (hj : X.N[j]? = some y) (hij : i ≠ j)
    (hx : X.env.scope.names.lookup x = some .local) (hy : X.env.scope.names.lookup y = some .local) (ha : PDF X g xk a t)
    (hst : starEach [a, .List [] pn] X.env = (false, eval a X.env) :: starEach [.List [] pn] X.env := by rfl)
    (hw : swappedStores [.Tuple [.Name x px, .Name y py] kt pt] (.Tuple [a, .List [] pn] k2 pt2) X.env = pure (some [x, y]) := by rfl)
    (hs : swapsWithSole [.Tuple [.Name x px, .Name y py] kt pt] (.Tuple [a, .List [] pn] k2 pt2) pos.line X.env = pure false := by rfl) :
    PDS X g xk (.Assign [.Tuple [.Name x px, .Name y py] kt pt] (.Tuple [a, .List [] pn] k2 pt2) pos) (cPar0 i j t) := by
  refine ⟨ps_imp (ps_par hc hN hi hj hij hx hy (pa_cons ha.pe (pa_cons (pe_lst pa_nil) pa_nil) hst) hw hs) fun D σ H h => ?_⟩
  obtain ⟨C, ρ, n, O, e, hK, E, t, l⟩ := h
  refine ⟨C, ρ, n, O, _, _, hK, E, t, l.xc, fun d ρ1 n1 p H1 H' O1 k1 E1 S1 hp s ow no => ⟨Nat.zero_le _, fun p2 hp2 => ⟨.ref p, .ref p2, rfl, ?_⟩⟩⟩
  obtain ⟨E2, S2⟩ := E1.setOwn (i := i) k1.1 hp s ow no
  obtain ⟨E3, S3⟩ := E2.setOwn (i := j) (by rw [List.length_set]; exact k1.2.1) hp2 (same_new hp2) (.lst upd_same .nil) rfl
  exact l.nx _ _ _ _ _ k1.2.2 E3 ((S1.trans S2).trans S3)
/-! ### list of a text -/
def charsD (z : Str) : List D := z.cps.toList.map fun c => .str ⟨#[c]⟩
def gListS (ds : List D) (z : List D) : Prop := ∃ s, ds = [.str s] ∧ s.length ≤ lim ∧ z = charsD s
end
end RM
namespace RM
open PySem PySem.Spec PyProof.Rows L2 CS RZ
section
variable {X : Cx}
def signs (z : Str) : List Str := z.cps.toList.map fun c => ⟨#[c]⟩
theorem vals_signs : ∀ (l : List Nat) (us : List Value), us.length = l.length → (∀ (j : Nat) (u : Value), us[j]? = some u → ∃ (c : Nat) (t : Tok), l[j]? = some c ∧ u = Value.str ⟨#[c]⟩ t) → Vals (l.map fun c => V.str ⟨#[c]⟩) us
  | [], [], _, _ => .nil
  | [], _ :: _, h, _ => by cases h
  | _ :: _, [], h, _ => by cases h
  | c :: l, u :: us, h, q => by
    obtain ⟨c', t, e1, e2⟩ := q 0 u rfl
    cases e1
    refine .cons ⟨t, e2⟩ (vals_signs l us (Nat.succ.inj h) fun j v e => q (j + 1) v e)
theorem call_list_txt (hc : X.calm = true) : CallR X (.type "list") (fun xs H Q => ∃ z : Str, xs = [.str z] ∧ z.cps.size ≤ lim ∧ ∀ l, H l = none → Q (.ref l) (upd H l (.lst ((signs z).map V.str)))) := by
  intro pins s σ H xs us Q I r h
  obtain ⟨z, rfl, hz, q⟩ := h
  obtain ⟨u, rfl, rx⟩ := vals1 r
  obtain ⟨t, rfl⟩ := rx
  have hfit : z.cps.size ≤ sizeLine := lim_le hz
  refine call_list_str (I.ok.hd hc) z t (fun h' tk acc c' hk hS it => ?_) hfit
  have rv : Vals ((signs z).map V.str) acc.toList := by
    unfold signs
    rw [List.map_map]
    refine vals_signs z.cps.toList acc.toList (by rw [Array.length_toList, Array.length_toList]; exact it.1) fun j u e => ?_
    rw [Array.getElem?_toList] at e
    obtain ⟨c, u', e1, e2⟩ := it.2 j u e
    exact ⟨c, u', by rw [Array.getElem?_toList]; exact e1, e2⟩
  refine ⟨.ref s.heap.objs.size, _, I.laid (t' := tk) hk (Nat.le_refl _) (show ObjOk X.prog X.w _ h' _ (.lst _) from ⟨?_, acc.toList, c', rv, ?_⟩), rfl, q _ (I.hok.fresh (Nat.le_refl _))⟩
  · unfold signs
    rw [List.length_map, List.length_map, Array.length_toList]
    exact hfit
  · simpa using hS
theorem cf_listS (hc : X.calm = true) : CallF X (.type "list") gListS := by
  refine ⟨_, call_list_txt hc, fun T Hh H vs ds z Q hK s il hg q => ?_⟩
  obtain ⟨z, rfl, hl, rfl⟩ := hg
  obtain ⟨v, rfl, iv⟩ := il.one
  rw [iv.str']
  refine ⟨z, rfl, hl, q _ ?_⟩
  have : charsD z = (signs z).map PyData.str := by
    unfold charsD signs
    rw [List.map_map]
    rfl
  rw [this]
  exact isL_strs _
def gList' (ds : List D) (z : List D) : Prop := gList ds z ∨ gListS ds z
theorem cf_list' (hc : X.calm = true) : CallF X (.type "list") gList' := cf_list.or (cf_listS hc)
end
/-! ### draws -/
def sdTake : SpD := fun ds n k _ => ∃ m : Int, ds = [boxD, .int m] ∧ n ≤ 900000 ∧ 0 < m ∧ m < 2 ^ 200 ∧ ∀ r : Int, 0 ≤ r → r < m → k (.int r) (n + 1)
theorem Is.box' {T : Tab} {H : Hp} {v : V} (h : Is T H v boxD) : ∃ a, v = .ref a ∧ T.bx = some a := by
  unfold boxD at h
  cases h with
  | box h => exact ⟨_, rfl, h⟩
theorem take_imp {g : Glob} {vs : List V} {H : Hp} {Q : VK} {E : XK} (h : spD g sdTake vs H Q E) :
    ∃ (b : Addr) (n : Nat) (m : Int), vs = [.ref b, .int m] ∧ BoxAt H b n ∧ n ≤ 1000000 ∧ 0 < m ∧ m < 2 ^ 200 ∧ ∀ (H' : Hp) (r : Int), (∀ c o, c ≠ b → H c = some o → H' c = some o) → BoxAt H' b (n + 1) → 0 ≤ r → r < m → Q (.int r) H' := by
  obtain ⟨C, ds, n, k, ke, hK, e0, E0, i, ⟨m, rfl, hn, hm, hm2, s⟩, q, _⟩ := h
  obtain ⟨v, u, rfl, iv, iu⟩ := i.two
  obtain ⟨b, rfl, hb⟩ := iv.box'
  rw [iu.int']
  refine ⟨b, n, m, rfl, (E0.box b hb).2, by omega, hm, hm2, fun H' r kp bx h0 h1 => q _ _ _ _ (s r h0 h1) ⟨fun a o h nb => kp a o (fun z => nb (z ▸ hb)) (e0 ▸ h), fun b' hb' => ?_⟩ (.int r)⟩
  rw [hb] at hb'
  cases hb'
  exact bx
/-- one of some things -/
def sdOf : SpD := fun ds n k _ => ∃ (x : D) (l : List D), ds = [boxD, x] ∧ seqD x = some l ∧ n ≤ 900000 ∧ 0 < l.length ∧ l.length < 1000000 ∧ ∀ d ∈ l, k d (n + 1)
def cs_of : CS := cRet (cOp atD (cVar 1) (cCall sdTake (cCons (cVar 0) (cCons (cCB gLen (cCons (cVar 1) (cNil))) (cNil)))))
theorem atD_seq {x : D} {l : List D} {i : Int} (h : seqD x = some l) : atD x (.int i) = atI l i := by
  unfold seqD at h
  split at h <;> cases h <;> rfl
theorem lenD_seq {x : D} {l : List D} (h : seqD x = some l) : lenD x = some l.length := by
  unfold seqD at h
  split at h <;> cases h <;> rfl
theorem atI_in {α : Type} {l : List α} {i : Int} (h0 : 0 ≤ i) (h1 : i < l.length) : ∃ d ∈ l, atI l i = some d := by
  have hj : i.toNat < l.length := by omega
  refine ⟨l[i.toNat], List.getElem_mem hj, ?_⟩
  have := atI_nat (xs := l) (j := i.toNat) (List.getElem?_eq_getElem hj)
  rwa [Int.toNat_of_nonneg h0] at this
abbrev n_of : List Str := ["_law_box_here", "_law_some"]
theorem himp_of {e : EndsD} (ds : List D) (n : Nat) (k : D → Nat → Prop) (ke : Xv → Nat → Prop) (h : sdOf ds n k ke) (he : e.rt = k) : cs_of (startE n_of ds) n e := by
  obtain ⟨x, l, rfl, hs, hn, h0, h1, q⟩ := h
  refine ⟨_, ⟨x, l.length, rfl, lenD_seq hs, rfl⟩, (l.length : Int), rfl, hn, by omega, by omega, fun r r0 r1 => ?_⟩
  obtain ⟨d, hd, e1⟩ := atI_in r0 r1
  exact ⟨d, (atD_seq hs).trans e1, he ▸ q d hd⟩
/-- up to so many of some things, in any order -/
def sdPick : SpD := fun ds n k _ => ∃ (x : D) (l : List D) (m : Int), ds = [boxD, x, .int m] ∧ gList' [x] l ∧ n ≤ 800000 ∧ 0 ≤ m ∧ m ≤ 1000 ∧ l.length ≤ 1000 ∧
  ∀ (out rest : List D) (n' : Nat), (out ++ rest).Perm l → out.length = min m.toNat l.length → n' ≤ n + 1000 → k (.list out) n'
def cs_pick : CS := cSq (cPar0 4 5 (cCF gList' (cCons (cVar 1) (cNil)))) (cSq (cFor (cRange1 (cCons (cCB (fun ds z => gMin2 ds z ∨ gMin1 ds z) (cCons (cVar 2) (cCons (cCBQ gLen (.nm 4)) (cNil)))) (cNil))) (stN 3) (cDrop (cApp 5 (cMut 4 (cCons (cCall sdTake (cCons (cVar 0) (cCons (cCBQ gLen (.nm 4)) (cNil)))) (cNil)) uPopAt)))) (cRet (cVar 5)))
abbrev n_pick : List Str := ["_law_box_here", "_law_pool_so", "_law_many_so", "_law_turn", "_law_rest", "_law_found"]
theorem erase_perm {α : Type} : ∀ {l : List α} {i : Nat} (h : i < l.length), (l[i] :: l.eraseIdx i).Perm l
  | [], _, h => absurd h (Nat.not_lt_zero _)
  | _ :: _, 0, _ => List.Perm.refl _
  | x :: l, i + 1, h => (List.Perm.swap x _ _).trans ((erase_perm (l := l) (i := i) (Nat.lt_of_succ_lt_succ h)).cons x)
theorem pick_loop {e : EndsD} {b x m : D} : ∀ (turns : List D) (t0 : Option Sl) (rest found : List D) (n : Nat), turns.length ≤ rest.length → rest.length + found.length ≤ 1000 → n ≤ 900000 → turns.length ≤ 1000 → n + turns.length ≤ 900000 → b = boxD →
    (∀ (out rest' : List D) (t : Option Sl), (out ++ rest').Perm (found ++ rest) → out.length = found.length + turns.length → e.nx [some (.v b), some (.v x), some (.v m), t, some (.own (.list rest')), some (.own (.list out))] (n + turns.length)) →
    cForL (stN 3) (cDrop (cApp 5 (cMut 4 (cCons (cCall sdTake (cCons (cVar 0) (cCons (cCBQ gLen (.nm 4)) (cNil)))) (cNil)) uPopAt))) turns [some (.v b), some (.v x), some (.v m), t0, some (.own (.list rest)), some (.own (.list found))] n e
  | [], t0, rest, found, n, _, _, _, _, _, _, q => q found rest t0 (List.Perm.refl _) rfl
  | d :: ds, t0, rest, found, n, h1, h2, h3, h4, h5, hb, q => by
    rw [List.length_cons] at h1 h4 h5
    refine ⟨_, rfl, ⟨_, rfl⟩, ⟨_, rfl⟩, ?_⟩
    refine ⟨rfl, .list rest, .int (rest.length : Nat), rfl, ⟨.list rest, rest.length, rfl, rfl, rfl⟩, rfl, ?_⟩
    refine ⟨(rest.length : Int), by rw [hb], h3, by omega, by omega, fun r r0 r1 => ?_⟩
    have hj : r.toNat < rest.length := by omega
    have hu : uPopAt rest [.int r] = some (rest[r.toNat], rest.eraseIdx r.toNat) := by
      show (if 0 ≤ r ∧ r < 2 ^ 63 then (rest[r.toNat]?).map fun d => (d, rest.eraseIdx r.toNat) else none) = _
      rw [if_pos ⟨r0, by omega⟩, List.getElem?_eq_getElem hj]
      rfl
    refine ⟨rest, _, _, rfl, by unfold lim; omega, hu, found, rfl, by unfold lim; omega, ?_⟩
    have hl : (rest.eraseIdx r.toNat).length = rest.length - 1 := List.length_eraseIdx_of_lt hj
    show cForL _ _ ds [some (.v b), some (.v x), some (.v m), some (.v d), some (.own (.list (rest.eraseIdx r.toNat))), some (.own (.list (found ++ [rest[r.toNat]])))] (n + 1) e
    refine pick_loop ds _ _ _ _ (by omega) (by rw [List.length_append, List.length_singleton]; omega) (by omega) (by omega) (by omega) hb fun out rest' t hp hl2 => ?_
    have := q out rest' t (hp.trans ?_) (by rw [hl2, List.length_append, List.length_singleton, List.length_cons]; omega)
    · rw [List.length_cons] at this
      rw [show n + 1 + ds.length = n + (ds.length + 1) by omega]
      exact this
    · rw [List.append_assoc]
      exact List.Perm.append_left found (erase_perm hj)
theorem himp_pick {e : EndsD} (ds : List D) (n : Nat) (k : D → Nat → Prop) (ke : Xv → Nat → Prop) (h : sdPick ds n k ke) (he : e.rt = k) : cs_pick (startE n_pick ds) n e := by
  obtain ⟨x, l, m, rfl, hl, hn, m0, m1, l1, q⟩ := h
  refine ⟨l, hl, (by show 4 < 6; decide), (by show 5 < 6; decide), ?_⟩
  refine ⟨rfl, .list l, .int (l.length : Nat), rfl, ⟨.list l, l.length, rfl, rfl, rfl⟩, rfl, .int (if (l.length : Int) < m then (l.length : Int) else m), .inl ⟨m, (l.length : Nat), rfl, rfl⟩, ?_⟩
  have hm : 0 ≤ (if (l.length : Int) < m then (l.length : Int) else m) ∧ (if (l.length : Int) < m then (l.length : Int) else m) ≤ 1000 ∧ (if (l.length : Int) < m then (l.length : Int) else m).toNat = min m.toNat l.length := by
    split <;> omega
  refine ⟨_, rfl, ⟨by omega, by omega⟩, ?_⟩
  have hd : (rangeD 0 (if (l.length : Int) < m then (l.length : Int) else m).toNat).length = min m.toNat l.length := by
    unfold rangeD
    rw [List.length_map, List.length_range]
    exact hm.2.2
  refine pick_loop _ _ l [] n (by omega) (by rw [List.length_nil]; omega) (by omega) (by omega) (by omega) rfl fun out rest' t hp ho => ?_
  show e.rt (.list out) _
  rw [he]
  have h1 : out.length = min m.toNat l.length := by rw [ho, List.length_nil, hd]; omega
  have h2 : n + (rangeD 0 (if (l.length : Int) < m then (l.length : Int) else m).toNat).length ≤ n + 1000 := by rw [hd]; omega
  exact q out rest' _ hp h1 h2
end RM
namespace RM
open PySem PySem.Spec PyProof.Rows L2 CS RZ
/-! ### drawn places -/
def strD (ss : List Str) : List D := ss.map PyData.str
def unS : D → Str
  | .str s => s
  | _ => ⟨#[]⟩
def pool0 : List Str := ["a", "b", "c", "d", "e", "f", "g", "h"]
def pool1 : List Str := ["a", "ab", "abc", "b", "ba", "z", "zzzzzzzz", "y"]
def pool2 : List Str := ["hall", "hal", "desk", "shop", "yard", "gate", "inn", "ford"]
def tagPool : List Str := pool0 ++ pool1 ++ pool2
theorem strD_un {l : List D} {pl : List Str} (h : ∀ d ∈ l, d ∈ strD pl) : strD (l.map unS) = l := by
  unfold strD
  rw [List.map_map]
  refine (List.map_congr_left fun d hd => ?_).trans (List.map_id l)
  obtain ⟨s, _, rfl⟩ := List.mem_map.mp (h d hd)
  rfl
/-- what is picked of texts -/
theorem pick_strs {out rest : List D} {pl : List Str} (hp : (out ++ rest).Perm (strD pl)) (hn : pl.Nodup) : ∃ ss : List Str, out = strD ss ∧ ss.Nodup ∧ (∀ s ∈ ss, s ∈ pl) ∧ ss.length = out.length := by
  have hu : (strD pl).map unS = pl := by
    unfold strD
    rw [List.map_map]
    exact List.map_id' pl
  have hm := hp.map unS
  rw [hu, List.map_append] at hm
  refine ⟨out.map unS, (strD_un fun d hd => hp.mem_iff.mp (List.mem_append_left _ hd)).symm, (List.nodup_append.mp (hm.nodup_iff.mpr hn)).1, fun s hs => hm.mem_iff.mp (List.mem_append_left _ hs), List.length_map ..⟩
theorem pool0_chars : strD pool0 = charsD "abcdefgh" := by
  have h : pool0 = signs "abcdefgh" := by decide +kernel
  rw [h]
  unfold strD charsD signs
  rw [List.map_map]
  rfl
def sdTags : SpD := fun ds n k _ => ∃ m : Int, ds = [boxD, .int m] ∧ n ≤ 700000 ∧ 0 ≤ m ∧ m ≤ 8 ∧ ∀ (ss : List Str) (n' : Nat), ss.length = m.toNat → ss.Nodup → (∀ s ∈ ss, s ∈ tagPool) → n' ≤ n + 1001 → k (.list (strD ss)) n'
def cs_tags : CS := cSq (cSet 2 (cCall sdTake (cCons (cVar 0) (cCons (cC (.int 3)) (cNil))))) (cSq (cIfS (cB (cOp eqD (cVar 2) (cC (.int 0)))) (cRet (cCall sdPick (cCons (cVar 0) (cCons (cC (.str "abcdefgh")) (cCons (cVar 1) (cNil)))))) (cNext)) (cSq (cIfS (cB (cOp eqD (cVar 2) (cC (.int 1)))) (cRet (cCall sdPick (cCons (cVar 0) (cCons (cLst (cCons (cC (.str "a")) (cCons (cC (.str "ab")) (cCons (cC (.str "abc")) (cCons (cC (.str "b")) (cCons (cC (.str "ba")) (cCons (cC (.str "z")) (cCons (cC (.str "zzzzzzzz")) (cCons (cC (.str "y")) (cNil)))))))))) (cCons (cVar 1) (cNil)))))) (cNext)) (cRet (cCall sdPick (cCons (cVar 0) (cCons (cLst (cCons (cC (.str "hall")) (cCons (cC (.str "hal")) (cCons (cC (.str "desk")) (cCons (cC (.str "shop")) (cCons (cC (.str "yard")) (cCons (cC (.str "gate")) (cCons (cC (.str "inn")) (cCons (cC (.str "ford")) (cNil)))))))))) (cCons (cVar 1) (cNil))))))))
abbrev n_tags : List Str := ["_law_box_here", "_law_many_so", "_law_kind_so"]
theorem tag_pick {pl : List Str} {x : D} {m : Int} {n n0 : Nat} {k : D → Nat → Prop} {ke : Xv → Nat → Prop} (hg : gList' [x] (strD pl)) (hl : pl.length = 8) (hn : pl.Nodup) (hp : ∀ s ∈ pl, s ∈ tagPool) (h1 : n ≤ 700001) (m0 : 0 ≤ m) (m1 : m ≤ 8) (e0 : n ≤ n0 + 1)
    (q : ∀ (ss : List Str) (n' : Nat), ss.length = m.toNat → ss.Nodup → (∀ s ∈ ss, s ∈ tagPool) → n' ≤ n0 + 1001 → k (.list (strD ss)) n') : sdPick [boxD, x, .int m] n k ke := by
  refine ⟨x, strD pl, m, rfl, hg, by omega, m0, by omega, by unfold strD; rw [List.length_map]; omega, fun out rest n' hpm ho hn' => ?_⟩
  obtain ⟨ss, rfl, g1, g2, g3⟩ := pick_strs hpm hn
  refine q ss n' ?_ g1 (fun s hs => hp s (g2 s hs)) (by omega)
  rw [g3, ho]
  unfold strD
  rw [List.length_map]
  omega
theorem eqD_int (i j : Int) : eqD (.int i) (.int j) = some (.bool (i == j)) := rfl
theorem himp_tags {e : EndsD} (ds : List D) (n : Nat) (k : D → Nat → Prop) (ke : Xv → Nat → Prop) (h : sdTags ds n k ke) (he : e.rt = k) : cs_tags (startE n_tags ds) n e := by
  obtain ⟨m, rfl, hn, m0, m1, q⟩ := h
  subst he
  refine ⟨3, rfl, by omega, by decide, by decide, fun r r0 r1 => ?_⟩
  refine ⟨_, eqD_int r 0, _, rfl, ?_⟩
  dsimp only
  split
  · exact tag_pick (ke := fun _ _ => False) (pl := pool0) (.inr ⟨"abcdefgh", rfl, by decide, pool0_chars⟩) rfl (by decide +kernel) (fun s hs => List.mem_append_left _ (List.mem_append_left _ hs)) (by omega) m0 m1 (Nat.le_refl _) q
  · refine ⟨_, eqD_int r 1, _, rfl, ?_⟩
    dsimp only
    split
    · refine ⟨by show 8 ≤ lim; decide, ?_⟩
      exact tag_pick (ke := fun _ _ => False) (pl := pool1) (.inl ⟨_, rfl, rfl⟩) rfl (by decide +kernel) (fun s hs => List.mem_append_left _ (List.mem_append_right _ hs)) (by omega) m0 m1 (Nat.le_refl _) q
    · refine ⟨by show 8 ≤ lim; decide, ?_⟩
      exact tag_pick (ke := fun _ _ => False) (pl := pool2) (.inl ⟨_, rfl, rfl⟩) rfl (by decide +kernel) (fun s hs => List.mem_append_right _ hs) (by omega) m0 m1 (Nat.le_refl _) q
end RM
namespace RM
open PySem PySem.Spec PyProof.Rows L2 CS RZ
/-! ### drawn steps -/
def triD (t : Str × Str × Int) : D := .tuple [.str t.1, .str t.2.1, .int t.2.2]
def trisD (l : List (Str × Str × Int)) : List D := l.map triD
def sdStrewn : SpD := fun ds n k _ => ∃ (ss : List Str) (most high : Int), ds = [boxD, .list (strD ss), .int most, .int high] ∧ ss.Nodup ∧ 2 ≤ ss.length ∧ ss.length ≤ 8 ∧ n ≤ 600000 ∧ 0 ≤ most ∧ most ≤ 20 ∧ 0 ≤ high ∧ high < 2 ^ 199 ∧
  ∀ (l : List (Str × Str × Int)) (n' : Nat), l.length ≤ most.toNat → (∀ t ∈ l, t.1 ∈ ss ∧ t.2.1 ∈ ss ∧ t.1 ≠ t.2.1 ∧ 0 ≤ t.2.2 ∧ t.2.2 ≤ high) → n' ≤ n + 30000 → k (.tuple (trisD l)) n'
end RM
namespace RM
open PySem PySem.Spec PyProof.Rows L2 CS RZ
/-! ### a comprehension over a list that this frame alone knows -/
end RM
namespace RM
open PySem PySem.Spec PyProof.Rows L2 CS RZ
/-! ### triples added up -/
abbrev Tri := Str × Str × Int
def pr (t : Tri) : Str × Str := (t.1, t.2.1)
def sumAt (l : List Tri) (p : Str × Str) : Int := ((l.filter fun t => pr t = p).map fun t => t.2.2).sum
def putOne (acc : List (Str × Str)) (p : Str × Str) : List (Str × Str) := if p ∈ acc then acc else acc ++ [p]
def firsts (l : List (Str × Str)) : List (Str × Str) := l.foldl putOne []
theorem firsts_snoc (l : List (Str × Str)) (p : Str × Str) : firsts (l ++ [p]) = putOne (firsts l) p := by
  unfold firsts
  rw [List.foldl_append]
  rfl
theorem mem_putOne {acc : List (Str × Str)} {p q : Str × Str} : q ∈ putOne acc p ↔ q ∈ acc ∨ q = p := by
  unfold putOne
  split
  · rename_i h
    constructor
    · exact .inl
    · rintro (h2 | rfl)
      · exact h2
      · exact h
  · rw [List.mem_append, List.mem_singleton]
theorem nodup_putOne {acc : List (Str × Str)} {p : Str × Str} (h : acc.Nodup) : (putOne acc p).Nodup := by
  unfold putOne
  split
  · exact h
  · rename_i c
    rw [List.nodup_append]
    refine ⟨h, by simp, fun a ha b hb => ?_⟩
    rw [List.mem_singleton] at hb
    subst hb
    exact fun z => c (z ▸ ha)
theorem foldl_put : ∀ (l acc : List (Str × Str)), (∀ q, q ∈ l.foldl putOne acc ↔ q ∈ acc ∨ q ∈ l) ∧ (acc.Nodup → (l.foldl putOne acc).Nodup)
  | [], acc => ⟨fun q => by simp, fun h => h⟩
  | p :: l, acc => by
    obtain ⟨h1, h2⟩ := foldl_put l (putOne acc p)
    refine ⟨fun q => ?_, fun h => h2 (nodup_putOne h)⟩
    rw [List.foldl_cons, h1, mem_putOne, List.mem_cons, or_assoc]
theorem mem_firsts {l : List (Str × Str)} {q : Str × Str} : q ∈ firsts l ↔ q ∈ l := by
  unfold firsts
  rw [(foldl_put l []).1 q]
  simp
theorem nodup_firsts (l : List (Str × Str)) : (firsts l).Nodup := (foldl_put l []).2 List.nodup_nil
theorem sumAt_snoc (l : List Tri) (t : Tri) (q : Str × Str) : sumAt (l ++ [t]) q = sumAt l q + (if pr t = q then t.2.2 else 0) := by
  unfold sumAt
  rw [List.filter_append, List.map_append, List.sum_append]
  congr 1
  by_cases h : pr t = q
  · rw [if_pos h, List.filter_cons_of_pos (by simpa using h)]
    simp
  · rw [if_neg h, List.filter_cons_of_neg (by simpa using h)]
    rfl
theorem sumAt_none {l : List Tri} {q : Str × Str} (h : q ∉ l.map pr) : sumAt l q = 0 := by
  unfold sumAt
  rw [List.filter_eq_nil_iff.mpr]
  · rfl
  · intro t ht
    simp only [decide_eq_true_eq]
    exact fun z => h (z ▸ List.mem_map_of_mem ht)
/-- what is counted: the pairs ascend, their numbers added, without 0 -/
def canon (l : List Tri) : List Tri := (((firsts (l.map pr)).mergeSort leP).filter fun p => 0 < sumAt l p).map fun p => (p.1, p.2, sumAt l p)
/-! the dict -/
end RM
namespace RM
open PySem PySem.Spec PyProof.Rows L2 CS RZ
/-! ### a comprehension whose turns leave the frame as it is -/
theorem lcL_run {cg : CG} {tt : CT} {te : CE} {vs : List Nat} {ρ0 : En} {n : Nat} (f : D → Option D) {k : List D → En → Nat → Prop} : ∀ (ds acc : List D), (∀ d ∈ ds, ∃ ρ1, cg d ρ0 = some ρ1 ∧ wipeE ρ1 vs = ρ0 ∧ (∀ K1 : Bool → En → Nat → Prop, K1 (f d).isSome ρ1 n → tt ρ1 n K1 kF) ∧ ∀ y, f d = some y → ∀ K2 : D → En → Nat → Prop, K2 y ρ1 n → te ρ1 n K2 kF) →
    acc.length + ds.length ≤ lim → k (acc ++ ds.filterMap f) ρ0 n → cLcL cg tt te vs ds ρ0 n acc k
  | [], acc, _, _, q => by simpa [cLcL] using q
  | d :: ds, acc, h, hl, q => by
    obtain ⟨ρ1, h1, h2, h3, h4⟩ := h d (List.mem_cons_self ..)
    rw [List.length_cons] at hl
    refine ⟨ρ1, h1, h3 _ ?_⟩
    cases e : f d with
    | none =>
      show cLcL cg tt te vs ds (wipeE ρ1 vs) n acc k
      rw [h2]
      refine lcL_run f ds acc (fun z hz => h z (List.mem_cons_of_mem _ hz)) (by omega) ?_
      rw [List.filterMap_cons, e] at q
      exact q
    | some y =>
      show te ρ1 n _ kF
      refine h4 y e _ ⟨by omega, ?_⟩
      rw [h2]
      refine lcL_run f ds (acc ++ [y]) (fun z hz => h z (List.mem_cons_of_mem _ hz)) (by rw [List.length_append, List.length_singleton]; omega) ?_
      rw [List.filterMap_cons, e] at q
      rw [List.append_assoc]
      exact q
/-- rows of a triple each, lists or tuples -/
def RowsAre (rows : List D) (l : List Tri) : Prop := rows.map seqD = l.map fun t => some [PyData.str t.1, .str t.2.1, .int t.2.2]
theorem firsts_len (l : List (Str × Str)) : (firsts l).length ≤ l.length := by
  have : ∀ (l acc : List (Str × Str)), (l.foldl putOne acc).length ≤ acc.length + l.length := by
    intro l
    induction l with
    | nil => intro acc; simp
    | cons p l ih =>
      intro acc
      rw [List.foldl_cons, List.length_cons]
      have h1 := ih (putOne acc p)
      have h2 : (putOne acc p).length ≤ acc.length + 1 := by
        unfold putOne
        split
        · omega
        · rw [List.length_append, List.length_singleton]
          exact Nat.le_refl _
      omega
  have := this l []
  unfold firsts
  simpa using this
end RM
namespace RM
open PySem PySem.Spec PyProof.Rows L2 CS RZ
/-! ### what may be compared, by depth -/
def OkN (k : Nat) (d : D) : Prop := plain d = true ∧ d.canLay0 = true ∧ d.depth ≤ k
theorem OkN.ok {k : Nat} {d : D} (h : OkN k d) (hk : k ≤ 64) : okE d = true := by
  unfold okE SeqAt.shaped
  rw [h.1, h.2.1, decide_eq_true (Nat.le_trans h.2.2 hk)]
  rfl
theorem OkN.all {k : Nat} : ∀ {ds : List D}, (∀ d ∈ ds, OkN k d) → plains ds = true ∧ PyData.canLayAll0 ds = true ∧ PyData.depthAll ds ≤ k
  | [], _ => ⟨rfl, by simp [PyData.canLayAll0], by simp [PyData.depthAll]⟩
  | d :: ds, h => by
    obtain ⟨a1, a2, a3⟩ := h d (List.mem_cons_self ..)
    obtain ⟨b1, b2, b3⟩ := OkN.all (ds := ds) fun z hz => h z (List.mem_cons_of_mem _ hz)
    refine ⟨by unfold plains; rw [a1, b1]; rfl, by simp only [PyData.canLayAll0]; rw [a2, b2]; rfl, ?_⟩
    simp only [PyData.depthAll]
    omega
theorem OkN.tuple {k : Nat} {ds : List D} (h : ∀ d ∈ ds, OkN k d) : OkN (k + 1) (.tuple ds) := by
  obtain ⟨b1, b2, b3⟩ := OkN.all h
  exact ⟨by unfold plain; exact b1, by simp only [PyData.canLay0]; exact b2, by simp only [PyData.depth]; omega⟩
theorem OkN.list {k : Nat} {ds : List D} (h : ∀ d ∈ ds, OkN k d) : OkN (k + 1) (.list ds) := by
  obtain ⟨b1, b2, b3⟩ := OkN.all h
  exact ⟨by unfold plain; exact b1, by simp only [PyData.canLay0]; exact b2, by simp only [PyData.depth]; omega⟩
theorem OkN.int (k : Nat) (i : Int) : OkN k (.int i) := ⟨rfl, by simp [PyData.canLay0], by simp [PyData.depth]⟩
def GoodS (s : Str) : Prop := (PyData.str s).canLay0 = true
theorem OkN.str (k : Nat) {s : Str} (h : GoodS s) : OkN k (.str s) := ⟨rfl, h, by simp [PyData.depth]⟩
def GoodP (p : Str × Str) : Prop := GoodS p.1 ∧ GoodS p.2
theorem tag_good : ∀ s ∈ tagPool, GoodS s := by
  intro s hs
  have : ∀ s ∈ tagPool, (PyData.str s).canLay0 = true := by decide +kernel
  exact this s hs
/-! ### by this law's own sums -/
def sdSummed : SpD := fun ds n k _ => ∃ (x : D) (l : List Tri), ds = [x] ∧ seqD x = some (trisD l) ∧ (∀ t ∈ l, GoodP (pr t)) ∧ l.length ≤ 1000 ∧ k (.tuple (trisD (canon l))) n
end RM
namespace RM
open PySem PySem.Spec PyProof.Rows L2 CS RZ
end RM
namespace RM
open PySem PySem.Spec PyProof.Rows L2 CS RZ
/-! ### classes by what they keep -/
end RM
namespace RM
open PySem PySem.Spec PyProof.Rows L2 CS RZ
def cCnt : Nat := 20
def cStill : Nat := 4
def cBelow : Nat := 5
/-! ### Counts, as data -/
def manyD (l : List Tri) : List (D × D) := l.map fun t => (tx (pr t), PyData.int t.2.2)
def cntF (s : Str) (l : List Tri) : List (D × D) := [(.str "_start", .str s), (.str "_steps", .tuple (trisD l)), (.str "_many", .dict ((.none, .bool true) :: manyD l))]
def cntD (s : Str) (l : List Tri) : D := obj cCnt (cntF s l)
def numAt (l : List Tri) (p : Str × Str) : Int := ((l.find? fun t => pr t = p).map fun t => t.2.2).getD 0
/-! properties -/
/-! numbers of steps -/
def sdSub : SpD := fun ds n k _ => ∃ s l x a b, ds = [cntD s l, x] ∧ seqD x = some [.str a, .str b] ∧ k (.int (numAt l (a, b))) n
end RM
namespace RM
open PySem PySem.Spec PyProof.Rows L2 CS RZ
/-! ### what leads out and in -/
theorem eqD_str {a b : Str} (ha : GoodS a) (hb : GoodS b) : eqD (.str a) (.str b) = some (.bool (decide (a = b))) := by
  unfold eqD
  rw [(OkN.str 0 ha).ok (by decide), (OkN.str 0 hb).ok (by decide), RM.eqv_str]
  rfl
def sdM_outs : SpD := fun ds n k _ => ∃ s l a, ds = [cntD s l, .str a] ∧ GoodS a ∧ (∀ t ∈ l, GoodP (pr t)) ∧ l.length ≤ 1000 ∧ k (.int ((l.filter fun t => t.1 = a).map fun t => t.2.2).sum) n
def sdM_ins : SpD := fun ds n k _ => ∃ s l a, ds = [cntD s l, .str a] ∧ GoodS a ∧ (∀ t ∈ l, GoodP (pr t)) ∧ l.length ≤ 1000 ∧ k (.int ((l.filter fun t => t.2.1 = a).map fun t => t.2.2).sum) n
/-! ### triples that are none -/
def stillT (t : Tri) : Bool := decide (t.1 = t.2.1)
def belowT (t : Tri) : Bool := decide (t.2.2 < 0)
def stillX (t : Tri) : Xv := (cStill, errF ["place"] [.str t.1])
def belowX (t : Tri) : Xv := (cBelow, errF ["one", "other", "number"] [.str t.1, .str t.2.1, .int t.2.2])
/-- what is raised for the triples, if something is -/
def wrongT (l : List Tri) : Option Xv := match l.find? stillT with
  | some t => some (stillX t)
  | none => (l.find? belowT).map belowX
end RM
namespace RM
open PySem PySem.Spec PyProof.Rows L2 CS RZ
/-! ### Counts made -/
theorem canon_pr (l : List Tri) : (canon l).map pr = ((firsts (l.map pr)).mergeSort leP).filter fun p => 0 < sumAt l p := by
  unfold canon
  rw [List.map_map]
  exact List.map_id' _
theorem canon_nodup (l : List Tri) : ((canon l).map pr).Nodup := by
  rw [canon_pr]
  exact ((List.mergeSort_perm _ _).nodup_iff.mpr (nodup_firsts _)).sublist List.filter_sublist
theorem canon_len (l : List Tri) : (canon l).length ≤ l.length := by
  have h1 := congrArg List.length (canon_pr l)
  rw [List.length_map] at h1
  have h2 := List.length_filter_le (fun p => decide (0 < sumAt l p)) ((firsts (l.map pr)).mergeSort leP)
  rw [List.length_mergeSort] at h2
  have h3 := firsts_len (l.map pr)
  rw [List.length_map] at h3
  omega
theorem canon_mem {l : List Tri} {t : Tri} (h : t ∈ canon l) : pr t ∈ l.map pr ∧ 0 < t.2.2 ∧ t.2.2 = sumAt l (pr t) := by
  unfold canon at h
  obtain ⟨p, hp, rfl⟩ := List.mem_map.mp h
  obtain ⟨h1, h2⟩ := List.mem_filter.mp hp
  exact ⟨mem_firsts.mp ((List.mergeSort_perm _ _).mem_iff.mp h1), of_decide_eq_true h2, rfl⟩
def sdInit : SpI := fun ds n k ke => ∃ (s : Str) (x : D) (rows : List D) (l : List Tri), ds = [.str s, x] ∧ seqD x = some rows ∧ RowsAre rows l ∧ (∀ t ∈ l, GoodP (pr t)) ∧ l.length ≤ 1000 ∧ match wrongT l with
  | some y => ke y n
  | none => k (cntF s (canon l)) n
/-! + and - -/
def sdBinAdd : SpD := fun ds n k ke => ∃ s l s2 l2, ds = [cntD s l, cntD s2 l2] ∧ (∀ t ∈ l, GoodP (pr t)) ∧ (∀ t ∈ l2, GoodP (pr t)) ∧ l.length + l2.length ≤ 1000 ∧ match wrongT (l ++ l2) with
  | some y => ke y n
  | none => k (cntD s (canon (l ++ l2))) n
def leftT (l l2 : List Tri) : List Tri := l.map fun t => (t.1, t.2.1, t.2.2 - numAt l2 (pr t))
end RM
namespace PySem.W
open PySem PySem.Spec PyProof.Rows
end PySem.W
namespace RM
open PySem PySem.Spec PyProof.Rows L2 CS RZ
/-! ### x op= e of an own class without in-place methods -/
def cAugO (i : Nat) (sd : SpD) (te : CE) (c : Nat) : CS := fun ρ n e => ∃ fs, ρ[i]? = some (some (Sl.v (obj c fs))) ∧ te ρ n (fun y ρ1 n1 => (∃ fs2, y = obj c fs2) ∧ sd [obj c fs, y] n1 (fun z n2 => e.nx (ρ1.set i (some (Sl.v z))) n2) (fun w n2 => e.xc w ρ1 n2)) e.xc
section
variable {X : Cx} {g : Glob} {xk : WX} {pos pos' p : Pos} {j k c i : Nat} {x : Str} {ps : List Str} {e : Expr} {te : CE}
/-! isinstance of an own class -/
def kindD : D → Option String
  | .none => some "NoneType"
  | .bool _ => some "bool"
  | .int _ => some "int"
  | .str _ => some "str"
  | .list _ => some "list"
  | .tuple _ => some "tuple"
  | .dict _ => none
def kinds : List String := ["NoneType", "bool", "int", "str", "list", "tuple"]
theorem kind_mem {d : D} {t : String} (h : kindD d = some t) : t ∈ kinds := by
  cases d <;> cases h <;> decide
theorem kind_ty {T : Tab} {H : Hp} {v : V} {d : D} {t : String} (h : Is T H v d) (e : kindD d = some t) : TyX T.K H v (.type t) := by
  cases h with
  | lst h r =>
    cases e
    exact .base (.lst h)
  | tup h r =>
    cases e
    rcases h with (h | ⟨o, h⟩) | ⟨o, its, n, h, hc, _⟩
    · exact .base (.tup h)
    · exact .fTuple h
    · exact .kTuple h hc
  | non => cases e; exact .base .non
  | bl b => cases e; exact .base (.bl b)
  | int b => cases e; exact .base (.int b)
  | str b => cases e; exact .base (.str b)
  | _ => cases e
/-! x[::-1] -/
end
end RM
namespace RM
open PySem PySem.Spec PyProof.Rows L2 CS RZ
/-! ### an object made with its last argument left out -/
def cMake1 (c : Nat) (sd : SpI) (d0 : D) (ta : CA) : CE := fun ρ n k ke => ta ρ n (fun ds ρ1 n1 => sd (ds ++ [d0]) n1 (fun fs n2 => k (obj c fs) ρ1 n2) (fun y n2 => ke y ρ1 n2)) ke
end RM
namespace RM
open PySem PySem.Spec PyProof.Rows L2 CS RZ
/-! ### dict of a list of pairs, keys of text, none twice -/
def pairsD (ps : List (Str × D)) : List D := ps.map fun p => .tuple [.str p.1, p.2]
def strK (ps : List (Str × D)) : List (D × D) := ps.map fun p => (.str p.1, p.2)
def gDictS (ds : List D) (z : D) : Prop := ∃ ps : List (Str × D), ds = [.list (pairsD ps)] ∧ (ps.map Prod.fst).Nodup ∧ z = .dict ((.none, .bool false) :: strK ps)
theorem merge_new : ∀ (kvs acc : List (L2.Key × V)), ((acc ++ kvs).map Prod.fst).Nodup → L2.mergeK acc kvs = acc ++ kvs
  | [], acc, _ => by rw [List.append_nil]; rfl
  | kv :: kvs, acc, h => by
    have e : acc ++ kv :: kvs = (acc ++ [kv]) ++ kvs := by rw [List.append_assoc]; rfl
    have hn : kv.1 ∉ acc.map Prod.fst := by
      rw [List.map_append, List.map_cons] at h
      intro z
      exact (List.nodup_append.mp h).2.2 _ z _ (List.mem_cons_self ..) rfl
    have hp : L2.putK acc kv.1 kv.2 = acc ++ [kv] := by
      unfold L2.putK
      rw [if_neg]
      intro z
      obtain ⟨y, h1, h2⟩ := List.any_eq_true.mp z
      exact hn (of_decide_eq_true h2 ▸ List.mem_map_of_mem h1)
    show L2.mergeK (L2.putK acc kv.1 kv.2) kvs = _
    rw [hp, e]
    exact merge_new kvs (acc ++ [kv]) (by rw [← e]; exact h)
theorem isL_pairs {T : Tab} {H : Hp} : ∀ {ps : List (Str × D)} {us : List V}, IsL T H us (pairsD ps) → ∃ (as : List Addr) (kvs : List (L2.Key × V)), us = as.map V.ref ∧ Paired (fun p (kv : L2.Key × V) => SqT T.K H p [kV kv.1, kv.2]) as kvs ∧ IsK T H kvs (strK ps) ∧ kvs.map Prod.fst = ps.map fun p => Sum.inr p.1
  | [], _, h => by
    cases h
    exact ⟨[], [], rfl, .nil, .nil, rfl⟩
  | p :: ps, _, h => by
    cases h with
    | cons a b =>
      obtain ⟨as, kvs, rfl, h1, h2, h3⟩ := isL_pairs b
      obtain ⟨q, xs, rfl, hq, r⟩ := a.tup'
      obtain ⟨v, u, rfl, iv, iu⟩ := r.two
      rw [iv.str'] at hq
      exact ⟨q :: as, (.inr p.1, u) :: kvs, rfl, .cons hq h1, .cons (k := .inr p.1) iu h2, by rw [List.map_cons, List.map_cons, h3]⟩
theorem paired_sq {K : PySem.W.Frag} {H H' : Hp} (s : Same H H') : ∀ {as : List Addr} {kvs : List (L2.Key × V)}, Paired (fun p (kv : L2.Key × V) => SqT K H p [kV kv.1, kv.2]) as kvs → Paired (fun p (kv : L2.Key × V) => SqT K H' p [kV kv.1, kv.2]) as kvs
  | _, _, .nil => .nil
  | _, _, .cons h t => .cons (sqt_same s h) (paired_sq s t)
theorem cd_dictS {X : Cx} (hc : X.calm = true) : CallD X (.type "dict") gDictS := by
  refine ⟨_, call_dictP hc, fun T Hh H vs ds z Q hK s il hg q => ?_⟩
  obtain ⟨ps, rfl, hn, rfl⟩ := hg
  obtain ⟨v, rfl, iv⟩ := il.one
  obtain ⟨a, us, rfl, ha, r⟩ := iv.list'
  obtain ⟨as, kvs, rfl, h1, h2, h3⟩ := isL_pairs r
  refine ⟨a, as, kvs, rfl, SqL.of (s _ _ ha), hK ▸ paired_sq s h1, fun p hp => ?_⟩
  have hm : L2.mergeK [] kvs = kvs := by
    refine merge_new kvs [] ?_
    rw [List.nil_append, h3]
    have : (ps.map fun p => (Sum.inr p.1 : L2.Key)) = (ps.map Prod.fst).map Sum.inr := by rw [List.map_map]; rfl
    rw [this]
    exact List.Pairwise.map _ (fun a b hab z => hab (Sum.inr.inj z)) hn
  rw [hm]
  exact q _ _ (same_new hp) fun Hx s1 s2 => .dk (.inl (s2 _ _ upd_same hp)) (h2.same s1)
end RM
namespace RM
open PySem PySem.Spec PyProof.Rows L2 CS RZ
/-! ### a comprehension with two walks -/
end RM
namespace RM
open PySem PySem.Spec PyProof.Rows L2 CS RZ
end RM
namespace RM
open PySem PySem.Spec PyProof.Rows L2 CS RZ
/-! ### own == and in as tests -/
end RM
namespace RM
open PySem PySem.Spec PyProof.Rows L2 CS RZ
/-! ### Counts that are equal -/
/-! ### surplus -/
def putS (ns : List Str) (a : Str) : List Str := if a ∈ ns then ns else ns ++ [a]
def tabK (ns : List Str) (f : Str → Int) : List (D × D) := ns.map fun p => (.str p, .int (f p))
theorem look_tabK (ns : List Str) (f : Str → Int) (a : Str) : lookD (.dict ((.none, .bool false) :: tabK ns f)) (.str a) = some (if a ∈ ns then some (.int (f a)) else none) := by
  show (if flatK (.str a) = true then some (keyD (tabK ns f) (.str a)) else none) = _
  rw [if_pos (show flatK (.str a) = true from rfl)]
  congr 1
  unfold keyD tabK
  induction ns with
  | nil => rfl
  | cons p ns ih =>
    rw [List.map_cons, List.find?_cons, RM.eqv_str]
    by_cases c : p = a
    · subst c
      simp
    · rw [decide_eq_false c]
      simp only
      rw [ih]
      by_cases c2 : a ∈ ns
      · simp [c2]
      · simp [c2, Ne.symm c]
theorem put_tabK {ns : List Str} {f : Str → Int} {a : Str} {v : Int} (hl : ns.length < lim) : putD (.dict ((.none, .bool false) :: tabK ns f)) (.str a) (.int v) = some (.dict ((.none, .bool false) :: tabK (putS ns a) fun p => if p = a then v else f p)) := by
  have h2 : (tabK ns f).length < lim := by
    unfold tabK
    rw [List.length_map]
    exact hl
  show (if flatK (.str a) = true ∧ (tabK ns f).length < lim then some (PyData.dict ((.none, .bool false) :: putKD (tabK ns f) (.str a) (.int v))) else none) = _
  rw [if_pos ⟨rfl, h2⟩]
  congr 3
  have ha : ((tabK ns f).any fun kv => PyData.eqv kv.1 (.str a)) = decide (a ∈ ns) := by
    unfold tabK
    rw [List.any_map]
    induction ns with
    | nil => rfl
    | cons p ns ih =>
      rw [List.any_cons, ih (by simp at hl; omega) (by simp [tabK] at h2 ⊢; omega)]
      show (PyData.eqv (.str p) (.str a) || _) = _
      rw [RM.eqv_str]
      by_cases h : p = a
      · subst h
        simp
      · simp [h, Ne.symm h]
  unfold putKD putS
  rw [ha]
  by_cases c : a ∈ ns
  · rw [decide_eq_true c, if_pos rfl, if_pos c]
    unfold tabK
    rw [List.map_map]
    refine List.map_congr_left fun p hp => ?_
    show (if PyData.eqv (.str p) (.str a) = true then (PyData.str p, _) else (PyData.str p, _)) = _
    rw [RM.eqv_str]
    by_cases h : p = a
    · simp [h]
    · simp [h]
  · rw [decide_eq_false c, if_neg (by simp), if_neg c]
    unfold tabK
    rw [List.map_append]
    congr 1
    · refine List.map_congr_left fun p hp => ?_
      have hne : ¬ p = a := fun z => c (z ▸ hp)
      dsimp only
      rw [if_neg hne]
    · simp
def over (l : List Tri) (p : Str) : Int := ((l.filter fun t => t.1 = p).map fun t => t.2.2).sum - ((l.filter fun t => t.2.1 = p).map fun t => t.2.2).sum
def ends (l : List Tri) (p : Str) : Prop := ∃ t ∈ l, t.1 = p ∨ t.2.1 = p
def overD (l : List Tri) (ys : List Str) : List D := (ys.filter fun p => over l p ≠ 0).map fun p => .tuple [.str p, .int (over l p)]
def sdSurplus : SpD := fun ds n k _ => ∃ s l, ds = [cntD s l] ∧ l.length ≤ 30 ∧ (∀ t ∈ l, t.1 ≠ t.2.1) ∧ ∀ ys : List Str, ys.Nodup → (∀ p, p ∈ ys ↔ ends l p) → sortedS ys = true → k (.tuple (overD l ys)) n
theorem mem_putS {ns : List Str} {a p : Str} : p ∈ putS ns a ↔ p ∈ ns ∨ p = a := by
  unfold putS
  split
  · rename_i h
    exact ⟨.inl, fun z => z.elim id fun e => e ▸ h⟩
  · rw [List.mem_append, List.mem_singleton]
theorem nodup_putS {ns : List Str} {a : Str} (h : ns.Nodup) : (putS ns a).Nodup := by
  unfold putS
  split
  · exact h
  · rename_i c
    rw [List.nodup_append]
    refine ⟨h, by simp, fun x hx y hy => ?_⟩
    rw [List.mem_singleton] at hy
    subst hy
    exact fun z => c (z ▸ hx)
theorem len_putS (ns : List Str) (a : Str) : (putS ns a).length ≤ ns.length + 1 := by
  unfold putS
  split
  · omega
  · rw [List.length_append, List.length_singleton]
    exact Nat.le_refl _
end RM
namespace RM
open PySem PySem.Spec PyProof.Rows L2 CS RZ
/-! ### what canon tells -/
def Fine (l : List Tri) : Prop := ∀ t ∈ l, t.1 ≠ t.2.1 ∧ 0 ≤ t.2.2
theorem sumAt_append (l m : List Tri) (p : Str × Str) : sumAt (l ++ m) p = sumAt l p + sumAt m p := by
  unfold sumAt
  rw [List.filter_append, List.map_append, List.sum_append]
theorem sumAt_nil (p : Str × Str) : sumAt [] p = 0 := rfl
theorem sumAt_cons (t : Tri) (l : List Tri) (p : Str × Str) : sumAt (t :: l) p = (if pr t = p then t.2.2 else 0) + sumAt l p := by
  have := sumAt_append [t] l p
  rw [List.singleton_append] at this
  rw [this]
  congr 1
  have h2 := sumAt_snoc [] t p
  rw [List.nil_append, sumAt_nil, Int.zero_add] at h2
  exact h2
theorem sumAt_nonneg {l : List Tri} (h : ∀ t ∈ l, 0 ≤ t.2.2) (p : Str × Str) : 0 ≤ sumAt l p := by
  induction l with
  | nil => exact Int.le_refl 0
  | cons t l ih =>
    rw [sumAt_cons]
    have h1 := ih fun z hz => h z (List.mem_cons_of_mem _ hz)
    have h2 := h t (List.mem_cons_self ..)
    split <;> omega
theorem sumAt_in {l : List Tri} {p : Str × Str} (h : sumAt l p ≠ 0) : p ∈ l.map pr := Decidable.byContradiction fun c => h (sumAt_none c)
theorem numAt_cons (t : Tri) (l : List Tri) (p : Str × Str) : numAt (t :: l) p = if pr t = p then t.2.2 else numAt l p := by
  unfold numAt
  rw [List.find?_cons]
  by_cases c : pr t = p
  · rw [decide_eq_true c, if_pos c]
    rfl
  · rw [decide_eq_false c, if_neg c]
theorem numAt_sum {l : List Tri} (hn : (l.map pr).Nodup) (p : Str × Str) : numAt l p = sumAt l p := by
  induction l with
  | nil => rfl
  | cons t l ih =>
    rw [List.map_cons, List.nodup_cons] at hn
    rw [sumAt_cons]
    unfold numAt
    rw [List.find?_cons]
    by_cases c : pr t = p
    · rw [decide_eq_true c, if_pos c, sumAt_none (c ▸ hn.1), Int.add_zero]
      rfl
    · rw [decide_eq_false c, if_neg c, Int.zero_add]
      exact ih hn.2
theorem sumAt_canon (l : List Tri) (p : Str × Str) : sumAt (canon l) p = if 0 < sumAt l p then sumAt l p else 0 := by
  by_cases c : p ∈ (canon l).map pr
  · obtain ⟨t, ht, rfl⟩ := List.mem_map.mp c
    obtain ⟨h1, h2, h3⟩ := canon_mem ht
    rw [← numAt_sum (canon_nodup l)]
    unfold numAt
    have : (canon l).find? (fun u => pr u = pr t) = some t := by
      have hn := canon_nodup l
      generalize canon l = m at ht hn
      induction m with
      | nil => cases ht
      | cons u m ih =>
        rw [List.find?_cons]
        by_cases e : u = t
        · subst e
          rw [decide_eq_true rfl]
        · rcases List.mem_cons.mp ht with z | z
          · exact absurd z.symm e
          · rw [List.map_cons, List.nodup_cons] at hn
            have hne : ¬ pr u = pr t := fun w => hn.1 (by rw [w]; exact List.mem_map_of_mem z)
            rw [decide_eq_false hne]
            exact ih z hn.2
    rw [this]
    show t.2.2 = _
    rw [← h3, if_pos h2]
  · rw [sumAt_none c, if_neg]
    intro z
    refine c ?_
    rw [canon_pr, List.mem_filter]
    exact ⟨(List.mergeSort_perm _ _).mem_iff.mpr (mem_firsts.mpr (sumAt_in (by omega))), decide_eq_true z⟩
theorem sumAt_canon' {l : List Tri} (h : Fine l) (p : Str × Str) : sumAt (canon l) p = sumAt l p := by
  rw [sumAt_canon]
  have := sumAt_nonneg (fun t ht => (h t ht).2) p
  split <;> omega
theorem fine_canon {l : List Tri} (h : Fine l) : Fine (canon l) := fun t ht => by
  obtain ⟨h1, h2, _⟩ := canon_mem ht
  obtain ⟨u, hu, he⟩ := List.mem_map.mp h1
  refine ⟨fun z => (h u hu).1 ?_, by omega⟩
  have e1 : (pr u).1 = (pr t).1 := by rw [he]
  have e2 : (pr u).2 = (pr t).2 := by rw [he]
  change u.1 = t.1 at e1
  change u.2.1 = t.2.1 at e2
  rw [e1, e2, z]
end RM
namespace RM
open PySem PySem.Spec PyProof.Rows L2 CS RZ
/-! ### the promises, as they are used where nothing is raised -/
def GoodL (l : List Tri) : Prop := ∀ t ∈ l, GoodP (pr t)
theorem good_canon {l : List Tri} (h : GoodL l) : GoodL (canon l) := fun t ht => by
  obtain ⟨h1, _⟩ := canon_mem ht
  obtain ⟨u, hu, he⟩ := List.mem_map.mp h1
  rw [← he]
  exact h u hu
/-! ### the places -/
def sdP_places : SpD := fun ds n k _ => ∃ s l, ds = [cntD s l] ∧ l.length ≤ 30 ∧ ∀ ys : List Str, ys.Nodup → (∀ p, p ∈ ys ↔ p = s ∨ ends l p) → sortedS ys = true → k (.tuple (strD ys)) n
end RM
namespace RM
open PySem PySem.Spec PyProof.Rows L2 CS RZ
/-! ### sums over the places -/
def outsT (l : List Tri) (a : Str) : Int := ((l.filter fun t => t.1 = a).map fun t => t.2.2).sum
def insT (l : List Tri) (a : Str) : Int := ((l.filter fun t => t.2.1 = a).map fun t => t.2.2).sum
theorem outsT_cons (t : Tri) (l : List Tri) (a : Str) : outsT (t :: l) a = (if t.1 = a then t.2.2 else 0) + outsT l a := by
  unfold outsT
  rw [List.filter_cons]
  by_cases c : t.1 = a
  · rw [if_pos (decide_eq_true c), if_pos c, List.map_cons, List.sum_cons]
  · rw [if_neg (by simpa using c), if_neg c, Int.zero_add]
theorem insT_cons (t : Tri) (l : List Tri) (a : Str) : insT (t :: l) a = (if t.2.1 = a then t.2.2 else 0) + insT l a := by
  unfold insT
  rw [List.filter_cons]
  by_cases c : t.2.1 = a
  · rw [if_pos (decide_eq_true c), if_pos c, List.map_cons, List.sum_cons]
  · rw [if_neg (by simpa using c), if_neg c, Int.zero_add]
/-- a sum that one member alone gives -/
theorem sum_one {ys : List Str} (hn : ys.Nodup) (b : Str) (c : Int) : (ys.map fun y => if b = y then c else 0).sum = if b ∈ ys then c else 0 := by
  induction ys with
  | nil => rfl
  | cons y ys ih =>
    rw [List.nodup_cons] at hn
    rw [List.map_cons, List.sum_cons, ih hn.2]
    by_cases e : b = y
    · subst e
      rw [if_pos rfl, if_neg hn.1, if_pos (List.mem_cons_self ..), Int.add_zero]
    · rw [if_neg e, Int.zero_add]
      by_cases m : b ∈ ys
      · rw [if_pos m, if_pos (List.mem_cons_of_mem _ m)]
      · rw [if_neg m, if_neg fun z => (List.mem_cons.mp z).elim e m]
theorem sum_add (ys : List Str) (f g : Str → Int) : (ys.map fun y => f y + g y).sum = (ys.map f).sum + (ys.map g).sum := by
  induction ys with
  | nil => rfl
  | cons y ys ih =>
    rw [List.map_cons, List.map_cons, List.map_cons, List.sum_cons, List.sum_cons, List.sum_cons, ih]
    omega
theorem sum_zero (ys : List Str) : (ys.map fun _ => (0 : Int)).sum = 0 := by
  induction ys with
  | nil => rfl
  | cons y ys ih => rw [List.map_cons, List.sum_cons, ih]; rfl
theorem sum_outs {ys : List Str} (hn : ys.Nodup) (a : Str) : ∀ l : List Tri, (∀ p, ends l p → p ∈ ys) → (ys.map fun y => sumAt l (a, y)).sum = outsT l a
  | [], _ => sum_zero ys
  | t :: l, h => by
    have ih := sum_outs hn a l fun p ⟨u, hu, z⟩ => h p ⟨u, List.mem_cons_of_mem _ hu, z⟩
    rw [outsT_cons, ← ih]
    have : (fun y => sumAt (t :: l) (a, y)) = fun y => (if t.2.1 = y then (if t.1 = a then t.2.2 else 0) else 0) + sumAt l (a, y) := by
      funext y
      rw [sumAt_cons]
      congr 1
      by_cases c1 : t.1 = a
      · by_cases c2 : t.2.1 = y
        · rw [if_pos (show pr t = (a, y) by rw [← c1, ← c2]; rfl), if_pos c2, if_pos c1]
        · rw [if_neg (show ¬ pr t = (a, y) from fun z => c2 (congrArg Prod.snd (show (t.1, t.2.1) = (a, y) from z))), if_neg c2]
      · rw [if_neg (show ¬ pr t = (a, y) from fun z => c1 (congrArg Prod.fst (show (t.1, t.2.1) = (a, y) from z))), if_neg c1]
        split <;> rfl
    rw [this, sum_add, sum_one hn, if_pos (h _ ⟨t, List.mem_cons_self .., .inr rfl⟩)]
theorem sum_ins {ys : List Str} (hn : ys.Nodup) (a : Str) : ∀ l : List Tri, (∀ p, ends l p → p ∈ ys) → (ys.map fun y => sumAt l (y, a)).sum = insT l a
  | [], _ => sum_zero ys
  | t :: l, h => by
    have ih := sum_ins hn a l fun p ⟨u, hu, z⟩ => h p ⟨u, List.mem_cons_of_mem _ hu, z⟩
    rw [insT_cons, ← ih]
    have : (fun y => sumAt (t :: l) (y, a)) = fun y => (if t.1 = y then (if t.2.1 = a then t.2.2 else 0) else 0) + sumAt l (y, a) := by
      funext y
      rw [sumAt_cons]
      congr 1
      by_cases c1 : t.2.1 = a
      · by_cases c2 : t.1 = y
        · rw [if_pos (show pr t = (y, a) by rw [← c1, ← c2]; rfl), if_pos c2, if_pos c1]
        · rw [if_neg (show ¬ pr t = (y, a) from fun z => c2 (congrArg Prod.fst (show (t.1, t.2.1) = (y, a) from z))), if_neg c2]
      · rw [if_neg (show ¬ pr t = (y, a) from fun z => c1 (congrArg Prod.snd (show (t.1, t.2.1) = (y, a) from z))), if_neg c1]
        split <;> rfl
    rw [this, sum_add, sum_one hn, if_pos (h _ ⟨t, List.mem_cons_self .., .inl rfl⟩)]
end RM
namespace RM
open PySem PySem.Spec PyProof.Rows L2 CS RZ
/-! ### texts in order -/
def leS (a b : Str) : Prop := a.cps.toList ≤ b.cps.toList
theorem leS_anti {a b : Str} (h : leS a b) (h2 : leS b a) : a = b := PySem.W.str_of_cps (List.le_antisymm h h2)
theorem leS_trans {a b c : Str} (h : leS a b) (h2 : leS b c) : leS a c := List.le_trans h h2
theorem not_lt {a b : Str} (h : ltCps b.cps.toList a.cps.toList = false) : leS a b := by
  rw [ltCps_eq, decide_eq_false_iff_not] at h
  exact List.not_lt.mp h
theorem rising_pw : ∀ (p : Str) (l : List Str), risingS p l = true → (p :: l).Pairwise leS
  | p, [], _ => List.pairwise_singleton _ _
  | p, x :: r, h => by
    have h' : (!ltCps x.cps.toList p.cps.toList && risingS x r) = true := h
    rw [Bool.and_eq_true] at h'
    have ih := rising_pw x r h'.2
    have hx : leS p x := not_lt (by simpa using h'.1)
    rw [List.pairwise_cons] at ih ⊢
    refine ⟨fun y hy => ?_, List.pairwise_cons.mpr ih⟩
    rcases List.mem_cons.mp hy with rfl | hy
    · exact hx
    · exact leS_trans hx (ih.1 y hy)
theorem sorted_pw {l : List Str} (h : sortedS l = true) : l.Pairwise leS := by
  cases l with
  | nil => exact .nil
  | cons x r => exact rising_pw x r h
theorem sorted_one {ys zs : List Str} (h1 : ys.Pairwise leS) (h2 : zs.Pairwise leS) (n1 : ys.Nodup) (n2 : zs.Nodup) (hm : ∀ p, p ∈ ys ↔ p ∈ zs) : ys = zs :=
  List.Perm.eq_of_pairwise (le := leS) (fun a b _ _ x y => leS_anti x y) h1 h2 ((List.perm_ext_iff_of_nodup n1 n2).mpr hm)
/-! ### what comes next to a place -/
theorem canon_pw (l : List Tri) : (canon l).Pairwise fun t u => leP (pr t) (pr u) = true := by
  have h : ((canon l).map pr).Pairwise fun a b => leP a b = true := by
    rw [canon_pr]
    exact (PySem.W.sort_pairwise leP_total _).sublist List.filter_sublist
  exact List.pairwise_map.mp h
end RM
namespace RM
open PySem PySem.Spec PyProof.Rows L2 CS RZ
/-! ### k08: a turn -/
def okS : Nat → D → Prop
  | 0, _ => False
  | _ + 1, .int _ => True
  | _ + 1, .str _ => True
  | _ + 1, .bool _ => True
  | _ + 1, .none => True
  | n + 1, .list ds => ds.length ≤ 1000 ∧ ∀ d ∈ ds, okS n d
  | n + 1, .tuple ds => ds.length ≤ 1000 ∧ ∀ d ∈ ds, okS n d
  | _ + 1, _ => False
/-- alike with itself -/
def sdSame : SpD := fun ds n k _ => ∃ x, ds = [x, x] ∧ okS 4 x ∧ k (.bool true) n
def r1 : CS := cSet 2 (cCall sdTags (cCons (cVar 0) (cCons (cOp addD (cC (.int 2)) (cCall sdTake (cCons (cVar 0) (cCons (cC (.int 5)) (cNil))))) (cNil))))
def r2 : CS := cPar 6 7 (cCons (cCall sdOf (cCons (cVar 0) (cCons (cVar 2) (cNil)))) (cCons (cCall sdStrewn (cCons (cVar 0) (cCons (cVar 2) (cCons (cC (.int 9)) (cCons (cCall sdOf (cCons (cVar 0) (cCons (cLst (cCons (cC (.int 1)) (cCons (cC (.int 3)) (cCons (cOp powD (cC (.int 10)) (cC (.int 28))) (cNil))))) (cNil)))) (cNil)))))) (cNil)))
def r3 : CS := cSet 3 (cMake cCnt sdInit (cCons (cVar 6) (cCons (cVar 7) (cNil))))
def r5 : CS := cPar 8 9 (cCons (cMake1 cCnt sdInit (.tuple []) (cCons (cVar 6) (cNil))) (cCons (cVar 3) (cNil)))
def r6 : CS := cFor (cSeq (cCall sdPick (cCons (cVar 0) (cCons (cVar 7) (cCons (cCB gLen (cCons (cVar 7) (cNil))) (cNil)))))) (stN 4) (cAugO 8 sdBinAdd (cMake cCnt sdInit (cCons (cC (.str "yonder")) (cCons (cLst (cCons (cVar 4) (cNil))) (cNil)))) cCnt)
def q1 : CS := cOwn 10 (cLc (cSeq (cProp sdP_places (cVar 3) cCnt)) (stN 13) (cYes) (cSubO sdSub (cVar 3) (cTup (cCons (cVar 5) (cCons (cVar 13) (cNil)))) cCnt) [13])
def q2 : CS := cOwn 11 (cLc (cSeq (cProp sdP_places (cVar 3) cCnt)) (stN 13) (cYes) (cSubO sdSub (cVar 3) (cTup (cCons (cVar 13) (cCons (cVar 5) (cNil)))) cCnt) [13])
def q3 : CS := cIfS (cNotT (cB (cCall sdSame (cCons (cLst (cCons (cCB gSum (cCons (cVar 10) (cNil))) (cCons (cCB gSum (cCons (cVar 11) (cNil))) (cNil)))) (cCons (cLst (cCons (cMeth sdM_outs (cVar 3) (cCons (cVar 5) (cNil)) cCnt "outs") (cCons (cMeth sdM_ins (cVar 3) (cCons (cVar 5) (cNil)) cCnt "ins") (cNil)))) (cNil)))))) (cRet (cC (.bool false))) (cNext)
def q4 : CS := cSet 12 (cDGet2 (.ex (cCB gDictS (cCons (cCF gList' (cCons (cCall sdSurplus (cCons (cVar 3) (cNil))) (cNil))) (cNil)))) (cKey (cVar 5)) (cC (.int 0)))
def q5 : CS := cIfS (cB (cOp neD (cOp subD (cMeth sdM_outs (cVar 3) (cCons (cVar 5) (cNil)) cCnt "outs") (cMeth sdM_ins (cVar 3) (cCons (cVar 5) (cNil)) cCnt "ins")) (cVar 12))) (cRet (cC (.bool false))) (cNext)
abbrev fr (t1 t2 t3 t4 t5 t6 t7 t8 t9 t10 t11 t12 t13 : Option Sl) : En := [some (.v boxD), t1, t2, t3, t4, t5, t6, t7, t8, t9, t10, t11, t12, t13]
section
variable {e : EndsD} {n : Nat} {t1 t2 t3 t4 t5 t6 t7 t8 t9 t10 t11 t12 t13 : Option Sl}
theorem strD_len (ss : List Str) : (strD ss).length = ss.length := by unfold strD; rw [List.length_map]
end
end RM
namespace RM
open PySem PySem.Spec PyProof.Rows L2 CS RZ
section
variable {e : EndsD} {n : Nat} {t1 t2 t3 t4 t5 t6 t7 t8 t9 t10 t11 t12 t13 : Option Sl}
theorem neD_str {a b : Str} (ha : GoodS a) (hb : GoodS b) : neD (.str a) (.str b) = some (.bool (!decide (a = b))) := by
  unfold neD
  rw [(OkN.str 0 ha).ok (by decide), (OkN.str 0 hb).ok (by decide), RM.eqv_str]
  rfl
end
end RM
namespace RM
open PySem PySem.Spec PyProof.Rows L2 CS RZ
theorem OkN.strs {ys : List Str} (h : ∀ y ∈ ys, GoodS y) : OkN 1 (.tuple (strD ys)) := OkN.tuple fun d hd => by
  obtain ⟨y, hy, rfl⟩ := List.mem_map.mp hd
  exact .str 0 (h y hy)
/-- what is known of the places that are told -/
structure Pl (f : Str) (L : List Tri) (ys : List Str) : Prop where
  nd : ys.Nodup
  mem : ∀ p, p ∈ ys ↔ p = f ∨ ends L p
  pw : ys.Pairwise leS
/-- what is known of what is counted -/
structure Ct (f : Str) (L : List Tri) : Prop where
  gf : GoodS f
  g : GoodL L
  fine : Fine L
  len : L.length ≤ 9
  nd : (L.map pr).Nodup
  pw : L.Pairwise fun t u => leP (pr t) (pr u) = true
theorem Pl.good {f : Str} {L : List Tri} {ys : List Str} (h : Pl f L ys) (c : Ct f L) : ∀ y ∈ ys, GoodS y := fun y hy => by
  rcases (h.mem y).mp hy with rfl | ⟨t, ht, rfl | rfl⟩
  · exact c.gf
  · exact (c.g t ht).1
  · exact (c.g t ht).2
theorem Pl.one {f : Str} {L : List Tri} {ys zs : List Str} (h : Pl f L ys) (h2 : Pl f L zs) : ys = zs := sorted_one h.pw h2.pw h.nd h2.nd fun p => (h.mem p).trans (h2.mem p).symm
theorem nodup_len : ∀ {ys zs : List Str}, ys.Nodup → (∀ y ∈ ys, y ∈ zs) → ys.length ≤ zs.length
  | [], _, _, _ => Nat.zero_le _
  | y :: ys, zs, hn, h => by
    have hy := h y (List.mem_cons_self ..)
    have hc := List.nodup_cons.mp hn
    have ih := nodup_len (ys := ys) (zs := zs.erase y) hc.2 fun z hz => (List.mem_erase_of_ne fun (e : z = y) => hc.1 (e ▸ hz)).mpr (h z (List.mem_cons_of_mem _ hz))
    rw [List.length_erase_of_mem hy] at ih
    have := List.length_pos_of_mem hy
    rw [List.length_cons]
    omega
theorem Pl.len {f : Str} {L : List Tri} {ys : List Str} (h : Pl f L ys) (c : Ct f L) : ys.length ≤ 100 := by
  have := nodup_len (zs := f :: (L.map (fun t => t.1) ++ L.map fun t => t.2.1)) h.nd fun y hy => by
    rcases (h.mem y).mp hy with rfl | ⟨t, ht, rfl | rfl⟩
    · exact List.mem_cons_self ..
    · exact List.mem_cons_of_mem _ (List.mem_append_left _ (List.mem_map.mpr ⟨t, ht, rfl⟩))
    · exact List.mem_cons_of_mem _ (List.mem_append_right _ (List.mem_map.mpr ⟨t, ht, rfl⟩))
  have lc := c.len
  rw [List.length_cons, List.length_append, List.length_map, List.length_map] at this
  omega
end RM
namespace RM
open PySem PySem.Spec PyProof.Rows L2 CS RZ
end RM
namespace RM
open PySem PySem.Spec PyProof.Rows L2 CS RZ
def sdRight : SpD := fun ds n k _ => ds = [boxD] ∧ n = 0 ∧ ∀ n', k (.bool true) n'
abbrev n_law_right : List Str := ["_law_box_here", "_law_turn", "_law_tags_here", "_law_made", "_law_own", "_law_tag", "_law_first_so", "_law_rows_so", "_law_sum_so", "_law_left_so", "_law_far_so", "_law_near_so", "_law_over_so", "_law_far"]
end RM
namespace RM
open PySem PySem.Spec PyProof.Rows L2 CS RZ
/-! ### k08 by hand -/
theorem firsts_id : ∀ (l m : List (Str × Str)), (m ++ l).Nodup → firsts m = m → firsts (m ++ l) = m ++ l
  | [], m, _, h => by rwa [List.append_nil]
  | p :: l, m, hn, h => by
    have e : m ++ p :: l = (m ++ [p]) ++ l := by rw [List.append_assoc]; rfl
    rw [e] at hn ⊢
    refine firsts_id l (m ++ [p]) hn ?_
    rw [firsts_snoc, h]
    unfold putOne
    rw [if_neg]
    intro z
    have := (List.nodup_append.mp hn).1
    exact (List.nodup_append.mp this).2.2 p z p (by simp) rfl
theorem canon_id {l : List Tri} (hn : (l.map pr).Nodup) (hp : (l.map pr).Pairwise fun a b => leP a b = true) (h0 : ∀ t ∈ l, 0 < t.2.2) : canon l = l := by
  have e1 : firsts (l.map pr) = l.map pr := firsts_id (l.map pr) [] (by simpa using hn) rfl
  have hs : ∀ t ∈ l, sumAt l (pr t) = t.2.2 := fun t ht => by
    rw [← numAt_sum hn]
    induction l with
    | nil => cases ht
    | cons u l ih =>
      rw [numAt_cons]
      rw [List.map_cons, List.nodup_cons] at hn
      rcases List.mem_cons.mp ht with rfl | ht
      · rw [if_pos rfl]
      · have hne : ¬ pr u = pr t := fun w => hn.1 (by rw [w]; exact List.mem_map_of_mem ht)
        rw [if_neg hne]
        rw [List.map_cons, List.pairwise_cons] at hp
        exact ih hn.2 hp.2 (fun z hz => h0 z (List.mem_cons_of_mem _ hz)) (firsts_id (l.map pr) [] (by simpa using hn.2) rfl) ht
  unfold canon
  rw [e1, List.mergeSort_of_pairwise hp, List.filter_eq_self.mpr fun p hp => ?_]
  · rw [List.map_map]
    refine (List.map_congr_left fun t ht => ?_).trans (List.map_id l)
    show (t.1, t.2.1, sumAt l (pr t)) = t
    rw [hs t ht]
  · obtain ⟨t, ht, rfl⟩ := List.mem_map.mp hp
    rw [hs t ht]
    exact decide_eq_true (h0 t ht)
end RM
namespace RM
open PySem PySem.Spec PyProof.Rows L2 CS RZ
/-! ### from the bare heap to data -/
theorem ev_bare {C : Ctx} {n : Nat} {H : Hp} (hB : C.B = fun _ => none) (h0 : C.H0 = H) (hz : ∀ a, C.Z a → C.T.bx = some a) (hb : ∀ b, C.T.bx = some b → C.Z b ∧ BoxAt H b n) : Ev C [] n [] H now := by
  refine ⟨rfl, fun i d h => by simp at h, fun i d h => by simp at h, fun i p h => (by cases h), fun i j p h => (by cases h), fun a z => ?_, fun a xs z e => ?_, fun a o h _ => h0 ▸ h, hb, fun p hp i q d h => (by cases h), fun a o h => ?_⟩
  · obtain ⟨A, B, F, e, _⟩ := (hb a (hz a z)).2
    exact ⟨_, h0 ▸ e⟩
  · obtain ⟨A, B, F, e2, _⟩ := (hb a (hz a z)).2
    rw [h0, e2] at e
    cases e
  · rw [hB] at h
    cases h
theorem right_imp {g : Glob} {vs : List V} {H : Hp} {Q : VK} {E : XK} (h : ∃ b : Addr, vs = [.ref b] ∧ BoxAt H b 0 ∧ ∀ H' : Hp, (∀ c o, c ≠ b → H c = some o → H' c = some o) → Q (.bl true) H') : spD g sdRight vs H Q E := by
  obtain ⟨b, rfl, hb, q⟩ := h
  refine ⟨{ T := ⟨g.K, g.cls, some b⟩, Z := fun a => a = b, H0 := H }, [boxD], 0, fun d _ => d = .bool true, fun _ _ => False, ⟨rfl, rfl⟩, rfl, ev_bare rfl rfl (fun a z => by rw [show a = b from z]) (fun b' h => ?_), .cons (.box rfl) .nil, ⟨rfl, rfl, fun _ => rfl⟩, fun d n' v H' hd F i => ?_, fun _ _ _ _ _ h => h.elim⟩
  · have e : b = b' := Option.some.inj h
    subst e
    exact ⟨rfl, hb⟩
  · subst hd
    rw [isBl i]
    exact q H' fun c o hc ho => F.keep c o ho fun z => hc (Option.some.inj z).symm
theorem okS_plain : ∀ (n : Nat) (d : D), okS n d → plain d = true
  | 0, _, h => h.elim
  | _ + 1, .none, _ => rfl
  | _ + 1, .bool _, _ => rfl
  | _ + 1, .int _, _ => rfl
  | _ + 1, .str _, _ => rfl
  | n + 1, .list ds, h => by
    unfold plain
    have : ∀ l : List D, (∀ d ∈ l, okS n d) → plains l = true := by
      intro l
      induction l with
      | nil => intro _; rfl
      | cons d l ih =>
        intro hh
        unfold plains
        rw [okS_plain n d (hh d (List.mem_cons_self ..)), ih fun z hz => hh z (List.mem_cons_of_mem _ hz)]
        rfl
    exact this ds h.2
  | n + 1, .tuple ds, h => by
    unfold plain
    have : ∀ l : List D, (∀ d ∈ l, okS n d) → plains l = true := by
      intro l
      induction l with
      | nil => intro _; rfl
      | cons d l ih =>
        intro hh
        unfold plains
        rw [okS_plain n d (hh d (List.mem_cons_self ..)), ih fun z hz => hh z (List.mem_cons_of_mem _ hz)]
        rfl
    exact this ds h.2
  | _ + 1, .dict _, h => h.elim
end RM
namespace K20
open PySem PySem.Spec PyProof.Rows L2 CS RM
theorem okS_okD : ∀ (n : Nat) (d : PyData), okS n d → okD n d
  | 0, _, h => h.elim
  | _ + 1, .none, _ => trivial
  | _ + 1, .bool _, _ => trivial
  | _ + 1, .int _, _ => trivial
  | _ + 1, .str _, _ => trivial
  | n + 1, .list ds, h => ⟨h.1, fun d hd => okS_okD n d (h.2 d hd)⟩
  | n + 1, .tuple ds, h => ⟨h.1, fun d hd => okS_okD n d (h.2 d hd)⟩
  | _ + 1, .dict _, h => h.elim
end K20
namespace RM
open PySem PySem.Spec PyProof.Rows L2
/-! ### sets of texts that can be walked -/
section
variable {P : Program} {w : World} {A : Around} {E : Value → Shared → Prop} {s : Shared} {a : Addr} {ss : List Str}
def TxE (P : Program) (w : World) (x : Int × Value) : Prop := ∃ z t, x.2 = Value.str z t ∧ x.1 = (PySem.strKind P w).hash z
def txOf (x : Int × Value) : Str := match x.2 with | .str z _ => z | _ => Str.empty
structure Laid (P : Program) (w : World) (ss : List Str) (es : Array (Int × Value)) (t : SetTable) : Prop where
  el : ∀ x ∈ es.toList, TxE P w x
  pm : (es.toList.map txOf).Perm ss
  nd : ss.Nodup
  sz : es.size < scanBound
  fit : t.fits es.size = true
  ris : Ris t.place.toList
  led : w.params.followText "set-order" = true ∨ t.led = true
def TxSet (P : Program) (w : World) (a : Addr) (ss : List Str) (h : Heap) : Prop := ∃ o es ep t, h.get? a = some o ∧ o.ExactSet ∧ o.data = .set es ep t ∧ Laid P w ss es t
theorem Laid.elems {es : Array (Int × Value)} {t : SetTable} (L : Laid P w ss es t) : ElemsOf (PySem.strKind P w) es.toList := fun x hx => by
  obtain ⟨z, k, h1, h2⟩ := L.el x hx
  exact ⟨⟨z, by rw [h1]; exact strKind_is P w z k, h2⟩, by rw [h1]; rfl⟩
theorem Laid.len {es : Array (Int × Value)} {t : SetTable} (L : Laid P w ss es t) : es.size = ss.length := by
  have := L.pm.length_eq
  rw [List.length_map, Array.length_toList] at this
  exact this
theorem Laid.grown {es : Array (Int × Value)} {t : SetTable} (L : Laid P w ss es t) (m : Nat) : Laid P w ss (relayAll t es m).1 (relayAll t es m).2.1 := by
  have pm := relayAll_perm t es m
  have hz : (relayAll t es m).1.size = es.size := by
    have := pm.length_eq
    rwa [Array.length_toList, Array.length_toList] at this
  exact ⟨fun x hx => L.el x (pm.mem_iff.mp hx), (pm.map txOf).trans L.pm, L.nd, by rw [hz]; exact L.sz, relayAll_fits t es m, relayAll_ris t es m, L.led.imp id fun z => by rw [relayAll_led]; exact z⟩
theorem Laid.more {es : Array (Int × Value)} {t : SetTable} (L : Laid P w ss es t) {k : Str} {tk : Tok} (hk : k ∉ ss) (room : ss.length + 1 < scanBound) : Laid P w (k :: ss) (layNew t es ((PySem.strKind P w).hash k) (.str k tk)).1 (layNew t es ((PySem.strKind P w).hash k) (.str k tk)).2.1 := by
  have pm := layNew_perm t es ((PySem.strKind P w).hash k) (.str k tk)
  rw [Array.toList_push] at pm
  have pc := pm.trans (List.perm_append_singleton _ _)
  have hz : (layNew t es ((PySem.strKind P w).hash k) (.str k tk)).1.size = ss.length + 1 := by
    have := pc.length_eq
    rw [Array.length_toList, List.length_cons, Array.length_toList, L.len] at this
    exact this
  refine ⟨fun x hx => ?_, (pc.map txOf).trans (List.Perm.cons _ L.pm), List.nodup_cons.mpr ⟨hk, L.nd⟩, by rw [hz]; exact room, layNew_fits t es _ _, layNew_ris t es _ _ L.ris, L.led.imp id fun z => by rw [layNew_led]; exact z⟩
  rcases List.mem_cons.mp (pc.mem_iff.mp hx) with z | z
  · rw [z]
    exact ⟨k, tk, rfl, rfl⟩
  · exact L.el x z
theorem tx_store {es es' : Array (Int × Value)} {ep : Nat} {t t' : SetTable} {o : Obj} {Q : Unit → Shared → Prop} (ho : s.heap.get? a = some o) (hx : o.ExactSet) (hd : o.data = .set es ep t) (L : Laid P w ss es' t') (q : ∀ h', Heap.SameBut a s.heap h' → (∃ o', h'.get? a = some o' ∧ o'.ExactSet ∧ ∃ ep', o'.data = .set es' ep' t') → Q () { s with heap := h' }) :
    wpAny (model P w) A (storeSet a es' t') Q E s :=
  wpAny_storeSet_of ho hd (q _ (Heap.SameBut.update s.heap a (Obj.putSet es' t')) ⟨_, store_at ho hd, hx, _, rfl⟩) (fits_of_scanBound L.sz)
/-- what is stored, and stored again when the table has grown too full -/
theorem tx_tail {g : Bool → Sem Unit} (hg : ∀ (b : Bool) (s₁ : Shared) (Q' : Unit → Shared → Prop), Q' () s₁ → wpAny (model P w) A (g b) Q' E s₁) {es es1 : Array (Int × Value)} {ep : Nat} {t t2 : SetTable} {o : Obj} {wasDummy : Bool} {Q : Option Bool → Shared → Prop} (ho : s.heap.get? a = some o) (hx : o.ExactSet) (hd : o.data = .set es ep t) (L : Laid P w ss es1 t2)
    (q : ∀ h', Heap.SameBut a s.heap h' → TxSet P w a ss h' → Q (some true) { s with heap := h' }) :
    wpAny (model P w) A (do
        storeSet a es1 t2
        if (!wasDummy && t2.tooFull) = true then do
            g (relayAll t2 es1 (SetTable.grown es1.size)).2.2
            storeSet a (relayAll t2 es1 (SetTable.grown es1.size)).1 (relayAll t2 es1 (SetTable.grown es1.size)).2.1
            pure (some true)
          else pure (some true)) Q E s := by
  refine wpAny_bind (tx_store ho hx hd L fun h1 sb1 ⟨o1, ho1, hx1, ep1, hd1⟩ => ?_)
  split
  · refine wpAny_bind (hg _ _ _ ?_)
    refine wpAny_bind (tx_store (s := { s with heap := h1 }) ho1 hx1 hd1 (L.grown _) fun h2 sb2 ⟨o2, ho2, hx2, ep2, hd2⟩ => ?_)
    exact wpAny_pure (q h2 (sb1.trans sb2) ⟨o2, _, ep2, _, ho2, hx2, hd2, L.grown _⟩)
  · exact wpAny_pure (q h1 sb1 ⟨o1, _, ep1, _, ho1, hx1, hd1, L⟩)
theorem tx_add {k : Str} {tk : Tok} {Q : Bool → Shared → Prop} (R : TxSet P w a ss s.heap) (room : ss.length + 1 < scanBound) (hQ : ∀ h' b, Heap.SameBut a s.heap h' → TxSet P w a (if k ∈ ss then ss else k :: ss) h' → Q b { s with heap := h' }) :
    wpAny (model P w) A (setAddHashed a (.str k tk) ((PySem.strKind P w).hash k)) Q E s := by
  obtain ⟨o, es, ep, t, ho, hx, hd, L⟩ := R
  have hsc : (Value.str k tk).scannable = true := rfl
  unfold setAddHashed setAddHashedIn
  refine wpAny_holding (wpAny_bind (wpAny_setState_of ho hd L.fit ?_))
  dsimp only
  rw [byScan_of hsc L.sz L.elems]
  simp only [↓reduceIte]
  unfold setAddByScan
  refine wpAny_bind (wpAny_bind (wpAny_rule (wpAny_bind (wpAny_setScan_of (knd := PySem.strKind P w) (strKind_is P w k tk) ho hd L.fit L.elems ?_))))
  cases hf : List.findIdx? (fun e => (PySem.strKind P w).is k e.2) es.toList with
  | some j =>
    dsimp only
    obtain ⟨hj, pj, _⟩ := List.findIdx?_eq_some_iff_getElem.mp hf
    have hk : k ∈ ss := by
      obtain ⟨u, hu⟩ := Value.isStrOf_shape (show Value.isStrOf k es.toList[j].2 = true from pj)
      refine L.pm.mem_iff.mp (List.mem_map.mpr ⟨_, List.getElem_mem hj, ?_⟩)
      unfold txOf
      rw [hu]
    refine wpAny_pure (wpAny_pure (hQ s.heap _ (Heap.SameBut.refl a s.heap) ?_))
    rw [if_pos hk]
    exact ⟨o, es, ep, t, ho, hx, hd, L⟩
  | none =>
    dsimp only
    have hk : k ∉ ss := fun z => by
      obtain ⟨x, hx, q⟩ := List.mem_map.mp (L.pm.mem_iff.mpr z)
      have c := List.findIdx?_eq_none_iff.mp hf x hx
      obtain ⟨z2, t2, h1, _⟩ := L.el x hx
      unfold txOf at q
      rw [h1] at q c
      rw [show z2 = k from q] at c
      have := strKind_is P w k t2
      rw [this] at c
      cases c
    have M := L.more (tk := tk) hk room
    have fin : ∀ h' b, Heap.SameBut a s.heap h' → TxSet P w a (k :: ss) h' → Q b { s with heap := h' } := fun h' b sb r => hQ h' b sb (by rw [if_neg hk]; exact r)
    have hgw : ∀ (b : Bool) {s₁ : Shared} {Q' : Unit → Shared → Prop}, Q' () s₁ → wpAny (model P w) A (match b with | true => rule "set.scan.the-table-gave-way" | false => pure ()) Q' E s₁ :=
      fun b s₁ Q' q => by cases b <;> first | exact wpAny_pure q | exact wpAny_rule q
    generalize layNew t es ((PySem.strKind P w).hash k) (.str k tk) = Z at M ⊢
    obtain ⟨es1, t1, wasDummy, gave⟩ := Z
    dsimp only at M ⊢
    refine wpAny_bind (hgw _ ?_)
    split
    · refine wpAny_bind ?_
      rw [hashByValue_scannable 8 hsc]
      refine wpAny_pure ?_
      refine tx_tail (ss := k :: ss) (fun b s₁ Q' q => by cases b <;> first | exact wpAny_pure q | exact wpAny_rule q) ho hx hd ⟨M.el, M.pm, M.nd, M.sz, ?_, ?_, ?_⟩ ?_
      · first | (split <;> first | exact M.fit | exact SetTable.fits_plain_off M.fit) | exact M.fit
      · first | (split <;> exact M.ris) | exact M.ris
      · first | (split <;> exact M.led) | exact M.led
      · exact fun h' sb r => wpAny_pure (fin h' _ sb r)
    · refine wpAny_bind (wpAny_pure ?_)
      simp only [↓reduceIte]
      exact tx_tail (ss := k :: ss) (fun b s₁ Q' q => by cases b <;> first | exact wpAny_pure q | exact wpAny_rule q) ho hx hd M fun h' sb r => wpAny_pure (fin h' _ sb r)
end
end RM
set_option maxHeartbeats 4000000
namespace RM
open PySem PySem.Spec PyProof.Rows L2
section
variable {P : Program} {w : World} {A : Around} {E : Value → Shared → Prop} {s : Shared} {a : Addr} {ss : List Str}
theorem TxSet.at {h h' : Heap} (R : TxSet P w a ss h) (k : ∀ o, h.get? a = some o → h'.get? a = some o) : TxSet P w a ss h' := by
  obtain ⟨o, es, ep, t, ho, r⟩ := R
  exact ⟨o, es, ep, t, k o ho, r⟩
/-- a set that has just these, up to the i-th -/
def TxUp (P : Program) (w : World) (a : Addr) (ns : List Str) (i : Nat) (h : Heap) : Prop := ∃ cs, TxSet P w a cs h ∧ cs.length ≤ i ∧ ∀ x, x ∈ cs ↔ x ∈ ns.take i
end
end RM
set_option maxHeartbeats 4000000
namespace RM
open PySem PySem.Spec PyProof.Rows L2 CS RZ
/-! ### set(a list of texts) -/
def newSet (w : World) : Obj := ⟨.type "set", none, .set #[] 0 (.fresh 0 0 (!w.params.followText "set-order")), #[]⟩
section
variable {P : Program} {w : World} {A : Around} {E : Value → Shared → Prop} {s : Shared}
theorem newSet_tx {h : Heap} {a : Addr} (e : h.get? a = some (newSet w)) : TxSet P w a [] h := by
  refine ⟨_, #[], 0, _, e, ⟨rfl, rfl, rfl⟩, rfl, fun x hx => ?_, List.Perm.nil, List.nodup_nil, by decide, rfl, List.Pairwise.nil, ?_⟩
  · simp at hx
  · cases w.params.followText "set-order"
    · exact .inr rfl
    · exact .inl rfl
/-- what is promised of the members when all of the list has been gone through -/
def TxFull (P : Program) (w : World) (S : Addr) (ns : List Str) (h h' : Heap) : Prop :=
  (∃ cs, TxSet P w S cs h' ∧ ∀ x, x ∈ cs ↔ x ∈ ns) ∧ ∀ b o, b ≠ S → h.get? b = some o → h'.get? b = some o
end
end RM
set_option maxHeartbeats 4000000
namespace RM
open PySem PySem.Spec PyProof.Rows L2 CS RZ
/-! ### sets of texts as objects; sorted of one -/
theorem tx_ok {P : Program} {w : World} {H : Hp} {h : Heap} {a : Addr} {ss : List Str} (R : TxSet P w a ss h) : ObjOk P w H h a (.ext (TxSet P w a ss)) := by
  obtain ⟨o, es, ep, t, ho, r⟩ := id R
  exact ⟨R, ⟨o, ho⟩, fun h1 h2 p k => p.at k⟩
theorem pw_sorted {l : List Str} (h : l.Pairwise leS) : sortedS l = true := by
  cases l with
  | nil => rfl
  | cons x r =>
    refine risingS_of_pairwise x r (h.imp fun {a b} q => ?_)
    rw [ltCps_eq, decide_eq_false_iff_not]
    exact List.not_lt.mpr q
def leT (a b : Str) : Bool := PySem.W.dataLe false PyData.str a b
theorem leT_iff {a b : Str} : leT a b = true ↔ leS a b := by
  show (!PySem.W.dataLt (.str b) (.str a)) = true ↔ _
  rw [PySem.W.dataLt_str]
  unfold leS
  simp
theorem leT_pw {a b c : Str} (x : leT a b = true) (y : leT b c = true) : leT a c = true := leT_iff.mpr (leS_trans (leT_iff.mp x) (leT_iff.mp y))
theorem leT_or (a b : Str) : (leT a b || leT b a) = true := by
  rw [Bool.or_eq_true, leT_iff, leT_iff]
  exact List.le_total a.cps.toList b.cps.toList
theorem sortT_pw (l : List Str) : (l.mergeSort leT).Pairwise leS :=
  (List.pairwise_mergeSort (le := leT) (fun a b c x y => leT_pw x y) leT_or l).imp fun {a b} x => leT_iff.mp x
theorem alikeT (l : List Str) : PySem.W.AllAlike (l.map PyData.str) := PySem.W.AllAlike.of fun b b' => by simp [PySem.W.alike]
theorem sortableT (l : List Str) : PySem.W.Sortable (l.map PyData.str) := PySem.W.Sortable.others fun b => ⟨by simp, fun xs => by simp⟩
section
variable {X : Cx}
theorem vals_strs : ∀ {ss : List Str} {us : List Value}, Vals (ss.map V.str) us → us.length = ss.length ∧ ∀ (i : Nat) (v : Value), us[i]? = some v → ∃ z t, ss[i]? = some z ∧ v = .str z t
  | [], [], .nil => ⟨rfl, fun i v h => by simp at h⟩
  | s :: ss, u :: us, .cons h r => by
    obtain ⟨l1, l2⟩ := vals_strs (ss := ss) r
    obtain ⟨t, rfl⟩ := h
    refine ⟨by rw [List.length_cons, List.length_cons, l1], fun i v hv => ?_⟩
    cases i with
    | zero => exact ⟨s, t, rfl, (Option.some.inj hv).symm⟩
    | succ i => exact l2 i v hv
def rSortedTx (P : Program) (w : World) : List V → Hp → VK → Prop := fun xs H Q => ∃ (a : Addr) (cs : List Str), xs = [V.ref a] ∧ H a = some (.ext (TxSet P w a cs)) ∧
  ∀ (ys : List Str) (p : Addr), ys.Nodup → (∀ x, x ∈ ys ↔ x ∈ cs) → sortedS ys = true → H p = none → Q (.ref p) (upd H p (.lst (ys.map V.str)))
theorem cr_sortedTx (hc : X.calm = true) (hu : X.A.units + 64 < cLine) : CallR X (.builtin "sorted") (rSortedTx X.prog X.w) := by
  intro pins s σ H xs us Q I r h
  obtain ⟨a, cs, rfl, ha, q⟩ := h
  obtain ⟨o, es, ep, t, ho, hx, hd, L⟩ := (show TxSet X.prog X.w a cs s.heap from (I.hok a _ ha).1)
  rw [Vals.ref1 r]
  refine Calls.call_function_entry PyProof.Rows.kind_sorted PyProof.Rows.plain_sorted PyProof.Rows.entry_sorted (PyProof.Rows.args_sorted1 _) ?_
  unfold Builtin.«sorted»
  refine wpAny_bind (m := checkCount "sorted" 1 1 _) (wpAny_pure ?_)
  refine wpAny_bind (collect_set (A := X.A.in1) (I.ok.hd hc) ⟨o, ho, hx.1, hd⟩ L.fit L.sz L.ris L.led fun s1 vs k1 z1 g1 o1 pm => ?_)
  have hv : ∀ v ∈ vs, ∃ z t, v = Value.str z t := fun v hv => by
    obtain ⟨e, he, rfl⟩ := List.mem_map.mp (pm.mem_iff.mp hv)
    obtain ⟨z, t, e1, _⟩ := L.el e he
    exact ⟨z, t, e1⟩
  have e0 : PySem.W.EachIs (fun u (z : Str) => RelV (V.str z) u) vs (vs.map fun v => txOf (0, v)) := by
    clear pm
    induction vs with
    | nil => exact .nil
    | cons v vs ih =>
      obtain ⟨z, t, rfl⟩ := hv v (List.mem_cons_self ..)
      exact .cons ⟨t, rfl⟩ (ih fun u hu => hv u (List.mem_cons_of_mem _ hu))
  have pz : (vs.map fun v => txOf (0, v)).Perm cs := (pm.map _).trans (by rw [List.map_map]; exact L.pm)
  generalize (vs.map fun v => txOf (0, v)) = zs at e0 pz
  have hL : vs.length ≤ sizeLine := by
    rw [pm.length_eq, List.length_map, Array.length_toList]
    exact fits_of_scanBound L.sz
  refine wpAny_bind (wpAny_newList ?_ hL)
  show wpAny _ _ _ _ _ { s1 with heap := s1.heap.push (seqObj "list" vs.toArray 0) }
  have hoL : (s1.heap.push (seqObj "list" vs.toArray 0)).get? s1.heap.objs.size = some (seqObj "list" vs.toArray 0) := Heap.get?_push_size _ rfl
  have er : PySem.W.EachIs (fun u (z : Str) => ∃ as, Reads (PySem.W.sortingHeap (s1.heap.push (seqObj "list" vs.toArray 0)) s1.heap.objs.size vs) u (.str z) as) vs zs := by
    clear hoL hL pz pm hv
    generalize PySem.W.sortingHeap _ _ vs = hh
    induction e0 with
    | nil => exact .nil
    | cons h t ih =>
      obtain ⟨tk, rfl⟩ := h
      exact .cons ⟨_, .str _ _⟩ ih
  have S := PySem.W.SortsAt.data (prog := X.prog) (w := X.w) (A := X.A.in1.in1) (s := { s1 with heap := PySem.W.sortingHeap (s1.heap.push (seqObj "list" vs.toArray 0)) s1.heap.objs.size vs }) (PySem.W.each_map (R := fun v d => ∃ as, Reads (PySem.W.sortingHeap (s1.heap.push (seqObj "list" vs.toArray 0)) s1.heap.objs.size vs) v d as) PyData.str er)
    (alikeT _) (sortableT _) fun d hd => by
      obtain ⟨z, _, rfl⟩ := List.mem_map.mp hd
      have : (PyData.str z).depth = 0 := by simp [PyData.depth]
      have e3 : X.A.in1.in1.units = X.A.units + 2 := rfl
      omega
  refine wpAny_bind (wpAny_holding (wpAny_call_entry slot_list_sort ⟨_, hoL, rfl⟩ entry_list_sort ?_ (args_list_sort _)))
  show wpAny (model X.prog X.w) X.A.in1.in1 (Builtin.«list.sort» ⟨[.ref s1.heap.objs.size], []⟩) _ _ _
  refine PySem.W.list_sort_vals (s := { s1 with heap := s1.heap.push (seqObj "list" vs.toArray 0) }) hoL S hL ?_
  refine ⟨_, rfl, wpAny_pure ⟨_, rfl, ?_⟩⟩
  have eo := PySem.W.sortVals_data (enc := PyData.str) (R := fun u (z : Str) => RelV (V.str z) u) false e0 er (alikeT _)
  obtain ⟨e', he'⟩ := PyProof.Rows.sortedHeap_at (vs := vs) (out := (PySem.W.sortVals (PySem.W.dataKind (PySem.W.sortingHeap (s1.heap.push (seqObj "list" vs.toArray 0)) s1.heap.objs.size vs) (zs.map PyData.str)) false vs vs).toArray) hoL
  have lz : zs.length = vs.length := e0.length.symm
  have hlen : ((zs.mergeSort leT).map V.str).length ≤ sizeLine := by
    rw [List.length_map, List.length_mergeSort, lz]
    exact hL
  have hn : H s1.heap.objs.size = none := I.hok.fresh z1
  have kk : ∀ b u, s.heap.get? b = some u → (PyProof.Rows.sortedHeap (s1.heap.push (seqObj "list" vs.toArray 0)) s1.heap.objs.size vs (PySem.W.sortVals (PySem.W.dataKind (PySem.W.sortingHeap (s1.heap.push (seqObj "list" vs.toArray 0)) s1.heap.objs.size vs) (zs.map PyData.str)) false vs vs).toArray).get? b = some u := fun b u e => by
    have e2 := k1 b u e
    have hb : b < s1.heap.objs.size := Heap.lt_size e2
    rw [PyProof.Rows.sortedHeap_old (Nat.ne_of_lt hb) (by rw [size_push']; exact Nat.lt_succ_of_lt hb)]
    exact Heap.get?_push_of_some _ e2
  have pm2 := List.mergeSort_perm zs leT
  refine ⟨.ref s1.heap.objs.size, upd H s1.heap.objs.size (.lst ((zs.mergeSort leT).map V.str)), ?_, rfl, q _ _ (pm2.nodup_iff.mpr (pz.nodup_iff.mpr L.nd)) (fun x => pm2.mem_iff.trans pz.mem_iff) (pw_sorted (sortT_pw zs)) hn⟩
  exact I.call' (ch := []) o1 (Un.laid kk z1 hn) (I.hok.laid kk z1 (show ObjOk X.prog X.w _ _ _ (.lst ((zs.mergeSort leT).map V.str)) from ⟨hlen, _, e', vals_of_each V.str eo, he'⟩)) (by rw [show s1.gens = s.gens from g1]; exact I.bare) fun _ z => nomatch z
end
end RM
namespace RM
open PySem PySem.Spec PyProof.Rows L2 CS RZ
/-! ### sorted(set(e)), e a list of texts -/
theorem IsL.strs {T : Tab} {H : Hp} : ∀ {vs : List V} {ss : List Str}, IsL T H vs (strD ss) → vs = ss.map V.str
  | _, [], .nil => rfl
  | _, s :: ss, .cons a b => by rw [List.map_cons, a.str', IsL.strs (ss := ss) b]
end RM
namespace RM
open PySem PySem.Spec PyProof.Rows L2 CS RZ
/-! ### what the written part says of a class, as truth values -/
end RM
/-! except (A, B, ..) as n: an error that is used behind the clause -/
namespace CS
open PySem PySem.Spec PyProof.Rows L2
end CS
namespace RM
open PySem PySem.Spec PyProof.Rows L2 CS RZ
/-! ### try: .. except (A, ..) as n: .. -/
end RM
namespace RM
open PySem PySem.Spec PyProof.Rows L2 CS RZ
/-! ### o.m(x = e, ..) -/
structure PDKw (X : Cx) (g : Glob) (xk : WX) (kws : List Keyword) (td : CA) : Prop where
  pk : PK X kws (liftA g xk td)
section
variable {X : Cx} {g : Glob} {xk : WX} {pos kpos : Pos} {CX : CXT} {k j c : Nat} {nm : Option Str} {m : Str} {ps ks : List Str} {sd : SpD}
theorem pdk_nil : PDKw X g xk [] cNil := ⟨⟨fun p pins s σ H Q I h => pk_nil.run p pins s σ H Q I (let ⟨C, ρ, n, O, k, ke, hK, E, t, x, q⟩ := h; q _ _ _ _ _ _ t E (Same.refl _) .nil)⟩⟩
theorem pdk_cons {e : Expr} {kws : List Keyword} {t : CE} {u : CA} (ha : PD X g xk e t) (hr : PDKw X g xk kws u) : PDKw X g xk (⟨nm, e, kpos⟩ :: kws) (cCons t u) := by
  refine ⟨⟨fun p pins s σ H Q I h => (pk_cons ha.pe hr.pk).run p pins s σ H Q I ?_⟩⟩
  obtain ⟨C, ρ, n, O, k, ke, hK, E, t, x, q⟩ := h
  refine ⟨C, ρ, n, O, _, ke, hK, E, t, x, fun d ρ1 n1 v H1 O1 k1 E1 S1 i1 => ?_⟩
  exact ⟨C, ρ1, n1, O1, _, ke, hK, E1, k1, x, fun ds ρ2 n2 vs H2 O2 k2 E2 S2 i2 => q _ _ _ _ _ _ k2 E2 (S1.trans S2) (.cons (i1.same S2) i2)⟩
theorem run_kw {f : Addr} {fd : FuncData} {sp : Sp} {gs : List Value → List Value → List Value} {gV : List V → List V → List V} {n : Nat} {E : L2.St → XK} {pins : List (Addr × Obj)} {σ : L2.St} {H : Hp} {s : Shared} {Q : VK} {us ws : List Value} {vs zs : List V} (F : FnOk X.prog X.w X.K X.mg X.base CX k f fd ps sp) (hr : Room k X.A) (hb : KBn X.K fd ps n ks gs gV) (hx : PassesAt CX X σ (E σ)) (I : Inv X pins σ H s)
    (r : Vals vs us) (rz : Vals zs ws) (l1 : us.length = n) (l2 : ws.length = ks.length) (h : sp (gV vs zs) H Q (E σ)) : wpAny (model X.prog X.w) X.A (call (.ref f) us (ks.zip ws)) (EP X pins σ Q) X.xe s :=
  wpAny_call (codeAny_mono (F.run X.A X.stack s H ⟨us, ks.zip ws⟩ (gs us ws) (gV vs zs) Q (E σ) hr I.env0 (hb.to s us ws I.kIn l1 l2) (hb.rel r rz) h) (cr_out (fun e s' z => hx pins H s e s' I z) fun _ _ z => I.after z))
end
end RM
namespace RM
open PySem PySem.Spec PyProof.Rows L2 CS RZ
/-! ### the errors of a program, beside one another -/
structure ErX (K : PySem.W.Frag) (g : Glob) (ms : List Nat) (fs : List Str) (vb : Nat → Bool) : Prop where
  csx : ∀ c ∈ ms, PySem.W.CsxC K (g.cls c)
  xf : ∀ c ∈ ms, XfC K (g.cls c)
  no : ∀ c ∈ ms, ∀ f ∈ fs, PySem.W.findIn K (.ref (g.cls c)) f = some none
  kit : ∀ c ∈ ms, ∀ d ∈ ms, PySem.W.kitOne K (.ref (g.cls c)) (.ref (g.cls d)) = some (decide (c = d))
  exm : ∀ c ∈ ms, ∀ d ∈ ms, PySem.W.exmOne K (.ref (g.cls c)) (.ref (g.cls d)) = some (decide (c = d))
  kv : ∀ c ∈ ms, PySem.W.kitOne K (.ref (g.cls c)) (.type "ValueError") = some (vb c)
  kl : ∀ c ∈ ms, PySem.W.kitOne K (.ref (g.cls c)) (.type "LookupError") = some (!vb c)
section
variable {K : PySem.W.Frag} {g : Glob} {ms : List Nat} {fs : List Str} {vb : Nat → Bool}
theorem ErX.any (x : ErX K g ms fs vb) {c : Nat} (hc : c ∈ ms) : ∀ {cns : List Nat}, (∀ d ∈ cns, d ∈ ms) → PySem.W.exmAny K (.ref (g.cls c)) (cns.map fun d => .ref (g.cls d)) = some (decide (c ∈ cns))
  | [], _ => by
    show some false = _
    simp
  | d :: cns, h => by
    have h1 := x.exm c hc d (h d (List.mem_cons_self ..))
    have h2 := x.any hc (cns := cns) fun e he => h e (List.mem_cons_of_mem _ he)
    rw [List.map_cons]
    unfold PySem.W.exmAny
    rw [h1, h2]
    by_cases a : c = d
    · simp [a]
    · simp [a]
end
end RM
namespace RM
open PySem PySem.Spec PyProof.Rows L2 CS RZ
/-! ### isinstance of two built-in types -/
def cIsK (o : Opd) (a b : String) : CE := fun ρ n k ke => cOpd o ρ n (fun get ρ1 n1 => ∃ d t, get ρ1 = some d ∧ kindD d = some t ∧ k (.bool (decide (t = a ∨ t = b))) ρ1 n1) ke
def kit2B (a b : String) : Bool := kinds.all fun t => (kitB t a == some (decide (t = a))) && (kitB t b == some (decide (t = b)))
theorem kit2_at {K : PySem.W.Frag} {a b t : String} (h : kit2B a b = true) (ht : t ∈ kinds) : PySem.W.kitAny K (.type t) [.type a, .type b] = some (decide (t = a ∨ t = b)) := by
  unfold kit2B at h
  simp only [List.all_eq_true, Bool.and_eq_true, beq_iff_eq] at h
  obtain ⟨h1, h2⟩ := h t ht
  by_cases c : t = a
  · exact kitAny_cons (kit_ty h1) (fun z => by simp [c] at z) (fun _ => by simp [c])
  · refine kitAny_cons (kit_ty h1) (fun _ => ?_) (fun z => by simp [c] at z)
    refine kitAny_cons (kit_ty h2) (fun z => ?_) (fun z => ?_)
    · have : ¬ t = b := by simpa using z
      simp [c, this]
      rfl
    · have : t = b := by simpa using z
      simp [this]
section
variable {X : Cx} {g : Glob} {xk : WX} {pos p : Pos}
theorem pd_isK {e : Expr} {o : Opd} {x y : Str} {a b : String} {px py pt : Pos} {kk} (G : Good X g) (hk : kit2B a b = true) (h : PDQ X g xk e o) (gx : Gl X x) (mx : X.mg x = none) (vx : bootBuiltins x = some (.type a)) (gy : Gl X y) (my : X.mg y = none) (vy : bootBuiltins y = some (.type b)) (hg : Gl X "isinstance") (hm : X.mg "isinstance" = none)
    (nx : x ≠ "__name__" := by decide) (dx : (x == ("__debug__" : Str)) = false := by decide) (ny : y ≠ "__name__" := by decide) (dy : (y == ("__debug__" : Str)) = false := by decide)
    (hs : starEach [e, .Tuple [.Name x px, .Name y py] kk pt] X.env = (false, eval e X.env) :: starEach [.Tuple [.Name x px, .Name y py] kk pt] X.env := by rfl) (hs2 : starEach [.Tuple [.Name x px, .Name y py] kk pt] X.env = (false, eval (.Tuple [.Name x px, .Name y py] kk pt) X.env) :: starEach [] X.env := by rfl)
    (hs3 : starEach [.Name x px, .Name y py] X.env = (false, eval (.Name x px) X.env) :: starEach [.Name y py] X.env := by rfl) (hs4 : starEach [.Name y py] X.env = (false, eval (.Name y py) X.env) :: starEach [] X.env := by rfl)
    (hpl : (backTo pos (starEach [.Tuple [.Name x px, .Name y py] kk pt] X.env)).any (·.1) = false := by rfl) : PD X g xk (.Call (.Name "isinstance" p) [e, .Tuple [.Name x px, .Name y py] kk pt] [] pos) (cIsK o a b) := by
  refine ⟨PE.imp (pe_callB call_isiT hg hm (by decide +kernel) (pa_cons h.pe (pa_cons (pe_tup (pa_cons (pe_bltn (v := .ty a) gx mx vx rfl nx dx) (pa_cons (pe_bltn (v := .ty b) gy my vy rfl ny dy) pa_nil hs4) hs3)) pa_nil hs2) hs) (by decide) (by decide) hs hpl) fun σ H Q r => ?_⟩
  obtain ⟨C, ρ, n, O, k, ke, hK, E, t, x, q⟩ := r
  refine ⟨C, ρ, n, O, _, ke, hK, E, t, x, fun get ρ1 n1 v H1 O1 k1 E1 S1 p1 => ?_⟩
  obtain ⟨d, t, h1, h2, k1⟩ := k1
  refine ⟨(by show 2 ≤ sizeLine; decide), fun tp ntp => ?_⟩
  obtain ⟨E2, S2, e2⟩ := E1.new (o := .tup [.ty a, .ty b]) ntp
  have iv := kind_ty (((p1 _ _ _ _ _ E1 (Same.refl _) h1).is hid_le).same (same_new (o := .tup [V.ty a, V.ty b]) ntp)) h2
  exact ⟨v, tp, [.ty a, .ty b], .type t, [.type a, .type b], _, rfl, upd_same, .cons (.ty a) (.cons (.ty b) .nil), (hK.1.trans G.K) ▸ iv, kit2_at hk (kind_mem h2), q _ _ _ _ _ _ k1 E2 (S1.trans S2) (.bl _)⟩
end
/-! ### lists for tuples, at any depth -/
mutual
def listsD : D → D
  | .list ds => .list (listsDs ds)
  | .tuple ds => .list (listsDs ds)
  | d => d
def listsDs : List D → List D
  | [] => []
  | d :: ds => listsD d :: listsDs ds
end
theorem listsDs_map : ∀ ds : List D, listsDs ds = ds.map listsD
  | [] => rfl
  | d :: ds => by
    show listsD d :: listsDs ds = _
    rw [listsDs_map ds]
    rfl
def sdLists (m : Nat) : SpD := fun ds n k _ => ∃ x, ds = [x] ∧ okS m x ∧ k (listsD x) n
def cs_lists (m : Nat) : CS := cRet (cIf (cB (cIsK (.nm 0) "list" "tuple")) (cLc (cSeq (cVar 0)) (stN 1) (cYes) (cCall (sdLists m) (cCons (cVar 1) (cNil))) [1]) (cVar 0))
theorem himp_lists (m : Nat) {e : EndsD} (ds : List D) (n : Nat) (k : D → Nat → Prop) (ke : Xv → Nat → Prop) (h : sdLists (m + 1) ds n k ke) (he : e.rt = k) : cs_lists m (startE ["_law_matter", "_law_bit"] ds) n e := by
  obtain ⟨x, rfl, ok, q⟩ := h
  subst he
  have go : ∀ (xs : List D), seqD x = some xs → xs.length ≤ 1000 → (∀ d ∈ xs, okS m d) → listsD x = .list (xs.map listsD) → cLc (cSeq (cVar 0)) (stN 1) (cYes) (cCall (sdLists m) (cCons (cVar 1) (cNil))) [1] [some (.v x), none] n (fun d _ n' => e.rt d n') e.xc := fun xs h1 h2 h3 h4 => by
    refine ⟨xs, h1, ?_⟩
    refine lcL_run (fun d => some (listsD d)) xs [] (fun d hd => ⟨_, rfl, rfl, fun K1 hK => hK, fun y hy K2 hK => ?_⟩) (by rw [List.length_nil]; unfold lim; omega) ?_
    · cases hy
      exact ⟨d, rfl, h3 d hd, hK⟩
    · rw [List.nil_append]
      have : xs.filterMap (fun d => some (listsD d)) = xs.map listsD := by rw [List.filterMap_eq_map']
      rw [this, ← h4]
      exact q
  cases x with
  | list xs => exact ⟨rfl, _, _, rfl, rfl, _, rfl, go xs rfl ok.1 ok.2 (by show PyData.list (listsDs xs) = _; rw [listsDs_map])⟩
  | tuple xs => exact ⟨rfl, _, _, rfl, rfl, _, rfl, go xs rfl ok.1 ok.2 (by show PyData.list (listsDs xs) = _; rw [listsDs_map])⟩
  | dict xs => exact ok.elim
  | none => exact ⟨rfl, _, _, rfl, rfl, _, rfl, q⟩
  | bool b => exact ⟨rfl, _, _, rfl, rfl, _, rfl, q⟩
  | int b => exact ⟨rfl, _, _, rfl, rfl, _, rfl, q⟩
  | str b => exact ⟨rfl, _, _, rfl, rfl, _, rfl, q⟩
end RM
namespace RM
open PySem PySem.Spec PyProof.Rows L2 CS RZ
/-! ### k05: Counts that are none -/
def inPl (s : Str) (l : List Tri) (a : Str) : Bool := decide (a = s) || l.any fun t => decide (t.1 = a) || decide (t.2.1 = a)
theorem inPl_iff {s a : Str} {l : List Tri} : inPl s l a = true ↔ a = s ∨ ends l a := by
  unfold inPl ends
  simp
def dueT (s : Str) (l : List Tri) : D := match l.find? stillT with
  | some t => .list [.str "still", .str t.1]
  | none => match l.find? belowT with
    | some t => .list [.str "below", .str t.1, .str t.2.1, .int t.2.2]
    | none => .list [.str "made", .str s]
def sdHeard : SpD := fun ds n k _ => ∃ s x rows l, ds = [.str s, x] ∧ seqD x = some rows ∧ RowsAre rows l ∧ GoodL l ∧ l.length ≤ 1000 ∧ k (dueT s l) n
def sdDue : SpD := fun ds n k _ => ∃ s l, ds = [.str s, .list (trisD l)] ∧ GoodS s ∧ GoodL l ∧ l.length ≤ 1000 ∧ k (dueT s l) n
def sdSpots : SpD := fun ds n k _ => ∃ s l, ds = [.str s, .tuple (trisD l)] ∧ GoodS s ∧ GoodL l ∧ l.length ≤ 30 ∧ ∀ ys : List Str, ys.Nodup → (∀ p, p ∈ ys ↔ p = s ∨ ends l p) → sortedS ys = true → k (.list (strD ys)) n
def sdChecked : SpD := fun ds n k _ => ∃ s l a, ds = [cntD s l, .str a] ∧ GoodS s ∧ GoodS a ∧ GoodL l ∧ l.length ≤ 30 ∧ k (if inPl s l a = true then .none else .list [.str a, .bool true]) n
theorem atI_zero {α : Type} (d : α) (ds : List α) : atI (d :: ds) 0 = some d := by
  unfold atI ixN
  rw [if_pos (by decide), if_pos (by rw [List.length_cons]; omega)]
  rfl
/-! places, gathered -/
end RM
set_option maxHeartbeats 4000000
namespace RM
open PySem PySem.Spec PyProof.Rows L2 CS RZ
/-! ### k05, drawn -/
def a1 : CS := cSet 2 (cCall sdTags (cCons (cVar 0) (cCons (cOp addD (cC (.int 2)) (cCall sdTake (cCons (cVar 0) (cCons (cC (.int 4)) (cNil))))) (cNil))))
def a2 : CS := cOwn 3 (cCF gList' (cCons (cCall sdStrewn (cCons (cVar 0) (cCons (cVar 2) (cCons (cC (.int 6)) (cCons (cC (.int 4)) (cNil)))))) (cNil)))
def a3 : CS := cFor (cRange1 (cCons (cCall sdTake (cCons (cVar 0) (cCons (cC (.int 3)) (cNil)))) (cNil))) (stN 4) (cSq (cSet 7 (cCall sdOf (cCons (cVar 0) (cCons (cLst (cCons (cTup (cCons (cOp atD (cVar 2) (cC (.int 0))) (cCons (cOp atD (cVar 2) (cC (.int 0))) (cCons (cC (.int 1)) (cNil))))) (cCons (cTup (cCons (cOp atD (cVar 2) (cC (.int 1))) (cCons (cOp atD (cVar 2) (cC (.int 0))) (cCons (cOp subD (cNeg (cC (.int 1))) (cCall sdTake (cCons (cVar 0) (cCons (cC (.int 9)) (cNil))))) (cNil))))) (cCons (cTup (cCons (cOp atD (cVar 2) (cC (.int 1))) (cCons (cOp atD (cVar 2) (cC (.int 1))) (cCons (cNeg (cC (.int 2))) (cNil))))) (cNil))))) (cNil))))) (cDrop (cMut 3 (cCons (cCall sdTake (cCons (cVar 0) (cCons (cOp addD (cCBQ gLen (.nm 3)) (cC (.int 1))) (cNil)))) (cCons (cVar 7) (cNil))) uIns)))
def a4 : CS := cSet 5 (cCall sdDue (cCons (cOp atD (cVar 2) (cC (.int 0))) (cCons (cVar 3) (cNil))))
def a5 : CS := cSet 6 (cLst (cCons (cCall sdHeard (cCons (cOp atD (cVar 2) (cC (.int 0))) (cCons (cCB gTuple (cCons (cVar 3) (cNil))) (cNil)))) (cCons (cCall sdHeard (cCons (cOp atD (cVar 2) (cC (.int 0))) (cCons (cCall (sdLists 3) (cCons (cVar 3) (cNil))) (cNil)))) (cNil))))
def a6 : CS := cIfS (cNotT (cB (cCall sdSame (cCons (cVar 6) (cCons (cLst (cCons (cVar 5) (cCons (cVar 5) (cNil)))) (cNil)))))) (cRet (cC (.bool false))) (cNext)
def a7 : CS := cIfS (cB (cOp eqD (cOp atD (cVar 5) (cC (.int 0))) (cC (.str "made")))) (cSq (cSet 8 (cMake cCnt sdInit (cCons (cOp atD (cVar 2) (cC (.int 0))) (cCons (cVar 3) (cNil))))) (cSq (cSet 9 (cCall sdSpots (cCons (cOp atD (cVar 2) (cC (.int 0))) (cCons (cCall sdSummed (cCons (cVar 3) (cNil))) (cNil))))) (cSq (cOwn 6 (cLc (cSeq (cOp addD (cVar 2) (cLst (cCons (cC (.str "inland")) (cNil))))) (stN 10) (cYes) (cCall sdChecked (cCons (cVar 8) (cCons (cVar 10) (cNil)))) [10])) (cSq (cOwn 5 (cLc (cSeq (cOp addD (cVar 2) (cLst (cCons (cC (.str "inland")) (cNil))))) (stN 10) (cYes) (cIf (cB (cOp inD (cVar 10) (cVar 9))) (cC .none) (cLst (cCons (cVar 10) (cCons (cC (.bool true)) (cNil))))) [10])) (cIfS (cNotT (cB (cCall sdSame (cCons (cVar 6) (cCons (cVar 5) (cNil)))))) (cRet (cC (.bool false))) (cNext)))))) (cNext)
abbrev gr (t1 t2 t3 t4 t5 t6 t7 t8 t9 t10 : Option Sl) : En := [some (.v boxD), t1, t2, t3, t4, t5, t6, t7, t8, t9, t10]
theorem range_len (r : Int) : (rangeD 0 r.toNat).length = r.toNat := by
  unfold rangeD
  rw [List.length_map, List.length_range]
end RM
set_option maxHeartbeats 4000000
namespace RM
open PySem PySem.Spec PyProof.Rows L2 CS RZ
/-! ### k05, by hand -/
end RM
namespace RM
open PySem PySem.Spec PyProof.Rows L2 CS RZ
section
variable {P : Program} {w : World} {K : PySem.W.Frag} {mg : Str → Option Value} {base : Heap} {g : Glob}
/-- at no depth nothing is asked -/
theorem lists_none {f : Addr} {fd : FuncData} : FnOk P w K mg base CX0 0 f fd ["_law_matter"] (spD g (sdLists 0)) := by
  have no : ∀ vs H Q E, ¬ spD g (sdLists 0) vs H Q E := fun vs H Q E h => by
    obtain ⟨C, ds, n, k, ke, _, _, _, _, ⟨x, _, ok, _⟩, _⟩ := h
    exact ok
  exact ⟨fun vs H Q E h => absurd h (no vs H Q E), fun A outer s H args us vs Q E _ _ _ _ h => absurd h (no vs H Q E)⟩
end
end RM
namespace RM
open PySem PySem.Spec PyProof.Rows L2 CS RZ
/-! ### a cut of a tuple as a key -/
section
variable {X : Cx} {g : Glob} {xk : WX} {pos : Pos}
/-! ### dict(l), l a list of pairs, their keys tuples -/
/-! the comprehension's turns -/
def PrD (T : Tab) (H : Hp) (v : V) (kv : D × D) : Prop := ∃ (p b : Addr) (ks : List L2.Key) (y : V), v = .ref p ∧ H p = some (.tup [.ref b, y]) ∧ H b = some (.tup (ks.map kV)) ∧ kv.1 = .tuple (ks.map kD) ∧ Is T H y kv.2
theorem PrD.same {T : Tab} {H H' : Hp} {v : V} {kv : D × D} (h : PrD T H v kv) (s : Same H H') : PrD T H' v kv :=
  let ⟨p, b, ks, y, e1, e2, e3, e4, e5⟩ := h
  ⟨p, b, ks, y, e1, s _ _ e2, s _ _ e3, e4, e5.same s⟩
end
end RM
namespace PySem.W
open PySem PySem.Spec PyProof.Rows
open Builtin
end PySem.W
namespace RM
open PySem PySem.Spec PyProof.Rows L2 CS RZ
/-! ### != by one's own ==; == with something else -/
end RM
namespace RM
open PySem PySem.Spec PyProof.Rows L2 CS RZ
/-! ### a list a number of times -/
/-! a class known apart from the built-in kinds -/
end RM
namespace RM
open PySem PySem.Spec PyProof.Rows L2 CS RZ
/-! ### k06: Counts added and taken away -/
structure Cn (L : List Tri) : Prop where
  g : GoodL L
  fine : Fine L
  pos : ∀ t ∈ L, 0 < t.2.2
  len : L.length ≤ 30
  nd : (L.map pr).Nodup
  pw : (L.map pr).Pairwise fun a b => leP a b = true
theorem cn_canon {l : List Tri} (hF : Fine l) (hg : GoodL l) (hl : l.length ≤ 30) : Cn (canon l) := ⟨good_canon hg, fine_canon hF, fun t ht => (canon_mem ht).2.1, by have := canon_len l; omega, canon_nodup l, List.pairwise_map.mpr (canon_pw l)⟩
theorem Cn.id {L : List Tri} (c : Cn L) : canon L = L := canon_id c.nd c.pw c.pos
theorem numAt_mem {l : List Tri} (hn : (l.map pr).Nodup) {t : Tri} (ht : t ∈ l) : numAt l (pr t) = t.2.2 := by
  induction l with
  | nil => cases ht
  | cons u l ih =>
    rw [numAt_cons]
    rw [List.map_cons, List.nodup_cons] at hn
    rcases List.mem_cons.mp ht with rfl | ht
    · rw [if_pos rfl]
    · have hne : ¬ pr u = pr t := fun w => hn.1 (by rw [w]; exact List.mem_map_of_mem ht)
      rw [if_neg hne]
      exact ih hn.2 ht
end RM
namespace RM
open PySem PySem.Spec PyProof.Rows L2 CS RZ
/-! ### k06: taken away, by the law's own table -/
end RM
set_option maxHeartbeats 4000000
namespace RM
open PySem PySem.Spec PyProof.Rows L2 CS RZ
/-! ### k06: a case -/
def sdSame6 : SpD := fun ds n k _ => ∃ x, ds = [x, x] ∧ okS 5 x ∧ k (.bool true) n
structure C6 (f g : Str) (l m : List Tri) : Prop where
  gf : GoodS f
  gg : GoodS g
  fl : Fine l
  fm : Fine m
  gl : GoodL l
  gm : GoodL m
  ll : l.length ≤ 12
  lm : m.length ≤ 12
section
variable {e : EndsD} {n : Nat} {f g : Str} {l m : List Tri} {t4 t5 t6 t7 t8 t9 t10 t11 t12 : Option Sl}
theorem C6.cl (c : C6 f g l m) : Cn (canon l) := cn_canon c.fl c.gl (by have := c.ll; omega)
end
end RM
set_option maxHeartbeats 4000000
namespace RM
open PySem PySem.Spec PyProof.Rows L2 CS RZ
/-! ### k06 by hand -/
def lD6 : List Tri := [("b", "a", 1)]
abbrev hA : D := .list [.str "b", .str "a", .int 2, .bool true, .bool false]
abbrev hC : D := .list [.str "a", .tuple (trisD lD6)]
end RM
set_option maxHeartbeats 4000000
namespace RM
open PySem PySem.Spec PyProof.Rows L2 CS RZ
/-! ### k06, drawn -/
structure Pool (ss : List Str) : Prop where
  nd : ss.Nodup
  two : 2 ≤ ss.length
  six : ss.length ≤ 6
  tag : ∀ s ∈ ss, s ∈ tagPool
structure Rows6 (ss : List Str) (l : List Tri) : Prop where
  fine : Fine l
  ins : ∀ t ∈ l, t.1 ∈ ss ∧ t.2.1 ∈ ss
theorem Rows6.good {ss : List Str} {l : List Tri} (p : Pool ss) (r : Rows6 ss l) : GoodL l := fun t ht => ⟨tag_good _ (p.tag _ (r.ins t ht).1), tag_good _ (p.tag _ (r.ins t ht).2)⟩
theorem same_imp6 {g : Glob} {vs : List V} {H : Hp} {Q : VK} {E : XK} (h : spD g sdSame6 vs H Q E) : ∃ (x y : V) (d : D), vs = [x, y] ∧ Dp g.K H x d ∧ Dp g.K H y d ∧ okS 5 d ∧ ∀ H' : Hp, Same H H' → Q (.bl true) H' := by
  obtain ⟨C, ds, n, k, ke, hK, e0, E0, i, ⟨x, rfl, ok, s⟩, q, _⟩ := h
  obtain ⟨v, u, rfl, iv, iu⟩ := i.two
  refine ⟨v, u, x, rfl, hK.1 ▸ (iv.same hid_le).dp (okS_plain 5 x ok), hK.1 ▸ (iu.same hid_le).dp (okS_plain 5 x ok), ok, fun H' s' => q _ _ _ _ s ⟨fun a o h _ => s' _ _ (e0 ▸ h), fun b hb => (E0.box b hb).2.same s'⟩ (.bl true)⟩
end RM
namespace CS
open PySem PySem.Spec PyProof.Rows L2
end CS
namespace RM
open PySem PySem.Spec PyProof.Rows L2 CS RZ
/-! ### pairs of two rows -/
def pairD (a b : D) : D := .tuple [a, b]
theorem zipd_is {T : Tab} {Hh H : Hp} (tup : ∀ a us, H a = some (.tup us) → Hh a = some (.tup us)) : ∀ {us ws : List V} {ds es : List D} {as : List Addr}, IsL T Hh us ds → IsL T Hh ws es → as.length = min us.length ws.length → PairsAt us ws as H → IsL T Hh (as.map V.ref) (List.zipWith pairD ds es)
  | [], ws, _, es, as, .nil, h2, l, _ => by
    rw [List.length_nil, Nat.zero_min] at l
    rw [List.eq_nil_of_length_eq_zero l, List.zipWith_nil_left]
    exact .nil
  | u :: us, [], _, _, as, .cons h1 r1, .nil, l, _ => by
    rw [List.length_nil, Nat.min_zero] at l
    rw [List.eq_nil_of_length_eq_zero l, List.zipWith_nil_right]
    exact .nil
  | u :: us, w :: ws, d :: ds, e :: es, [], _, _, l, _ => by
    rw [List.length_cons, List.length_cons, List.length_nil] at l
    omega
  | u :: us, w :: ws, d :: ds, e :: es, a :: as, .cons h1 r1, .cons h2 r2, l, p => by
    rw [List.zipWith_cons_cons, List.map_cons]
    refine .cons (.tup (.inl (.inl (tup _ _ (p 0 a u w rfl rfl rfl)))) (.cons h1 (.cons h2 .nil))) (zipd_is tup r1 r2 (by rw [List.length_cons, List.length_cons, List.length_cons] at l; omega) fun j a' x y e1 e2 e3 => p (j + 1) a' x y e1 e2 e3)
section
variable {X : Cx} {g : Glob} {xk : WX} {pos : Pos}
def cZip (mk : List D → D) (ta : CA) : CE := fun ρ n k ke => ta ρ n (fun ds ρ' n' => ∃ xs ys, (ds = [.tuple xs, .tuple ys] ∨ ds = [.list xs, .list ys]) ∧ k (mk (List.zipWith pairD xs ys)) ρ' n') ke
theorem zip_args {T : Tab} {K : PySem.W.Frag} {Hh H : Hp} {vs : List V} {ds xs ys : List D} (hK : T.K = K) (le : Same Hh H) (i : IsL T Hh vs ds) (h : ds = [.tuple xs, .tuple ys] ∨ ds = [.list xs, .list ys]) : ∃ a b us ws, vs = [V.ref a, V.ref b] ∧ ((SqT K H a us ∧ SqT K H b ws) ∨ (SqL K H a us ∧ SqL K H b ws)) ∧ IsL T Hh us xs ∧ IsL T Hh ws ys := by
  subst hK
  rcases h with rfl | rfl
  · obtain ⟨v1, v2, rfl, j1, j2⟩ := i.two
    obtain ⟨a, us, rfl, ha, ra⟩ := j1.tup'
    obtain ⟨b, ws, rfl, hb, rb⟩ := j2.tup'
    exact ⟨a, b, us, ws, rfl, .inl ⟨sqt_same le ha, sqt_same le hb⟩, ra, rb⟩
  · obtain ⟨v1, v2, rfl, j1, j2⟩ := i.two
    obtain ⟨a, us, rfl, ha, ra⟩ := j1.list'
    obtain ⟨b, ws, rfl, hb, rb⟩ := j2.list'
    exact ⟨a, b, us, ws, rfl, .inr ⟨SqL.of (le _ _ ha), SqL.of (le _ _ hb)⟩, ra, rb⟩
theorem pd_tupZip {e e2 : Expr} {ta : CA} {p p2 q2 : Pos} (G : Good X g) (gT : Gl X "tuple") (mT : X.mg "tuple" = none) (gZ : Gl X "zip") (mZ : X.mg "zip" = none) (ha : PDA X g xk [e, e2] ta) (hc : X.calm = true := by rfl)
    (na : starEach [.Call (.Name "zip" p2) [e, e2] [] q2] X.env = (false, eval (.Call (.Name "zip" p2) [e, e2] [] q2) X.env) :: starEach [] X.env := by rfl)
    (hs : starEach [e, e2] X.env = (false, eval e X.env) :: starEach [e2] X.env := by rfl) (hpl : (backTo q2 (starEach [e2] X.env)).any (·.1) = false := by rfl) :
    PD X g xk (.Call (.Name "tuple" p) [.Call (.Name "zip" p2) [e, e2] [] q2] [] pos) (cZip .tuple ta) := by
  refine ⟨PE.imp (pe_tupZip gT mT gZ mZ ha.pa hc na hs hpl) fun σ H Q r => ?_⟩
  obtain ⟨C, ρ, n, O, k, ke, hK, E, t, x, q⟩ := r
  refine ⟨C, ρ, n, O, _, ke, hK, E, t, x, fun ds ρ1 n1 vs H1 O1 k1 E1 S1 i1 => ?_⟩
  obtain ⟨xs, ys, hd, k1⟩ := k1
  obtain ⟨a, b, us, ws, rfl, hsq, ra, rb⟩ := zip_args (hK.1.trans G.K) (hid_le (C := C) (O := O1)) i1 hd
  refine ⟨a, b, us, ws, rfl, hsq, fun Hc p as s l pr hp => ?_⟩
  have E2 := E1.ext s
  have S2 := hid_same s (C := C) (O := O1)
  have it := zipd_is (T := C.T) (Hh := hid C O1 Hc) (H := Hc) (fun a us h => E2.tup h) (ra.same S2) (rb.same S2) l pr
  obtain ⟨E3, S3, g3⟩ := E2.new (o := .tup (as.map V.ref)) hp
  exact q _ _ _ _ _ _ k1 E3 ((S1.trans S2).trans S3) (.tup (.inl (.inl g3)) (it.same S3))
/-! ### how often something stands in a list -/
/-! ### C.m(..), m a staticmethod -/
end
end RM
namespace RM
open PySem PySem.Spec PyProof.Rows L2 CS RZ
/-! ### k07: rows of steps -/
def pairsOf : List Str → List (Str × Str)
  | a :: b :: r => (a, b) :: pairsOf (b :: r)
  | _ => []
theorem pairs_cons (a b : Str) (r : List Str) : pairsOf (a :: b :: r) = (a, b) :: pairsOf (b :: r) := rfl
theorem zip_pairs : ∀ ss : List Str, List.zipWith pairD (strD ss) (strD ss).tail = (pairsOf ss).map tx
  | [] => rfl
  | [a] => rfl
  | a :: b :: r => by
    have ih := zip_pairs (b :: r)
    rw [pairs_cons, List.map_cons, ← ih]
    rfl
theorem cutL_tail (ds : List D) : cutL ds (some 1) none = ds.tail := by
  unfold cutL
  rw [show HT.sIx ds.length 0 (some 1) = min 1 ds.length from HT.sIx_nat ds.length 0 1, HT.sIx_none]
  cases ds with
  | nil => rfl
  | cons d ds =>
    rw [List.length_cons, Nat.min_eq_left (by omega), List.drop_one, List.tail_cons]
    exact List.take_of_length_le (by omega)
def stepT (ss : List Str) : List Tri := (pairsOf ss).map fun p => (p.1, p.2, 1)
theorem pairs_len : ∀ ss : List Str, (pairsOf ss).length = ss.length - 1
  | [] => rfl
  | [a] => rfl
  | a :: b :: r => by
    have ih := pairs_len (b :: r)
    rw [pairs_cons, List.length_cons, ih]
    simp
theorem pairs_mem : ∀ {ss : List Str} {p : Str × Str}, p ∈ pairsOf ss → p.1 ∈ ss ∧ p.2 ∈ ss
  | [], _, h => by cases h
  | [a], _, h => by cases h
  | a :: b :: r, p, h => by
    rw [pairs_cons] at h
    rcases List.mem_cons.mp h with rfl | h
    · exact ⟨by simp, by simp⟩
    · have := pairs_mem h
      exact ⟨List.mem_cons_of_mem _ this.1, List.mem_cons_of_mem _ this.2⟩
/-- a journey -/
structure Jn (ss : List Str) : Prop where
  good : ∀ s ∈ ss, GoodS s
  ch : ∀ p ∈ pairsOf ss, p.1 ≠ p.2
  len : ss.length ≤ 60
theorem Jn.fine {ss : List Str} (j : Jn ss) : Fine (stepT ss) := fun t ht => by
  obtain ⟨p, hp, rfl⟩ := List.mem_map.mp ht
  exact ⟨j.ch p hp, show (0 : Int) ≤ 1 by decide⟩
theorem step_len (ss : List Str) : (stepT ss).length = ss.length - 1 := by
  unfold stepT
  rw [List.length_map, pairs_len]
def sdStepsOf : SpD := fun ds n k _ => ∃ x ss, ds = [x] ∧ (x = .tuple (strD ss) ∨ x = .list (strD ss)) ∧ k (.tuple ((pairsOf ss).map tx)) n
def cs_steps_of : CS := cRet (cZip .tuple (cCons (cVar 0) (cCons (cSl (cVar 0) (cPart (cC (.int 1))) (cNo)) (cNil))))
theorem himp_steps_of {e : EndsD} (ds : List D) (n : Nat) (k : D → Nat → Prop) (ke : Xv → Nat → Prop) (h : sdStepsOf ds n k ke) (he : e.rt = k) : cs_steps_of (startE ["journey"] ds) n e := by
  obtain ⟨x, ss, rfl, hx, q⟩ := h
  subst he
  rw [← zip_pairs] at q
  rcases hx with rfl | rfl
  · refine ⟨1, rfl, _, rfl, _, _, .inl rfl, ?_⟩
    rw [cutL_tail]
    exact q
  · refine ⟨1, rfl, _, rfl, _, _, .inr rfl, ?_⟩
    rw [cutL_tail]
    exact q
theorem atI_last {ss : List Str} {a : Str} : atI (strD (ss ++ [a])) (-1) = some (.str a) := by
  unfold atI ixN strD
  rw [if_neg (by decide), List.length_map, List.length_append, List.length_singleton, if_pos (by omega)]
  rw [show (-1 + ((ss.length + 1 : Nat) : Int)).toNat = (List.map PyData.str ss).length by rw [List.length_map]; omega, List.map_append]
  simp
end RM
namespace RM
open PySem PySem.Spec PyProof.Rows L2 CS RZ
/-! ### k07: under other names -/
/-! steps renamed -/
end RM
namespace RM
open PySem PySem.Spec PyProof.Rows L2 CS RZ
/-! ### k07: steps tallied -/
end RM
set_option maxHeartbeats 4000000
namespace RM
open PySem PySem.Spec PyProof.Rows L2 CS RZ
/-! ### k07: a journey drawn -/
theorem pairs_snoc : ∀ (r : List Str) (z y : Str), pairsOf (r ++ [z] ++ [y]) = pairsOf (r ++ [z]) ++ [(z, y)]
  | [], z, y => rfl
  | [a], z, y => rfl
  | a :: b :: r, z, y => by
    have ih := pairs_snoc (b :: r) z y
    show (a, b) :: pairsOf (b :: r ++ [z] ++ [y]) = (a, b) :: (pairsOf (b :: r ++ [z])) ++ [(z, y)]
    rw [ih]
    rfl
theorem pairs_snoc2 (r : List Str) (y z : Str) : (y, z) ∈ pairsOf (r ++ [y] ++ [z]) := by
  rw [pairs_snoc]
  simp
structure Wk (ss row : List Str) (a z : Str) : Prop where
  hd : ∃ w, row = a :: w
  tl : ∃ r, row = r ++ [z]
  ins : ∀ s ∈ row, s ∈ ss
  ch : ∀ p ∈ pairsOf row, p.1 ≠ p.2
theorem Wk.snoc {ss row : List Str} {a z y : Str} (w : Wk ss row a z) (hy : y ∈ ss) (hne : y ≠ z) : Wk ss (row ++ [y]) a y := by
  obtain ⟨⟨w', e1⟩, ⟨r, e2⟩, h3, h4⟩ := w
  refine ⟨⟨w' ++ [y], by rw [e1]; rfl⟩, ⟨row, rfl⟩, fun s hs => (List.mem_append.mp hs).elim (h3 s) fun h => by rw [List.mem_singleton.mp h]; exact hy, fun p hp => ?_⟩
  rw [e2, pairs_snoc] at hp
  rcases List.mem_append.mp hp with hp | hp
  · exact h4 p (by rw [e2]; exact hp)
  · rw [List.mem_singleton.mp hp]
    exact hne.symm
def walkt1 : CS := cOwn 3 (cLst (cCons (cCall sdOf (cCons (cVar 0) (cCons (cVar 1) (cNil)))) (cNil)))
def walk1 : CS := cOwn 5 (cLc (cSeq (cVar 1)) (stN 7) (cB (cOp neD (cVar 7) (cIxQ (.nm 3) (cNeg (cC (.int 1)))))) (cVar 7) [7])
def walk2 : CS := cSet 6 (cAndV (cOp gtD (cCBQ gLen (.nm 3)) (cC (.int 1))) (cOp eqD (cCall sdTake (cCons (cVar 0) (cCons (cC (.int 3)) (cNil)))) (cC (.int 0))))
def walk3 : CS := cDrop (cApp 3 (cIf (cB (cVar 6)) (cIxQ (.nm 3) (cNeg (cC (.int 2)))) (cCall sdOf (cCons (cVar 0) (cCons (cVar 5) (cNil))))))
def walkBody : CS := cSq walk1 (cSq walk2 (walk3))
def walkt2 : CS := cFor (cRange1 (cCons (cCall sdTake (cCons (cVar 0) (cCons (cOp addD (cVar 2) (cC (.int 1))) (cNil)))) (cNil))) (stN 4) walkBody
def walkt3 : CS := cIfS (cAndT (cB (cOp neD (cIxQ (.nm 3) (cNeg (cC (.int 1)))) (cIxQ (.nm 3) (cC (.int 0))))) (cAndT (cB (cOp leD (cCBQ gLen (.nm 3)) (cVar 2))) (cB (cOp eqD (cCall sdTake (cCons (cVar 0) (cCons (cC (.int 3)) (cNil)))) (cC (.int 0)))))) (cDrop (cApp 3 (cIxQ (.nm 3) (cC (.int 0))))) (cNext)
def walkt4 : CS := cRet (cCB gTuple (cCons (cVar 3) (cNil)))
def cs_walk : CS := cSq walkt1 (cSq walkt2 (cSq walkt3 (walkt4)))
abbrev n_walk : List Str := ["_law_box_here", "_law_tags_here", "_law_most_so", "_law_row_so", "_law_turn", "_law_near", "_law_back_so", "_law_tag"]
abbrev fw (ss row : List Str) (most : Int) (t4 t5 t6 : Option Sl) : En := [some (.v boxD), some (.v (.list (strD ss))), some (.v (.int most)), some (.own (.list (strD row))), t4, t5, t6, none]
def nearF (z : Str) : D → Option D
  | .str s => if s ≠ z then some (.str s) else none
  | _ => none
theorem nearF_str (z s : Str) : nearF z (.str s) = if s ≠ z then some (.str s) else none := rfl
theorem nearF_all (z : Str) : ∀ ss : List Str, (strD ss).filterMap (nearF z) = strD (ss.filter fun s => s ≠ z)
  | [] => rfl
  | s :: ss => by
    have ih := nearF_all z ss
    unfold strD at ih ⊢
    rw [List.map_cons, List.filterMap_cons, nearF_str, ih, List.filter_cons]
    by_cases c : s = z
    · rw [if_neg (by simpa using c), if_neg (by simpa using c)]
    · rw [if_pos c, if_pos (by simpa using c)]
      rfl
theorem near_some {ss : List Str} (hn : ss.Nodup) (h2 : 2 ≤ ss.length) (z : Str) : 0 < (ss.filter fun s => s ≠ z).length := by
  match ss, hn, h2 with
  | a :: b :: r, hn, _ =>
    rw [List.nodup_cons] at hn
    have hab : a ≠ b := fun e => hn.1 (by rw [e]; simp)
    refine List.length_pos_of_mem (a := if a = z then b else a) (List.mem_filter.mpr ?_)
    by_cases c : a = z
    · rw [if_pos c]
      exact ⟨by simp, by rw [← c]; simpa using hab.symm⟩
    · rw [if_neg c]
      exact ⟨by simp, by simpa using c⟩
  | [a], _, h => simp at h
  | [], _, h => simp at h
theorem last2 {r : List Str} {y z : Str} : atD (.list (strD (r ++ [y] ++ [z]))) (.int (-2)) = some (.str y) := by
  show atI (strD (r ++ [y] ++ [z])) (-2) = _
  unfold atI ixN strD
  rw [if_neg (by decide), List.length_map, List.length_append, List.length_append, List.length_singleton, List.length_singleton, if_pos (by omega)]
  rw [show (-2 + ((r.length + 1 + 1 : Nat) : Int)).toNat = (List.map PyData.str r).length by rw [List.length_map]; omega, List.map_append, List.map_append, List.append_assoc]
  simp
section
variable {e : EndsD} {n : Nat} {ss row : List Str} {most : Int} {t4 t5 t6 : Option Sl}
theorem walkBody_ok {a z : Str} (hn : ss.Nodup) (h2 : 2 ≤ ss.length) (h8 : ss.length ≤ 8) (hg : ∀ s ∈ ss, GoodS s) (hN : n ≤ 800000) (hl : row.length ≤ 900) (w : Wk ss row a z)
    (q : ∀ (y : Str) (t5 t6 : Option Sl) (n' : Nat), Wk ss (row ++ [y]) a y → n' ≤ n + 2 → e.nx (fw ss (row ++ [y]) most t4 t5 t6) n') : walkBody (fw ss row most t4 t5 t6) n e := by
  have gz : GoodS z := by
    obtain ⟨r, er⟩ := w.tl
    exact hg z (w.ins z (by rw [er]; simp))
  have zl : atD (.list (strD row)) (.int (-1)) = some (.str z) := by
    obtain ⟨r, er⟩ := w.tl
    rw [er]
    exact atI_last
  have ll : (strD row).length = row.length := strD_len row
  refine ⟨strD ss, rfl, ?_⟩
  show cLcL _ _ _ _ _ (fw ss row most t4 t5 t6) n [] _
  refine lcL_run (nearF z) _ [] (fun d hd => ?_) (by rw [strD_len, List.length_nil]; unfold lim; omega) ?_
  · obtain ⟨s, hs, rfl⟩ := List.mem_map.mp hd
    refine ⟨_, rfl, rfl, fun K1 hK => ⟨rfl, 1, rfl, _, _, rfl, zl, _, neD_str (hg s hs) gz, _, rfl, ?_⟩, fun y hy K2 hK => ?_⟩
    · rw [nearF_str] at hK
      by_cases c : s = z
      · rw [if_neg (by simpa using c)] at hK
        rw [decide_eq_true c]
        exact hK
      · rw [if_pos c] at hK
        rw [decide_eq_false c]
        exact hK
    · rw [nearF_str] at hy
      have ey := (ifs hy).2
      subst ey
      exact hK
  rw [List.nil_append, nearF_all]
  refine ⟨by show 5 < 8; decide, ?_⟩
  have away : ∀ (n1 : Nat) (t6 : Option Sl), t6 = some (.v (.bool false)) → n1 ≤ n + 1 → walk3 [some (.v boxD), some (.v (.list (strD ss))), some (.v (.int most)), some (.own (.list (strD row))), t4, some (.own (.list (strD (ss.filter fun s => s ≠ z)))), t6, none] n1 e := fun n1 t6 e6 hn1 => by
    subst e6
    have l0 := near_some hn h2 z
    have l1 := List.length_filter_le (fun s => decide (s ≠ z)) ss
    refine ⟨⟨_, rfl⟩, false, rfl, ?_⟩
    refine ⟨.list (strD (ss.filter fun s => s ≠ z)), strD (ss.filter fun s => s ≠ z), rfl, rfl, by omega, by rw [strD_len]; exact l0, by rw [strD_len]; omega, fun d hd => ?_⟩
    obtain ⟨y, hy, rfl⟩ := List.mem_map.mp hd
    have hyf := List.mem_filter.mp hy
    refine ⟨strD row, rfl, by rw [ll]; unfold lim; omega, ?_⟩
    have e1 : strD row ++ [PyData.str y] = strD (row ++ [y]) := by
      unfold strD
      rw [List.map_append]
      rfl
    rw [e1]
    exact q y _ _ _ (w.snoc hyf.1 (by simpa using hyf.2)) (by omega)
  refine ⟨rfl, .list (strD row), .int (strD row).length, rfl, ⟨_, _, rfl, rfl, rfl⟩, rfl, .bool (decide (1 < ((strD row).length : Int))), rfl, _, rfl, ?_⟩
  by_cases c : 1 < ((strD row).length : Int)
  · rw [decide_eq_true c, if_pos rfl]
    refine ⟨3, rfl, by omega, by decide, by decide, fun r r0 r1 => ⟨.bool (r == 0), rfl, ?_⟩⟩
    cases cr : r == 0 with
    | false => exact away (n + 1) _ rfl (Nat.le_refl _)
    | true =>
      obtain ⟨r', er⟩ := w.tl
      obtain ⟨r2, y, e2⟩ : ∃ r2 y, r' = r2 ++ [y] := by
        rcases List.eq_nil_or_concat r' with e | ⟨r2, y, e⟩
        · rw [ll, er, e] at c
          simp at c
        · exact ⟨r2, y, by rw [e]; simp⟩
      have e3 : row = r2 ++ [y] ++ [z] := by rw [er, e2]
      have hyz : y ≠ z := w.ch (y, z) (by rw [e3]; exact pairs_snoc2 r2 y z)
      have hys : y ∈ ss := w.ins y (by rw [e3]; simp)
      refine ⟨⟨_, rfl⟩, true, rfl, ?_⟩
      refine ⟨rfl, 2, rfl, _, .str y, rfl, by rw [e3]; exact last2, strD row, rfl, by rw [ll]; unfold lim; omega, ?_⟩
      have e1 : strD row ++ [PyData.str y] = strD (row ++ [y]) := by
        unfold strD
        rw [List.map_append]
        rfl
      rw [e1]
      exact q y _ _ _ (w.snoc hys hyz) (by omega)
  · rw [decide_eq_false c, if_neg (by simp)]
    exact away n _ rfl (by omega)
end
theorem walk_loop {e : EndsD} {ss : List Str} {most : Int} {a : Str} (hn : ss.Nodup) (h2 : 2 ≤ ss.length) (h8 : ss.length ≤ 8) (hg : ∀ s ∈ ss, GoodS s) : ∀ (turns : List D) (row : List Str) (z : Str) (t4 t5 t6 : Option Sl) (n : Nat), n + 2 * turns.length ≤ 800000 → row.length + turns.length ≤ 100 → Wk ss row a z →
    (∀ (row' : List Str) (z : Str) (t4 t5 t6 : Option Sl) (n' : Nat), Wk ss row' a z → row'.length = row.length + turns.length → n' ≤ n + 2 * turns.length → e.nx (fw ss row' most t4 t5 t6) n') →
    cForL (stN 4) walkBody turns (fw ss row most t4 t5 t6) n e
  | [], row, z, t4, t5, t6, n, _, _, w, q => q row z t4 t5 t6 n w rfl (by omega)
  | d :: turns, row, z, t4, t5, t6, n, h, hl, w, q => by
    rw [List.length_cons] at h hl q
    refine ⟨_, rfl, ?_⟩
    refine walkBody_ok hn h2 h8 hg (by omega) (by omega) w fun y t5 t6 n' w' hn' => ?_
    refine walk_loop hn h2 h8 hg turns (row ++ [y]) y _ _ _ n' (by omega) (by rw [List.length_append, List.length_singleton]; omega) w' fun row' z t4 t5 t6 n2 w2 l2 h3 => q row' z t4 t5 t6 n2 w2 (by rw [l2, List.length_append, List.length_singleton]; omega) (by omega)
end RM
namespace RM
open PySem PySem.Spec PyProof.Rows L2 CS RZ
/-! ### sums over what is counted -/
end RM
set_option maxHeartbeats 4000000
namespace RM
open PySem PySem.Spec PyProof.Rows L2 CS RZ
/-! ### k07, drawn -/
abbrev f7 (t1 t2 t3 t4 t5 t6 t7 t8 t9 t10 t11 t12 t13 t14 : Option Sl) : En := [some (.v boxD), t1, t2, t3, t4, t5, t6, t7, t8, t9, t10, t11, t12, t13, t14]
end RM
set_option maxHeartbeats 4000000
namespace RM
open PySem PySem.Spec PyProof.Rows L2 CS RZ
end RM
set_option maxHeartbeats 4000000
namespace RM
open PySem PySem.Spec PyProof.Rows L2 CS RZ
/-! ### k07 by hand -/
def lS : List Tri := [("a", "c", 1)]
end RM
namespace RM
open PySem PySem.Spec PyProof.Rows L2 CS RZ
/-! ### texts put together -/
end RM
namespace RM
open PySem PySem.Spec PyProof.Rows L2 CS RZ
/-! ### C(k2 = .., k1 = ..): an own class made by names, the last parameter first; C.m(k = ..), m a staticmethod -/
def cCallK (N : Nat) (sd : SpD) (ta : CA) : CE := fun ρ n k ke => ta ρ n (fun ds ρ1 n1 => ds.length = N ∧ sd ds n1 (fun d n2 => k d ρ1 n2) (fun y n2 => ke y ρ1 n2)) ke
/-- a def of one parameter, called by its name -/
theorem kb_one {K : PySem.W.Frag} {x qual : Str} {st : Stmt} {f : Addr} {fd : FuncData} {k0 : Str} (F : Fun K x qual st f fd)
    (h : ∀ (kV doc pm : Value) (an : Option Addr) (cdv ct u0 : Value), bindArgs (PySem.W.fnOf x qual (defArgs st) (defBody st) (defScope st) .none kV doc pm an cdv ct) ⟨[], [(k0, u0)]⟩ = pure [(k0, u0)]) : KBn K fd [k0] 0 [k0] (fun us ws => us ++ ws) (fun vs zs => vs ++ zs) := by
  obtain ⟨oc, od, kV, doc, pm, an, cdv, ct, osl, rfl, lk, hcd⟩ := F.ex
  refine ⟨fun s us ws _ hu hw => ?_, fun r1 r2 => ?_⟩
  · match us, ws, hu, hw with
    | [], [u0], _, _ => exact .of_eq (h kV doc pm an cdv ct u0)
  · induction r1 with
    | nil => exact r2
    | cons a _ ih => exact .cons a ih
end RM
namespace RM
open PySem PySem.Spec PyProof.Rows L2 CS RZ
/-! ### what has no list in it stays, whatever lists change -/
section
variable {X : Cx} {g : Glob} {xk : WX} {C : Ctx} {ρ : En} {n : Nat} {σ : L2.St} {H H' : Hp} {O : Ow}
/-! ### a call whose lists are all new -/
def noOwn (ρ : En) : Prop := ∀ (i : Nat) (d : D), ρ[i]? ≠ some (some (Sl.own d))
theorem noOwn.set {i : Nat} {x : Option Sl} (h : noOwn ρ) (hx : ∀ d, x ≠ some (Sl.own d)) : noOwn (ρ.set i x) := fun j d e => by
  by_cases c : j = i
  · subst c
    have hl := lt_of_get e
    rw [List.length_set] at hl
    rw [List.getElem?_set_self hl] at e
    cases e
    exact hx d rfl
  · rw [List.getElem?_set_ne (Ne.symm c)] at e
    exact h j d e
theorem Ev.none (E : Ev C ρ n σ H O) (no : noOwn ρ) (i : Nat) : O i = none := by
  cases h : O i with
  | none => rfl
  | some p =>
    obtain ⟨⟨d, e⟩, _⟩ := E.only i p h
    exact (no i d e).elim
end
end RM
namespace RM
open PySem PySem.Spec PyProof.Rows L2 CS RZ
/-! ### new lists in a new list: told to a call, then changed -/
section
variable {X : Cx} {g : Glob} {xk : WX} {C : Ctx} {ρ : En} {n : Nat} {σ : L2.St} {H : Hp} {O : Ow} {pos : Pos}
def Ctx.one (T : Tab) (H : Hp) (a : Addr) : Ctx where
  T := { T with bx := none }
  Z := fun _ => False
  H0 := fun b => if b = a then none else H b
end
end RM
namespace RM
open PySem PySem.Spec PyProof.Rows L2 CS RZ
end RM
namespace RM
open PySem PySem.Spec PyProof.Rows L2 CS RZ
/-! ### k04: Counts as a text -/
/-! ### sums of what leads out of a place and into it -/
end RM
namespace RM
open PySem PySem.Spec PyProof.Rows L2 CS RZ
/-! ### k04: what is told -/
/-! texts already in order -/
end RM
namespace RM
open PySem PySem.Spec PyProof.Rows L2 CS RZ
/-! ### k04: what is due -/
end RM
namespace RM
open PySem PySem.Spec PyProof.Rows L2 CS RZ
/-! ### k04: a drawn case -/
abbrev f4 (s : Str) (l L : List Tri) (tags : List Str) (due t6 t9 t10 : Option Sl) : En := [some (.v (.str s)), some (.v (.tuple (trisD l))), some (.v (.list (strD tags))), none, none, due, t6, some (.v (cntD s L)), some (.v (.tuple (trisD L))), t9, t10]
end RM
namespace RM
open PySem PySem.Spec PyProof.Rows L2 CS RZ
end RM
namespace RM
open PySem PySem.Spec PyProof.Rows L2 CS RZ
/-! ### k04: a drawn turn -/
section
variable {e : EndsD} {n : Nat} {t1 t2 t3 t4 : Option Sl}
theorem pairs_both : ∀ (ss : List Str) (p : Str × Str), p ∈ pairsOf ss → p.1 ∈ ss ∧ p.2 ∈ ss
  | [], p, h => by cases h
  | [a], p, h => by cases h
  | a :: b :: r, p, h => by
    rcases List.mem_cons.mp h with rfl | h
    · exact ⟨List.mem_cons_self .., List.mem_cons_of_mem _ (List.mem_cons_self ..)⟩
    · have := pairs_both (b :: r) p h
      exact ⟨List.mem_cons_of_mem _ this.1, List.mem_cons_of_mem _ this.2⟩
end
end RM
namespace RM
open PySem PySem.Spec PyProof.Rows L2 CS RZ
/-! ### k04 by hand -/
end RM
namespace RM
open PySem PySem.Spec PyProof.Rows L2 CS RZ
/-! ### f(k = e): a def called by a name alone -/
structure HasFK (P : Program) (w : World) (K : PySem.W.Frag) (mg : Str → Option Value) (base : Heap) (CX : CXT) (g : Glob) (k : Nat) (x : Str) (ps ks : List Str) (sd : SpD) : Prop where
  ex : ∃ f fd, FnOk P w K mg base CX k f fd ps (spD g sd) ∧ KBn K fd ps 0 ks (fun us ws => us ++ ws) (fun vs zs => vs ++ zs) ∧ PySem.W.keepIn K (.ref f) = true ∧ mg x = some (.ref f)
section
variable {X : Cx} {g : Glob} {xk : WX} {pos p : Pos} {CX : CXT} {j k : Nat} {x : Str} {ps ks : List Str} {ta : CA} {sd : SpD}
theorem pd_funK {kws : List Keyword} (h : HasFK X.prog X.w X.K X.mg X.base CX g j x ps ks sd) (hr : Room k X.A) (l : j ≤ k) (hg : Gl X x) (hx : ∀ σ, PassesAt CX X σ (WE xk σ)) (ha : PDKw X g xk kws ta)
    (hall : (backToKw pos (keywordEach kws X.env)).all (·.1.isSome) = true := by rfl) (hks : (backToKw pos (keywordEach kws X.env)).filterMap (·.1) = ks := by rfl) (hdb : (x == ("__debug__" : Str)) = false := by decide)
    (hpl : ((backTo pos (starEach [] X.env)).any (·.1) || (backToKw pos (keywordEach kws X.env)).any (·.1.isNone)) = false := by rfl) : PD X g xk (.Call (.Name x p) [] kws pos) (cCallK ks.length sd ta) := by
  obtain ⟨f, fd, F, hb, hk, hm⟩ := h.ex
  refine ⟨⟨fun pins s σ H Q I h => ?_⟩⟩
  obtain ⟨C, ρ, n, O, kk, ke, hK, E, t, xl, q⟩ := h
  refine wpAny_Call_Name_kw (ld_glob I hg hm ?_ hdb)
  refine PySem.W.callWith_KW0 (first := []) (h₀ := X.base) I.ok.mod.kin hk hall ?_ hpl
  refine thn (ha.pk.run pos pins s σ H (fun vs H2 => vs.length = ks.length ∧ spD g sd vs H2 Q (WE xk σ)) I ⟨C, ρ, n, O, _, ke, hK, E, t, xl, fun ds ρ2 n2 vs H2 O2 k2 E2 S2 i2 => ⟨by rw [i2.length]; exact k2.1,
    spD_use hK E2 xl i2 k2.2 fun d n' v H' a b c i => q _ _ _ _ _ _ a b (S2.trans c) i⟩⟩) fun ws s3 ⟨zs, H2, I3, r2, l2, q2⟩ => ⟨I3.kIn, ?_⟩
  rw [hks]
  exact run_kw (us := []) (vs := []) (E := WE xk) F (hr.mono l) hb (hx σ) I3 .nil r2 rfl (r2.length.symm.trans l2) q2
/-! ### v = [a, f(m), c]; if t: return ..; v[1].append(e), f's list being new: behind it v is not read -/
end
end RM
namespace RM
open PySem PySem.Spec PyProof.Rows L2 CS RZ
/-! ### raise C(): an own error that keeps nothing -/
end RM
namespace RM
open PySem PySem.Spec PyProof.Rows L2 CS RZ
/-! ### what hangs together: labels against lots -/
def relab (f : Str → Str) (p : Str × Str) : Str → Str := fun y => if f y = f p.1 then f p.2 else f y
def clsOf (ys : List Str) (f : Str → Str) (h : Str) : List Str := ys.filter fun y => f y = h
structure Lab (ys : List Str) (f : Str → Str) : Prop where
  mem : ∀ y ∈ ys, f y ∈ ys
  idem : ∀ y ∈ ys, f (f y) = f y
section
variable {ys : List Str} {f : Str → Str} {a b : Str} {L : List (List Str)}
theorem Lab.step (h : Lab ys f) (ha : a ∈ ys) (hb : b ∈ ys) : Lab ys (relab f (a, b)) where
  mem := fun y hy => by
    unfold relab
    split
    · exact h.mem b hb
    · exact h.mem y hy
  idem := fun y hy => by
    unfold relab
    show (if f (if f y = f a then f b else f y) = f a then f b else f (if f y = f a then f b else f y)) = if f y = f a then f b else f y
    by_cases c : f y = f a
    · rw [if_pos c, h.idem b hb]
      split <;> rfl
    · rw [if_neg c, h.idem y hy, if_neg c]
theorem Lab.all : ∀ (ts : List (Str × Str)) (f : Str → Str), Lab ys f → (∀ p ∈ ts, p.1 ∈ ys ∧ p.2 ∈ ys) → Lab ys (ts.foldl relab f)
  | [], f, h, _ => h
  | p :: ts, f, h, hp => Lab.all ts _ (h.step (hp p (List.mem_cons_self ..)).1 (hp p (List.mem_cons_self ..)).2) fun q hq => hp q (List.mem_cons_of_mem _ hq)
theorem mem_cls {h y : Str} : y ∈ clsOf ys f h ↔ y ∈ ys ∧ f y = h := by
  unfold clsOf
  rw [List.mem_filter, decide_eq_true_iff]
end
end RM
namespace RM
open PySem PySem.Spec PyProof.Rows L2 CS RZ
/-! ### rows of texts in order -/
def rowT (z : List Str) : D := .tuple (strD z)
/-! ### the least place apart from a place -/
end RM
namespace RM
open PySem PySem.Spec PyProof.Rows L2 CS RZ
/-! ### the places of a Counts, in order -/
def leSb (a b : Str) : Bool := leD' (.str a) (.str b)
def spotsAcc (L : List Tri) (ns : List Str) : List Str := L.foldl (fun ns t => putS (putS ns t.1) t.2.1) ns
def placesL (s : Str) (L : List Tri) : List Str := (spotsAcc L [s]).mergeSort leSb
theorem acc_ok : ∀ (L : List Tri) (ns : List Str), (ns.Nodup → (spotsAcc L ns).Nodup) ∧ (∀ p, p ∈ spotsAcc L ns ↔ p ∈ ns ∨ ends L p) ∧ (spotsAcc L ns).length ≤ ns.length + 2 * L.length
  | [], ns => ⟨id, fun p => ⟨.inl, fun h => h.elim id fun ⟨t, z, _⟩ => (List.not_mem_nil z).elim⟩, by simp [spotsAcc]⟩
  | t :: L, ns => by
    obtain ⟨h1, h2, h3⟩ := acc_ok L (putS (putS ns t.1) t.2.1)
    have a1 := len_putS ns t.1
    have a2 := len_putS (putS ns t.1) t.2.1
    refine ⟨fun h => h1 (nodup_putS (nodup_putS h)), fun p => ?_, by rw [List.length_cons]; exact Nat.le_trans h3 (by omega)⟩
    show p ∈ spotsAcc L (putS (putS ns t.1) t.2.1) ↔ _
    rw [h2 p, mem_putS, mem_putS]
    constructor
    · rintro (((h | rfl) | rfl) | ⟨u, hu, e⟩)
      · exact .inl h
      · exact .inr ⟨t, List.mem_cons_self .., .inl rfl⟩
      · exact .inr ⟨t, List.mem_cons_self .., .inr rfl⟩
      · exact .inr ⟨u, List.mem_cons_of_mem _ hu, e⟩
    · rintro (h | ⟨u, hu, e⟩)
      · exact .inl (.inl (.inl h))
      · rcases List.mem_cons.mp hu with rfl | hu
        · rcases e with rfl | rfl
          · exact .inl (.inl (.inr rfl))
          · exact .inl (.inr rfl)
        · exact .inr ⟨u, hu, e⟩
section
variable {s : Str} {L : List Tri}
theorem places_nd : (placesL s L).Nodup := (List.mergeSort_perm _ _).nodup_iff.mpr ((acc_ok L [s]).1 (by simp))
theorem places_mem (p : Str) : p ∈ placesL s L ↔ p = s ∨ ends L p := by
  show p ∈ (spotsAcc L [s]).mergeSort leSb ↔ _
  rw [(List.mergeSort_perm _ _).mem_iff, (acc_ok L [s]).2.1, List.mem_singleton]
end
/-! ### dicts with text keys and any values -/
def tabG (ns : List Str) (g : Str → D) : List (D × D) := ns.map fun p => (.str p, g p)
theorem look_tabG (ns : List Str) (g : Str → D) (a : Str) : lookD (.dict ((.none, .bool false) :: tabG ns g)) (.str a) = some (if a ∈ ns then some (g a) else none) := by
  show (if flatK (.str a) = true then some (keyD (tabG ns g) (.str a)) else none) = _
  rw [if_pos (show flatK (.str a) = true from rfl)]
  congr 1
  unfold keyD tabG
  induction ns with
  | nil => rfl
  | cons p ns ih =>
    rw [List.map_cons, List.find?_cons, RM.eqv_str]
    by_cases c : p = a
    · subst c
      simp
    · rw [decide_eq_false c]
      simp only
      rw [ih]
      by_cases c2 : a ∈ ns
      · simp [c2]
      · simp [c2, Ne.symm c]
theorem put_tabG {ns : List Str} {g : Str → D} {a : Str} {v : D} (hl : ns.length < lim) : putD (.dict ((.none, .bool false) :: tabG ns g)) (.str a) v = some (.dict ((.none, .bool false) :: tabG (putS ns a) fun p => if p = a then v else g p)) := by
  have h2 : (tabG ns g).length < lim := by
    unfold tabG
    rw [List.length_map]
    exact hl
  show (if flatK (.str a) = true ∧ (tabG ns g).length < lim then some (PyData.dict ((.none, .bool false) :: putKD (tabG ns g) (.str a) v)) else none) = _
  rw [if_pos ⟨rfl, h2⟩]
  congr 3
  have ha : ((tabG ns g).any fun kv => PyData.eqv kv.1 (.str a)) = decide (a ∈ ns) := by
    clear h2 hl
    unfold tabG
    rw [List.any_map]
    induction ns with
    | nil => rfl
    | cons p ns ih =>
      rw [List.any_cons, ih]
      show (PyData.eqv (.str p) (.str a) || _) = _
      rw [RM.eqv_str]
      by_cases h : p = a
      · subst h
        simp
      · simp [h, Ne.symm h]
  unfold putKD putS
  rw [ha]
  by_cases c : a ∈ ns
  · rw [decide_eq_true c, if_pos rfl, if_pos c]
    unfold tabG
    rw [List.map_map]
    refine List.map_congr_left fun p hp => ?_
    show (if PyData.eqv (.str p) (.str a) = true then (PyData.str p, _) else (PyData.str p, _)) = _
    rw [RM.eqv_str]
    by_cases h : p = a
    · simp [h]
    · simp [h]
  · rw [decide_eq_false c, if_neg (by simp), if_neg c]
    unfold tabG
    rw [List.map_append]
    congr 1
    · refine List.map_congr_left fun p hp => ?_
      have hne : ¬ p = a := fun z => c (z ▸ hp)
      dsimp only
      rw [if_neg hne]
    · simp
/-! ### pieces_of -/
end RM
namespace RM
open PySem PySem.Spec PyProof.Rows L2 CS RZ
/-! ### k09: the program's side -/
theorem map_run {α : Type} {cg : CG} {tt : CT} {te : CE} {vs : List Nat} {ρ0 : En} {n : Nat} (enc : α → D) (p : α → Bool) (v : α → D) {k : List D → En → Nat → Prop} : ∀ (l : List α) (acc : List D),
    (∀ a ∈ l, ∃ ρ1, cg (enc a) ρ0 = some ρ1 ∧ wipeE ρ1 vs = ρ0 ∧ (∀ K1 : Bool → En → Nat → Prop, K1 (p a) ρ1 n → tt ρ1 n K1 kF) ∧ ∀ K2 : D → En → Nat → Prop, K2 (v a) ρ1 n → te ρ1 n K2 kF) →
    acc.length + l.length ≤ lim → k (acc ++ (l.filter p).map v) ρ0 n → cLcL cg tt te vs (l.map enc) ρ0 n acc k
  | [], acc, _, _, q => by simpa [cLcL] using q
  | a :: l, acc, h, hl, q => by
    obtain ⟨ρ1, h1, h2, h3, h4⟩ := h a (List.mem_cons_self ..)
    rw [List.length_cons] at hl
    refine ⟨ρ1, h1, h3 _ ?_⟩
    rw [List.filter_cons] at q
    cases c : p a with
    | true =>
      rw [c, if_pos rfl] at q
      refine h4 _ ⟨by omega, ?_⟩
      rw [h2]
      refine map_run enc p v l (acc ++ [v a]) (fun z hz => h z (List.mem_cons_of_mem _ hz)) (by rw [List.length_append, List.length_singleton]; omega) ?_
      rw [List.append_assoc]
      exact q
    | false =>
      rw [c, if_neg (by decide)] at q
      show cLcL cg tt te vs (l.map enc) (wipeE ρ1 vs) n acc k
      rw [h2]
      exact map_run enc p v l acc (fun z hz => h z (List.mem_cons_of_mem _ hz)) (by omega) q
theorem filter_true {α : Type} (l : List α) : l.filter (fun _ => true) = l := List.filter_eq_self.mpr fun _ _ => rfl
/-! ### pieces, why_none, is_had, need, end_of, turned_counts -/
structure Pc (s : Str) (L : List Tri) : Prop where
  cn : Cn L
  gs : GoodS s
  ll : L.length ≤ 30
  nn : ∀ p ∈ placesL s L, p ≠ "none"
abbrev labL (L : List Tri) : Str → Str := (L.map pr).foldl relab id
section
variable {s : Str} {L : List Tri}
theorem Pc.gp (c : Pc s L) : ∀ y ∈ placesL s L, GoodS y := fun y hy => by
  rcases (places_mem y).mp hy with rfl | ⟨t, ht, rfl | rfl⟩
  · exact c.gs
  · exact (c.cn.g t ht).1
  · exact (c.cn.g t ht).2
theorem ties_in : ∀ p ∈ L.map pr, p.1 ∈ placesL s L ∧ p.2 ∈ placesL s L := fun p hp => by
  obtain ⟨t, ht, rfl⟩ := List.mem_map.mp hp
  exact ⟨(places_mem _).mpr (.inr ⟨t, ht, .inl rfl⟩), (places_mem _).mpr (.inr ⟨t, ht, .inr rfl⟩)⟩
theorem start_in : s ∈ placesL s L := (places_mem s).mpr (.inl rfl)
def oversL (s : Str) (L : List Tri) : List Str := (placesL s L).filter fun p => over L p ≠ 0
def badN (s p : Str) (i : Int) : Bool := decide (i < -1) || (decide (1 < i) || (decide (0 < i) && !decide (p = s)))
def farL (s : Str) (L : List Tri) : List Str := (placesL s L).filter fun y => decide (y ∉ clsOf (placesL s L) (labL L) (labL L s))
def whyD (s : Str) (L : List Tri) : D := match (oversL s L).find? fun p => badN s p (over L p) with
  | some p => .tuple [.str "surplus", .str p]
  | none => match (farL s L).head? with
    | some p => .tuple [.str "apart", .str p]
    | none => .none
def hadL (s : Str) (L : List Tri) : Bool := noneB (whyD s L)
def endS (s : Str) (L : List Tri) : Str := ((oversL s L).find? fun p => decide (over L p < 0)).getD s
theorem over_none {p : Str} (h : ¬ ends L p) : over L p = 0 := by
  unfold over
  rw [List.filter_eq_nil_iff.mpr, List.filter_eq_nil_iff.mpr]
  · rfl
  · intro t ht
    simp only [decide_eq_true_eq]
    exact fun z => h ⟨t, ht, .inr z⟩
  · intro t ht
    simp only [decide_eq_true_eq]
    exact fun z => h ⟨t, ht, .inl z⟩
def turnT (t : Tri) : Tri := (t.2.1, t.1, t.2.2)
end
end RM
namespace RM
open PySem PySem.Spec PyProof.Rows L2 CS RZ
/-! ### k09: the law's side -/
end RM
namespace RM
open PySem PySem.Spec PyProof.Rows L2 CS RZ
/-! ### k09: why none, the end -/
end RM
namespace RM
open PySem PySem.Spec PyProof.Rows L2 CS RZ
/-! ### k09: a case -/
section
variable {s : Str} {L : List Tri}
theorem end_in : endS s L ∈ placesL s L := by
  unfold endS
  cases e : (oversL s L).find? fun p => decide (over L p < 0) with
  | none => exact start_in
  | some p => exact (List.mem_filter.mp (List.mem_of_find?_eq_some e)).1
end
end RM
namespace RM
open PySem PySem.Spec PyProof.Rows L2 CS RZ
/-! ### k09: a drawn turn -/
theorem tag_none : ∀ s ∈ tagPool, s ≠ "none" := by decide +kernel
theorem pc_of {s : Str} {l : List Tri} (hF : Fine l) (hg : GoodL l) (hl : l.length ≤ 30) (gs : GoodS s) (ns : s ≠ "none") (nl : ∀ t ∈ l, t.1 ≠ "none" ∧ t.2.1 ≠ "none") : Pc s (canon l) where
  cn := cn_canon hF hg hl
  gs := gs
  ll := by have := canon_len l; omega
  nn := fun p hp => by
    rcases (places_mem p).mp hp with rfl | ⟨t, ht, e⟩
    · exact ns
    · obtain ⟨u, hu, e2⟩ := List.mem_map.mp (canon_mem ht).1
      have e1 : u.1 = t.1 := congrArg (fun p : Str × Str => p.1) e2
      have e3 : u.2.1 = t.2.1 := congrArg (fun p : Str × Str => p.2) e2
      rcases e with rfl | rfl
      · rw [← e1]
        exact (nl u hu).1
      · rw [← e3]
        exact (nl u hu).2
end RM
namespace RM
open PySem PySem.Spec PyProof.Rows L2 CS RZ
/-! ### k09 by hand -/
end RM
namespace RM
open PySem PySem.Spec PyProof.Rows L2 CS RZ
/-! ### k09 by hand, row by row -/
end RM
namespace RM
open PySem PySem.Spec PyProof.Rows L2 CS RZ
/-! ### an own error that keeps nothing, looked up -/
end RM
namespace RM
open PySem PySem.Spec PyProof.Rows L2 CS RZ
/-! ### steps that can be gone through: as many out as in, and all hang together -/
abbrev Ed := Str × Str
def outN (E : List Ed) (v : Str) : Nat := E.countP fun e => decide (e.1 = v)
def inN (E : List Ed) (v : Str) : Nat := E.countP fun e => decide (e.2 = v)
def one (a b : Str) : Int := if a = b then 1 else 0
def Deg (E : List Ed) (u t : Str) : Prop := ∀ v, (outN E v : Int) - inN E v = one v u - one v t
def Bal (E : List Ed) : Prop := ∀ v, outN E v = inN E v
def endOf : Str → List Str → Str
  | u, [] => u
  | _, b :: q => endOf b q
theorem bal_of {E : List Ed} {t : Str} (h : Deg E t t) : Bal E := fun v => by
  have := h v
  omega
theorem deg_of {E : List Ed} (t : Str) (h : Bal E) : Deg E t t := fun v => by
  have := h v
  omega
theorem outN_perm {E F : List Ed} (h : E.Perm F) (v : Str) : outN E v = outN F v := h.countP_eq _
theorem inN_perm {E F : List Ed} (h : E.Perm F) (v : Str) : inN E v = inN F v := h.countP_eq _
theorem outN_cons (e : Ed) (E : List Ed) (v : Str) : (outN (e :: E) v : Int) = outN E v + one v e.1 := by
  unfold outN one
  rw [List.countP_cons]
  by_cases c : e.1 = v
  · rw [decide_eq_true c, if_pos rfl, if_pos c.symm]
    rfl
  · rw [decide_eq_false c, if_neg (by decide), if_neg (Ne.symm c)]
    rfl
theorem inN_cons (e : Ed) (E : List Ed) (v : Str) : (inN (e :: E) v : Int) = inN E v + one v e.2 := by
  unfold inN one
  rw [List.countP_cons]
  by_cases c : e.2 = v
  · rw [decide_eq_true c, if_pos rfl, if_pos c.symm]
    rfl
  · rw [decide_eq_false c, if_neg (by decide), if_neg (Ne.symm c)]
    rfl
theorem outN_pos {E : List Ed} {v : Str} : 0 < outN E v ↔ ∃ e ∈ E, e.1 = v := by
  unfold outN
  rw [List.countP_pos_iff]
  simp only [decide_eq_true_eq]
theorem inN_pos {E : List Ed} {v : Str} : 0 < inN E v ↔ ∃ e ∈ E, e.2 = v := by
  unfold inN
  rw [List.countP_pos_iff]
  simp only [decide_eq_true_eq]
/-- one step is gone -/
theorem deg_step {R R1 : List Ed} {u b t : Str} (hp : R.Perm ((u, b) :: R1)) (h : Deg R u t) : Deg R1 b t := fun v => by
  have h1 := h v
  rw [outN_perm hp, inN_perm hp, outN_cons, inN_cons] at h1
  dsimp only at h1
  omega
theorem split_at {R : List Ed} {e : Ed} (h : e ∈ R) : ∃ R1 : List Ed, R.Perm (e :: R1) := by
  obtain ⟨a, b, rfl⟩ := List.append_of_mem h
  exact ⟨a ++ b, List.perm_middle⟩
/-- on and on, until one cannot go on: that is at t -/
theorem go_on {t : Str} : ∀ (k : Nat) (R : List Ed) (u : Str), R.length ≤ k → Deg R u t → ∃ (p : List Str) (R' : List Ed), (pairsOf (u :: p) ++ R').Perm R ∧ endOf u p = t ∧ Bal R' := by
  intro k
  induction k with
  | zero =>
    intro R u hl h
    have : R = [] := List.length_eq_zero_iff.mp (by omega)
    subst this
    have h1 := h u
    have e1 : one u u = 1 := if_pos rfl
    have e2 : ((outN [] u : Nat) : Int) = 0 := rfl
    have e3 : ((inN [] u : Nat) : Int) = 0 := rfl
    rw [e1, e2, e3] at h1
    by_cases c : u = t
    · subst c
      exact ⟨[], [], .nil, rfl, bal_of h⟩
    · have e4 : one u t = 0 := if_neg c
      omega
  | succ k ih =>
    intro R u hl h
    by_cases c : ∃ e ∈ R, e.1 = u
    · obtain ⟨⟨a, b⟩, he, rfl⟩ := c
      obtain ⟨R1, hp⟩ := split_at he
      have hl1 := hp.length_eq
      rw [List.length_cons] at hl1
      obtain ⟨p, R', h1, h2, h3⟩ := ih R1 b (by omega) (deg_step hp h)
      exact ⟨b :: p, R', (List.Perm.cons (a, b) h1).trans hp.symm, h2, h3⟩
    · have h0 : outN R u = 0 := by
        have : ¬ 0 < outN R u := fun z => c (outN_pos.mp z)
        omega
      have h1 := h u
      have e1 : one u u = 1 := if_pos rfl
      rw [e1, h0] at h1
      by_cases c2 : u = t
      · subst c2
        exact ⟨[], R, .refl _, rfl, bal_of h⟩
      · have e4 : one u t = 0 := if_neg c2
        omega
/-- a round from x -/
theorem go_round {R : List Ed} {x : Str} (h : Bal R) (hx : ∃ e ∈ R, e.1 = x) : ∃ (p : List Str) (R' : List Ed), p ≠ [] ∧ (pairsOf (x :: p) ++ R').Perm R ∧ endOf x p = x ∧ Bal R' := by
  obtain ⟨⟨a, b⟩, he, rfl⟩ := hx
  obtain ⟨R1, hp⟩ := split_at he
  obtain ⟨p, R', h1, h2, h3⟩ := go_on R1.length R1 b (Nat.le_refl _) (deg_step hp (deg_of a h))
  exact ⟨b :: p, R', by simp, (List.Perm.cons (a, b) h1).trans hp.symm, h2, h3⟩
theorem end_app : ∀ (u : Str) (p r : List Str), endOf u (p ++ r) = endOf (endOf u p) r
  | u, [], r => rfl
  | u, b :: p, r => end_app b p r
theorem pairs_app : ∀ (u : Str) (p r : List Str), pairsOf (u :: (p ++ r)) = pairsOf (u :: p) ++ pairsOf (endOf u p :: r)
  | u, [], r => rfl
  | u, b :: p, r => by
    show (u, b) :: pairsOf (b :: (p ++ r)) = (u, b) :: (pairsOf (b :: p) ++ pairsOf (endOf b p :: r))
    rw [pairs_app b p r]
theorem pairs_in : ∀ (u : Str) (p : List Str) (e : Ed), e ∈ pairsOf (u :: p) → e.1 ∈ u :: p ∧ e.2 ∈ u :: p := fun u p e h => pairs_both (u :: p) e h
/-- a round is put in where the way comes by -/
theorem put_in {s x : Str} {p c : List Str} (hx : x ∈ s :: p) (hc : endOf x c = x) : ∃ p' : List Str, (pairsOf (s :: p')).Perm (pairsOf (s :: p) ++ pairsOf (x :: c)) ∧ endOf s p' = endOf s p := by
  have key : ∀ (a b : List Str), endOf s a = x → ∃ p' : List Str, (pairsOf (s :: p')).Perm (pairsOf (s :: (a ++ b)) ++ pairsOf (x :: c)) ∧ endOf s p' = endOf s (a ++ b) := fun a b ha => by
    refine ⟨a ++ (c ++ b), ?_, by rw [end_app, end_app, end_app, ha, hc]⟩
    rw [pairs_app s a (c ++ b), ha, pairs_app x c b, hc, pairs_app s a b, ha, List.append_assoc]
    exact List.Perm.append_left _ List.perm_append_comm
  rcases List.mem_cons.mp hx with rfl | hx
  · exact key [] p rfl
  · obtain ⟨a, b, rfl⟩ := List.append_of_mem hx
    have : a ++ x :: b = (a ++ [x]) ++ b := by rw [List.append_assoc]; rfl
    rw [this]
    exact key (a ++ [x]) b (by rw [end_app]; rfl)
def Hang (E : List Ed) (s : Str) : Prop := ∀ V : Str → Prop, V s → (∀ e ∈ E, V e.1 ↔ V e.2) → ∀ e ∈ E, V e.1
theorem put_all {E : List Ed} {s t : Str} (hg : Hang E s) : ∀ (k : Nat) (p : List Str) (R : List Ed), R.length ≤ k → (pairsOf (s :: p) ++ R).Perm E → endOf s p = t → Bal R → ∃ p' : List Str, (pairsOf (s :: p')).Perm E ∧ endOf s p' = t := by
  intro k
  induction k with
  | zero =>
    intro p R hl h1 h2 _
    have : R = [] := List.length_eq_zero_iff.mp (by omega)
    subst this
    rw [List.append_nil] at h1
    exact ⟨p, h1, h2⟩
  | succ k ih =>
    intro p R hl h1 h2 h3
    by_cases c : ∃ e ∈ R, e.1 ∈ s :: p
    · obtain ⟨e, he, hx⟩ := c
      obtain ⟨q, R', n1, n2, n3, n4⟩ := go_round h3 ⟨e, he, rfl⟩
      obtain ⟨p', m1, m2⟩ := put_in hx n3
      have hl2 := n2.length_eq
      rw [List.length_append] at hl2
      have hl3 : 0 < (pairsOf (e.1 :: q)).length := by
        cases q with
        | nil => exact (n1 rfl).elim
        | cons b q => exact Nat.succ_pos _
      refine ih p' R' (by omega) ?_ (m2.trans h2) n4
      refine ((m1.append_right R').trans ?_).trans h1
      rw [List.append_assoc]
      exact n2.append_left _
    · by_cases hR : R = []
      · subst hR
        rw [List.append_nil] at h1
        exact ⟨p, h1, h2⟩
      · exfalso
        have c2 : ∀ e ∈ R, e.2 ∉ s :: p := fun e he hz => by
          have : 0 < outN R e.2 := by
            rw [h3 e.2]
            exact inN_pos.mpr ⟨e, he, rfl⟩
          obtain ⟨e', he', q⟩ := outN_pos.mp this
          exact c ⟨e', he', by rw [q]; exact hz⟩
        have all := hg (fun v => v ∈ s :: p) (List.mem_cons_self ..) fun e he => by
          rcases List.mem_append.mp (h1.mem_iff.mpr he) with h | h
          · have := pairs_in s p e h
            exact ⟨fun _ => this.2, fun _ => this.1⟩
          · exact ⟨fun z => (c ⟨e, h, z⟩).elim, fun z => (c2 e h z).elim⟩
        cases R with
        | nil => exact hR rfl
        | cons e R => exact c ⟨e, List.mem_cons_self .., all e (h1.mem_iff.mp (List.mem_append_right _ (List.mem_cons_self ..)))⟩
/-- there is a way -/
theorem way_is {E : List Ed} {s t : Str} (hd : Deg E s t) (hg : Hang E s) : ∃ p : List Str, (pairsOf (s :: p)).Perm E ∧ endOf s p = t := by
  obtain ⟨p, R, h1, h2, h3⟩ := go_on E.length E s (Nat.le_refl _) hd
  exact put_all hg R.length p R (Nat.le_refl _) h1 h2 h3
/-- and what a way has -/
theorem way_deg : ∀ (s : Str) (p : List Str), Deg (pairsOf (s :: p)) s (endOf s p)
  | s, [] => fun v => by
    show ((outN [] v : Nat) : Int) - (inN [] v : Nat) = one v s - one v s
    have e2 : ((outN [] v : Nat) : Int) = 0 := rfl
    have e3 : ((inN [] v : Nat) : Int) = 0 := rfl
    omega
  | s, b :: p => fun v => by
    have ih := way_deg b p v
    show ((outN ((s, b) :: pairsOf (b :: p)) v : Nat) : Int) - (inN ((s, b) :: pairsOf (b :: p)) v : Nat) = one v s - one v (endOf b p)
    rw [outN_cons, inN_cons]
    show _ + one v s - (_ + one v b) = _
    omega
theorem way_hang : ∀ (s : Str) (p : List Str) (V : Str → Prop), V s → (∀ e ∈ pairsOf (s :: p), V e.1 ↔ V e.2) → ∀ x ∈ s :: p, V x
  | s, [], V, hs, _ => fun x hx => by rw [List.mem_singleton.mp hx]; exact hs
  | s, b :: p, V, hs, h => fun x hx => by
    rcases List.mem_cons.mp hx with rfl | hx
    · exact hs
    · exact way_hang b p V ((h (s, b) (List.mem_cons_self ..)).mp hs) (fun e he => h e (List.mem_cons_of_mem _ he)) x hx
end RM
namespace RM
open PySem PySem.Spec PyProof.Rows L2 CS RZ
/-! ### a Counts is had exactly if some way makes its steps -/
def exL (L : List Tri) : List Ed := L.flatMap fun t => List.replicate t.2.2.toNat (pr t)
theorem over_eq (L : List Tri) (p : Str) : over L p = outsT L p - insT L p := rfl
theorem over_cons (t : Tri) (L : List Tri) (p : Str) : over (t :: L) p = over L p + ((if t.1 = p then t.2.2 else 0) + -(if t.2.1 = p then t.2.2 else 0)) := by
  rw [over_eq, over_eq, outsT_cons, insT_cons]
  omega
theorem out_ex : ∀ (L : List Tri) (v : Str), (∀ t ∈ L, 0 ≤ t.2.2) → (outN (exL L) v : Int) = outsT L v
  | [], v, _ => rfl
  | t :: L, v, h => by
    have ih := out_ex L v fun u hu => h u (List.mem_cons_of_mem _ hu)
    have h0 := h t (List.mem_cons_self ..)
    have e1 : exL (t :: L) = List.replicate t.2.2.toNat (pr t) ++ exL L := by unfold exL; rw [List.flatMap_cons]
    rw [e1, outsT_cons, ← ih]
    unfold outN
    rw [List.countP_append, List.countP_replicate]
    show ((((if decide (t.1 = v) = true then t.2.2.toNat else 0) + List.countP (fun e : Ed => decide (e.1 = v)) (exL L)) : Nat) : Int) = _
    by_cases c : t.1 = v
    · rw [decide_eq_true c, if_pos rfl, if_pos c]
      omega
    · rw [decide_eq_false c, if_neg (by decide), if_neg c]
      omega
theorem in_ex : ∀ (L : List Tri) (v : Str), (∀ t ∈ L, 0 ≤ t.2.2) → (inN (exL L) v : Int) = insT L v
  | [], v, _ => rfl
  | t :: L, v, h => by
    have ih := in_ex L v fun u hu => h u (List.mem_cons_of_mem _ hu)
    have h0 := h t (List.mem_cons_self ..)
    have e1 : exL (t :: L) = List.replicate t.2.2.toNat (pr t) ++ exL L := by unfold exL; rw [List.flatMap_cons]
    rw [e1, insT_cons, ← ih]
    unfold inN
    rw [List.countP_append, List.countP_replicate]
    show ((((if decide (t.2.1 = v) = true then t.2.2.toNat else 0) + List.countP (fun e : Ed => decide (e.2 = v)) (exL L)) : Nat) : Int) = _
    by_cases c : t.2.1 = v
    · rw [decide_eq_true c, if_pos rfl, if_pos c]
      omega
    · rw [decide_eq_false c, if_neg (by decide), if_neg c]
      omega
theorem deg_ex {L : List Tri} {u t : Str} (h : ∀ t ∈ L, 0 ≤ t.2.2) : Deg (exL L) u t ↔ ∀ v, over L v = one v u - one v t := by
  constructor
  · intro d v
    rw [over_eq, ← out_ex L v h, ← in_ex L v h]
    exact d v
  · intro d v
    rw [out_ex L v h, in_ex L v h, ← over_eq]
    exact d v
theorem mem_ex {L : List Tri} (hp : ∀ t ∈ L, 0 < t.2.2) (e : Ed) : e ∈ exL L ↔ e ∈ L.map pr := by
  unfold exL
  rw [List.mem_flatMap, List.mem_map]
  constructor
  · rintro ⟨t, ht, h⟩
    exact ⟨t, ht, (List.mem_replicate.mp h).2.symm⟩
  · rintro ⟨t, ht, rfl⟩
    have := hp t ht
    exact ⟨t, ht, List.mem_replicate.mpr ⟨by omega, rfl⟩⟩
/-! labels: what they hold together -/
theorem labs_closed (V : Str → Prop) : ∀ (ts : List Ed) (f : Str → Str), (∀ p ∈ ts, V p.1 ↔ V p.2) → (∀ x y, f x = f y → (V x ↔ V y)) → ∀ x y, (ts.foldl relab f) x = (ts.foldl relab f) y → (V x ↔ V y)
  | [], f, _, h => h
  | (a, b) :: ts, f, ht, h => by
    have hab := ht (a, b) (List.mem_cons_self ..)
    refine labs_closed V ts (relab f (a, b)) (fun p hp => ht p (List.mem_cons_of_mem _ hp)) fun x y e => ?_
    unfold relab at e
    dsimp only at e
    by_cases cx : f x = f a
    · rw [if_pos cx] at e
      by_cases cy : f y = f a
      · exact h x y (cx.trans cy.symm)
      · rw [if_neg cy] at e
        exact (h x a cx).trans (hab.trans (h b y e))
    · rw [if_neg cx] at e
      by_cases cy : f y = f a
      · rw [if_pos cy] at e
        exact (h x b e).trans (hab.symm.trans (h y a cy).symm)
      · rw [if_neg cy] at e
        exact h x y e
theorem relab_keep {f : Str → Str} {p : Ed} {x y : Str} (h : f x = f y) : relab f p x = relab f p y := by
  unfold relab
  rw [h]
theorem labs_keep : ∀ (ts : List Ed) (f : Str → Str) (x y : Str), f x = f y → (ts.foldl relab f) x = (ts.foldl relab f) y
  | [], _, _, _, h => h
  | p :: ts, f, x, y, h => labs_keep ts _ x y (relab_keep h)
theorem labs_tie : ∀ (ts : List Ed) (f : Str → Str), ∀ p ∈ ts, (ts.foldl relab f) p.1 = (ts.foldl relab f) p.2
  | [], _, p, h => (List.not_mem_nil h).elim
  | q :: ts, f, p, h => by
    rcases List.mem_cons.mp h with rfl | h
    · refine labs_keep ts _ _ _ ?_
      unfold relab
      rw [if_pos rfl]
      split <;> rfl
    · exact labs_tie ts _ p h
/-! sums over the places -/
theorem over_sum {ys : List Str} (hn : ys.Nodup) : ∀ L : List Tri, (∀ p, ends L p → p ∈ ys) → (ys.map fun y => over L y).sum = 0
  | [], _ => sum_zero ys
  | t :: L, h => by
    have ih := over_sum hn L fun p ⟨u, hu, q⟩ => h p ⟨u, List.mem_cons_of_mem _ hu, q⟩
    have e1 : (ys.map fun y => over (t :: L) y) = ys.map fun y => over L y + ((if t.1 = y then t.2.2 else 0) + (if t.2.1 = y then -t.2.2 else 0)) := List.map_congr_left fun y _ => by
      rw [over_cons]
      split <;> split <;> omega
    rw [e1, sum_add, sum_add, ih, sum_one hn, sum_one hn, if_pos (h _ ⟨t, List.mem_cons_self .., .inl rfl⟩), if_pos (h _ ⟨t, List.mem_cons_self .., .inr rfl⟩)]
    omega
theorem perm_sum {l m : List Int} (h : l.Perm m) : l.sum = m.sum := by
  induction h with
  | nil => rfl
  | cons x _ ih => rw [List.sum_cons, List.sum_cons, ih]
  | swap x y l =>
    rw [List.sum_cons, List.sum_cons, List.sum_cons, List.sum_cons]
    omega
  | trans _ _ h1 h2 => exact h1.trans h2
theorem sum_low (f : Str → Int) : ∀ zs : List Str, (∀ p ∈ zs, f p = 0 ∨ f p = -1) → (zs.map f).sum ≤ 0
  | [], _ => Int.le_refl _
  | z :: zs, h => by
    have := sum_low f zs fun p hp => h p (List.mem_cons_of_mem _ hp)
    rw [List.map_cons, List.sum_cons]
    rcases h z (List.mem_cons_self ..) with e | e <;> omega
theorem low_zero (f : Str → Int) : ∀ zs : List Str, (∀ p ∈ zs, f p = 0 ∨ f p = -1) → (zs.map f).sum = 0 → ∀ p ∈ zs, f p = 0
  | [], _, _, p, hp => (List.not_mem_nil hp).elim
  | z :: zs, h, hs, p, hp => by
    have hl := sum_low f zs fun p hp => h p (List.mem_cons_of_mem _ hp)
    rw [List.map_cons, List.sum_cons] at hs
    have hz := h z (List.mem_cons_self ..)
    rcases List.mem_cons.mp hp with rfl | hp
    · rcases hz with e | e <;> omega
    · exact low_zero f zs (fun p hp => h p (List.mem_cons_of_mem _ hp)) (by rcases hz with e | e <;> omega) p hp
theorem low_one (f : Str → Int) : ∀ zs : List Str, (∀ p ∈ zs, f p = 0 ∨ f p = -1) → (zs.map f).sum = -1 → ∃ t ∈ zs, f t = -1 ∧ ∀ p ∈ zs, p ≠ t → f p = 0
  | [], _, hs => by simp at hs
  | z :: zs, h, hs => by
    have h' := fun p hp => h p (List.mem_cons_of_mem z hp)
    rw [List.map_cons, List.sum_cons] at hs
    rcases h z (List.mem_cons_self ..) with e | e
    · obtain ⟨t, ht, h1, h2⟩ := low_one f zs h' (by omega)
      refine ⟨t, List.mem_cons_of_mem _ ht, h1, fun p hp ne => ?_⟩
      rcases List.mem_cons.mp hp with rfl | hp
      · exact e
      · exact h2 p hp ne
    · have hz := low_zero f zs h' (by omega)
      refine ⟨z, List.mem_cons_self .., e, fun p hp ne => ?_⟩
      rcases List.mem_cons.mp hp with rfl | hp
      · exact (ne rfl).elim
      · exact hz p hp
section
variable {s : Str} {L : List Tri}
/-- no place has too much: the way's end -/
theorem end_of_over (h : ∀ p ∈ placesL s L, badN s p (over L p) = false) : ∃ t, ∀ v, over L v = one v s - one v t := by
  have hs := over_sum (places_nd (s := s) (L := L)) L fun p hp => (places_mem p).mpr (.inr hp)
  have lo : ∀ p ∈ placesL s L, p ≠ s → over L p = 0 ∨ over L p = -1 := fun p hp ne => by
    have := h p hp
    simp only [badN, Bool.or_eq_false_iff, decide_eq_false_iff_not, Bool.and_eq_false_iff, Bool.not_eq_false', decide_eq_true_iff] at this
    obtain ⟨h1, h2, h3⟩ := this
    rcases h3 with h3 | h3
    · omega
    · exact (ne h3).elim
  have hi := h s start_in
  simp only [badN, Bool.or_eq_false_iff, decide_eq_false_iff_not] at hi
  obtain ⟨a, b, e⟩ := List.append_of_mem (start_in (s := s) (L := L))
  have perm : (placesL s L).Perm (s :: (a ++ b)) := by rw [e]; exact List.perm_middle
  have hsum : over L s + ((a ++ b).map fun y => over L y).sum = 0 := by
    have := perm_sum (perm.map fun y => over L y)
    rw [List.map_cons, List.sum_cons] at this
    omega
  have nd : (s :: (a ++ b)).Nodup := perm.nodup_iff.mp places_nd
  have ns := (List.nodup_cons.mp nd).1
  have lz : ∀ p ∈ a ++ b, over L p = 0 ∨ over L p = -1 := fun p hp => lo p (perm.mem_iff.mpr (List.mem_cons_of_mem _ hp)) fun z => ns (z ▸ hp)
  have hl := sum_low (fun y => over L y) (a ++ b) lz
  have out : ∀ v, v ∉ placesL s L → over L v = 0 := fun v hv => over_none fun z => hv ((places_mem v).mpr (.inr z))
  have one1 : ∀ v, one v v = 1 := fun v => if_pos rfl
  have one0 : ∀ v w : Str, v ≠ w → one v w = 0 := fun v w ne => if_neg ne
  by_cases c : over L s = 1
  · obtain ⟨t, ht, h1, h2⟩ := low_one (fun y => over L y) (a ++ b) lz (by omega)
    have nts : t ≠ s := fun z => ns (z ▸ ht)
    refine ⟨t, fun v => ?_⟩
    by_cases cv : v ∈ placesL s L
    · rcases List.mem_cons.mp (perm.mem_iff.mp cv) with rfl | hv
      · rw [one1, one0 _ _ (Ne.symm nts), c]
        rfl
      · have nvs : v ≠ s := fun z => ns (z ▸ hv)
        by_cases cvt : v = t
        · subst cvt
          rw [one1, one0 _ _ nvs]
          show over L v = 0 - 1
          rw [h1]
          rfl
        · rw [one0 _ _ nvs, one0 _ _ cvt]
          exact h2 v hv cvt
    · rw [out v cv, one0 v s fun z => cv (z ▸ start_in), one0 v t fun z => cv (z ▸ perm.mem_iff.mpr (List.mem_cons_of_mem _ ht))]
      rfl
  · have c0 : over L s = 0 := by omega
    have hz := low_zero (fun y => over L y) (a ++ b) lz (by omega)
    refine ⟨s, fun v => ?_⟩
    have : over L v = 0 := by
      by_cases cv : v ∈ placesL s L
      · rcases List.mem_cons.mp (perm.mem_iff.mp cv) with rfl | hv
        · exact c0
        · exact hz v hv
      · exact out v cv
    omega
end
end RM
namespace RM
open PySem PySem.Spec PyProof.Rows L2 CS RZ
/-! ### had: some way makes the steps; all ways end at endS -/
def Way (s : Str) (L : List Tri) (p : List Str) : Prop := (pairsOf (s :: p)).Perm (exL L)
section
variable {s : Str} {L : List Tri}
theorem had_iff : hadL s L = true ↔ (∀ p ∈ oversL s L, badN s p (over L p) = false) ∧ farL s L = [] := by
  unfold hadL whyD
  cases e : (oversL s L).find? fun p => badN s p (over L p) with
  | some p =>
    have h1 := List.find?_some e
    have h2 := List.mem_of_find?_eq_some e
    constructor
    · intro h
      cases h
    · rintro ⟨h, _⟩
      rw [h p h2] at h1
      cases h1
  | none =>
    have h1 := List.find?_eq_none.mp e
    cases e2 : farL s L with
    | nil => exact ⟨fun _ => ⟨fun p hp => Bool.eq_false_iff.mpr (h1 p hp), rfl⟩, fun _ => rfl⟩
    | cons y r =>
      constructor
      · intro h
        cases h
      · rintro ⟨_, h⟩
        cases h
theorem bad_zero {p : Str} : badN s p 0 = false := by simp [badN]
theorem had_all (h : ∀ p ∈ oversL s L, badN s p (over L p) = false) : ∀ p ∈ placesL s L, badN s p (over L p) = false := fun p hp => by
  by_cases c : over L p = 0
  · rw [c]
    exact bad_zero
  · exact h p (List.mem_filter.mpr ⟨hp, by simpa using c⟩)
theorem far_nil : farL s L = [] ↔ ∀ y ∈ placesL s L, labL L y = labL L s := by
  unfold farL
  rw [List.filter_eq_nil_iff]
  constructor
  · intro h y hy
    have := h y hy
    rw [decide_eq_true_iff, Decidable.not_not] at this
    exact (mem_cls.mp this).2
  · intro h y hy
    rw [decide_eq_true_iff, Decidable.not_not]
    exact mem_cls.mpr ⟨hy, h y hy⟩
theorem hang_L (hp : ∀ t ∈ L, 0 < t.2.2) (h : farL s L = []) : Hang (exL L) s := fun V hs hV e he => by
  have ht := (mem_ex hp e).mp he
  have key := labs_closed V (L.map pr) id (fun p hq => hV p ((mem_ex hp p).mpr hq)) (fun x y q => by rw [show x = y from q])
  have hy : e.1 ∈ placesL s L := (ties_in e ht).1
  exact (key e.1 s (far_nil.mp h e.1 hy)).mpr hs
theorem way_of_had (hp : ∀ t ∈ L, 0 < t.2.2) (h : hadL s L = true) : ∃ p, Way s L p := by
  obtain ⟨h1, h2⟩ := had_iff.mp h
  obtain ⟨t, ht⟩ := end_of_over (had_all h1)
  obtain ⟨p, w, _⟩ := way_is ((deg_ex fun t ht => Int.le_of_lt (hp t ht)).mpr ht) (hang_L hp h2)
  exact ⟨p, w⟩
theorem way_over (hp : ∀ t ∈ L, 0 < t.2.2) {p : List Str} (w : Way s L p) : ∀ v, over L v = one v s - one v (endOf s p) :=
  (deg_ex fun t ht => Int.le_of_lt (hp t ht)).mp fun v => by
    have := way_deg s p v
    rw [outN_perm w, inN_perm w] at this
    exact this
theorem one_le (a b : Str) : one a b = 0 ∨ one a b = 1 := by
  unfold one
  split
  · exact .inr rfl
  · exact .inl rfl
theorem had_of_way (hp : ∀ t ∈ L, 0 < t.2.2) {p : List Str} (w : Way s L p) : hadL s L = true := by
  refine had_iff.mpr ⟨fun v hv => ?_, far_nil.mpr fun y hy => ?_⟩
  · have h := way_over hp w v
    have a1 := one_le v s
    have a2 := one_le v (endOf s p)
    rw [h]
    by_cases c : v = s
    · unfold badN
      have h1 : ¬ (one v s - one v (endOf s p) < -1) := by omega
      have h2 : ¬ (1 < one v s - one v (endOf s p)) := by omega
      rw [decide_eq_false h1, decide_eq_false h2, decide_eq_true c]
      simp
    · have : one v s = 0 := if_neg c
      unfold badN
      have h1 : ¬ (one v s - one v (endOf s p) < -1) := by omega
      have h2 : ¬ (1 < one v s - one v (endOf s p)) := by omega
      have h3 : ¬ (0 < one v s - one v (endOf s p)) := by omega
      rw [decide_eq_false h1, decide_eq_false h2, decide_eq_false h3]
      simp
  · have key := way_hang s p (fun x => labL L x = labL L s) rfl fun e he => by
      have := labs_tie (L.map pr) id e ((mem_ex hp e).mp (w.mem_iff.mp he))
      show labL L e.1 = _ ↔ labL L e.2 = _
      rw [show labL L e.1 = labL L e.2 from this]
    refine key y ?_
    rcases (places_mem y).mp hy with rfl | ⟨t, ht, h⟩
    · exact List.mem_cons_self ..
    · have := pairs_in s p (pr t) (w.mem_iff.mpr ((mem_ex hp (pr t)).mpr (List.mem_map.mpr ⟨t, ht, rfl⟩)))
      rcases h with rfl | rfl
      · exact this.1
      · exact this.2
theorem way_end (hp : ∀ t ∈ L, 0 < t.2.2) {p : List Str} (w : Way s L p) : endS s L = endOf s p := by
  have h := way_over hp w
  unfold endS
  cases e : (oversL s L).find? fun q => decide (over L q < 0) with
  | some q =>
    have h0 := List.find?_some e
    have h1 : over L q < 0 := of_decide_eq_true h0
    rw [h q] at h1
    have a1 := one_le q s
    by_cases c : q = endOf s p
    · exact c
    · have : one q (endOf s p) = 0 := if_neg c
      omega
  | none =>
    have h1 := List.find?_eq_none.mp e
    by_cases c : s = endOf s p
    · exact c
    · exfalso
      have e1 : one (endOf s p) (endOf s p) = 1 := if_pos rfl
      have e2 : one (endOf s p) s = 0 := if_neg (Ne.symm c)
      have ho := h (endOf s p)
      rw [e1, e2] at ho
      have hin : endOf s p ∈ placesL s L := by
        by_cases z : endOf s p ∈ placesL s L
        · exact z
        · have := over_none (L := L) (p := endOf s p) fun q => z ((places_mem _).mpr (.inr q))
          omega
      have := h1 (endOf s p) (List.mem_filter.mpr ⟨hin, by rw [ho]; decide⟩)
      rw [ho] at this
      exact this (by decide)
end
end RM
namespace RM
open PySem PySem.Spec PyProof.Rows L2 CS RZ
/-! ### one step less -/
def lessT (L : List Tri) (e : Ed) : List Tri := (leftT L [(e.1, e.2, 1)]).filter fun t => decide (0 < t.2.2)
def minus1 (e : Ed) (t : Tri) : Tri := (t.1, t.2.1, t.2.2 - if e = pr t then 1 else 0)
theorem left_one (L : List Tri) (e : Ed) : leftT L [(e.1, e.2, 1)] = L.map (minus1 e) := by
  unfold leftT
  refine List.map_congr_left fun t _ => ?_
  show (t.1, t.2.1, t.2.2 - numAt [(e.1, e.2, 1)] (pr t)) = _
  rw [numAt_cons]
  show (t.1, t.2.1, t.2.2 - if e = pr t then 1 else numAt [] (pr t)) = _
  rfl
theorem pr_minus (e : Ed) (t : Tri) : pr (minus1 e t) = pr t := rfl
section
variable {L : List Tri} {e : Ed}
theorem less_mem {t : Tri} (ht : t ∈ lessT L e) : ∃ u ∈ L, pr u = pr t ∧ 0 < t.2.2 := by
  obtain ⟨h1, h2⟩ := List.mem_filter.mp ht
  rw [left_one] at h1
  obtain ⟨u, hu, rfl⟩ := List.mem_map.mp h1
  exact ⟨u, hu, rfl, of_decide_eq_true h2⟩
theorem less_pr : ((lessT L e).map pr).Sublist (L.map pr) := by
  unfold lessT
  rw [left_one]
  have h1 : ((L.map (minus1 e)).map pr) = L.map pr := by rw [List.map_map]; rfl
  rw [← h1]
  exact List.filter_sublist.map pr
theorem less_cn (c : Cn L) : Cn (lessT L e) where
  g := fun t ht => by
    obtain ⟨u, hu, q, _⟩ := less_mem ht
    rw [← q]
    exact c.g u hu
  fine := fun t ht => by
    obtain ⟨u, hu, q, q2⟩ := less_mem ht
    have h1 : u.1 = t.1 := congrArg (fun p : Str × Str => p.1) q
    have h2 : u.2.1 = t.2.1 := congrArg (fun p : Str × Str => p.2) q
    rw [← h1, ← h2]
    exact ⟨(c.fine u hu).1, Int.le_of_lt q2⟩
  pos := fun t ht => (less_mem ht).choose_spec.2.2
  len := by
    have := less_pr (L := L) (e := e).length_le
    rw [List.length_map, List.length_map] at this
    exact Nat.le_trans this c.len
  nd := c.nd.sublist less_pr
  pw := c.pw.sublist less_pr
theorem ex_filter : ∀ l : List Tri, exL (l.filter fun t => decide (0 < t.2.2)) = exL l
  | [] => rfl
  | t :: l => by
    have ih := ex_filter l
    have e1 : exL (t :: l) = List.replicate t.2.2.toNat (pr t) ++ exL l := by unfold exL; rw [List.flatMap_cons]
    rw [List.filter_cons, e1, ← ih]
    by_cases c : 0 < t.2.2
    · rw [if_pos (decide_eq_true c)]
      unfold exL
      rw [List.flatMap_cons]
    · rw [if_neg (by simpa using c)]
      have : t.2.2.toNat = 0 := by omega
      rw [this]
      rfl
theorem minus_same : ∀ l : List Tri, (∀ t ∈ l, pr t ≠ e) → l.map (minus1 e) = l
  | [], _ => rfl
  | t :: l, h => by
    rw [List.map_cons, minus_same l fun u hu => h u (List.mem_cons_of_mem _ hu)]
    congr 1
    have := h t (List.mem_cons_self ..)
    show (t.1, t.2.1, t.2.2 - if e = pr t then 1 else 0) = t
    rw [if_neg (Ne.symm this), Int.sub_zero]
theorem less_perm (c : Cn L) (he : e ∈ L.map pr) : (exL L).Perm (e :: exL (lessT L e)) := by
  unfold lessT
  rw [ex_filter, left_one]
  obtain ⟨t, ht, rfl⟩ := List.mem_map.mp he
  obtain ⟨A, B, rfl⟩ := List.append_of_mem ht
  have nd := c.nd
  rw [List.map_append, List.map_cons] at nd
  have nA : ∀ u ∈ A, pr u ≠ pr t := fun u hu q => (List.nodup_append.mp nd).2.2 (pr u) (List.mem_map_of_mem hu) (pr t) (List.mem_cons_self ..) q
  have nB : ∀ u ∈ B, pr u ≠ pr t := fun u hu q => (List.nodup_cons.mp (List.nodup_append.mp nd).2.1).1 (by rw [← q]; exact List.mem_map_of_mem hu)
  have hp := c.pos t ht
  rw [List.map_append, List.map_cons, minus_same A nA, minus_same B nB]
  have e1 : ∀ u : Tri, exL (A ++ u :: B) = exL A ++ (List.replicate u.2.2.toNat (pr u) ++ exL B) := fun u => by
    unfold exL
    rw [List.flatMap_append, List.flatMap_cons]
  rw [e1, e1]
  have e2 : (minus1 (pr t) t).2.2.toNat = t.2.2.toNat - 1 := by
    show (t.2.2 - if pr t = pr t then 1 else 0).toNat = _
    rw [if_pos rfl]
    omega
  rw [e2, pr_minus]
  have e3 : t.2.2.toNat = (t.2.2.toNat - 1) + 1 := by omega
  have e4 : List.replicate t.2.2.toNat (pr t) = pr t :: List.replicate (t.2.2.toNat - 1) (pr t) := by
    rw [e3, List.replicate_succ]
    rfl
  rw [e4]
  exact List.perm_middle
end
section
variable {s b : Str} {L : List Tri} {p : List Str}
theorem way_cons (c : Cn L) : Way s L (b :: p) ↔ (s, b) ∈ L.map pr ∧ Way b (lessT L (s, b)) p := by
  unfold Way
  show ((s, b) :: pairsOf (b :: p)).Perm (exL L) ↔ _
  constructor
  · intro h
    have hm : (s, b) ∈ L.map pr := (mem_ex c.pos _).mp (h.mem_iff.mp (List.mem_cons_self ..))
    exact ⟨hm, List.Perm.cons_inv (h.trans (less_perm c hm))⟩
  · rintro ⟨hm, h⟩
    exact (List.Perm.cons (s, b) h).trans (less_perm c hm).symm
theorem ex_len : ∀ L : List Tri, (∀ t ∈ L, 0 ≤ t.2.2) → ((exL L).length : Int) = (L.map fun t => t.2.2).sum
  | [], _ => rfl
  | t :: l, h => by
    have ih := ex_len l fun u hu => h u (List.mem_cons_of_mem _ hu)
    have h0 := h t (List.mem_cons_self ..)
    have e1 : exL (t :: l) = List.replicate t.2.2.toNat (pr t) ++ exL l := by unfold exL; rw [List.flatMap_cons]
    rw [e1, List.length_append, List.length_replicate, List.map_cons, List.sum_cons, ← ih]
    omega
theorem less_len (c : Cn L) (he : (s, b) ∈ L.map pr) : (exL L).length = (exL (lessT L (s, b))).length + 1 := (less_perm c he).length_eq
/-- the first steps of all ways -/
def openS (s : Str) (L : List Tri) : List Str := ((L.filter fun t => decide (t.1 = s)).map fun t => t.2.1).filter fun b => hadL b (lessT L (s, b))
theorem open_mem (c : Cn L) : b ∈ openS s L ↔ ∃ p, Way s L (b :: p) := by
  unfold openS
  rw [List.mem_filter, List.mem_map]
  constructor
  · rintro ⟨⟨t, ht, rfl⟩, h⟩
    obtain ⟨h1, h2⟩ := List.mem_filter.mp ht
    have h3 := of_decide_eq_true h2
    obtain ⟨p, w⟩ := way_of_had (less_cn c).pos h
    exact ⟨p, (way_cons c).mpr ⟨List.mem_map.mpr ⟨t, h1, by rw [← h3]; rfl⟩, w⟩⟩
  · rintro ⟨p, w⟩
    obtain ⟨hm, w⟩ := (way_cons c).mp w
    obtain ⟨t, ht, e⟩ := List.mem_map.mp hm
    refine ⟨⟨t, List.mem_filter.mpr ⟨ht, decide_eq_true (congrArg (fun p : Str × Str => p.1) e)⟩, congrArg (fun p : Str × Str => p.2) e⟩, had_of_way (less_cn c).pos w⟩
end
end RM
namespace RM
open PySem PySem.Spec PyProof.Rows L2 CS RZ
/-! ### not in, of an own class -/
/-! ### gone, open_steps, some_journey -/
end RM
namespace RM
open PySem PySem.Spec PyProof.Rows L2 CS RZ
/-! ### a, b = [], [..]: two new lists -/
end RM
namespace RM
open PySem PySem.Spec PyProof.Rows L2 CS RZ
/-! ### all ways, by following -/
abbrev Nd := List Str × Str × List Tri
def kids (L : List Tri) (u : Str) : List Tri := L.filter fun t => decide (t.1 = u)
def kid (x : Nd) (t : Tri) : Nd := (x.1 ++ [x.2.1], t.2.1, lessT x.2.2 (pr t))
def nodes : Nat → Nd → Nat
  | 0, _ => 1
  | m + 1, x => 1 + ((kids x.2.2 x.2.1).map fun t => nodes m (kid x t)).sum
def sz (x : Nd) : Nat := (exL x.2.2).length
abbrev nn (x : Nd) : Nat := nodes (sz x) x
structure NOk (x : Nd) : Prop where
  g : ∀ y ∈ x.1 ++ [x.2.1], GoodS y
  c : Cn x.2.2
  l : x.1.length + sz x ≤ 50
theorem kids_in {L : List Tri} {u : Str} {t : Tri} (h : t ∈ kids L u) : t ∈ L ∧ t.1 = u := by
  obtain ⟨h1, h2⟩ := List.mem_filter.mp h
  exact ⟨h1, of_decide_eq_true h2⟩
theorem kid_sz {x : Nd} {t : Tri} (c : Cn x.2.2) (h : t ∈ x.2.2) : sz x = sz (kid x t) + 1 := (less_perm (e := pr t) c (List.mem_map_of_mem h)).length_eq
theorem NOk.kid {x : Nd} (h : NOk x) {t : Tri} (ht : t ∈ kids x.2.2 x.2.1) : NOk (kid x t) where
  g := fun y hy => by
    rcases List.mem_append.mp hy with hy | hy
    · exact h.g y hy
    · rw [List.mem_singleton.mp hy]
      exact (h.c.g t (kids_in ht).1).2
  c := less_cn h.c
  l := by
    have := kid_sz h.c (kids_in ht).1
    have := h.l
    show (x.1 ++ [x.2.1]).length + _ ≤ 50
    rw [List.length_append, List.length_singleton]
    omega
/-! how many there can be -/
def nb : Nat → Nat
  | 0 => 1
  | m + 1 => 1 + (m + 1) * nb m
theorem sum_bound {α : Type} (f : α → Nat) (k : Nat) : ∀ l : List α, (∀ a ∈ l, f a ≤ k) → (l.map f).sum ≤ l.length * k
  | [], _ => Nat.zero_le _
  | a :: l, h => by
    have h1 := h a (List.mem_cons_self ..)
    have h2 := sum_bound f k l fun b hb => h b (List.mem_cons_of_mem _ hb)
    rw [List.map_cons, List.sum_cons, List.length_cons, Nat.add_mul]
    omega
theorem len_ex : ∀ L : List Tri, (∀ t ∈ L, 0 < t.2.2) → L.length ≤ (exL L).length
  | [], _ => Nat.le_refl _
  | t :: L, h => by
    have ih := len_ex L fun u hu => h u (List.mem_cons_of_mem _ hu)
    have h0 := h t (List.mem_cons_self ..)
    have e1 : exL (t :: L) = List.replicate t.2.2.toNat (pr t) ++ exL L := by unfold exL; rw [List.flatMap_cons]
    rw [e1, List.length_append, List.length_replicate, List.length_cons]
    omega
/-! what they are -/
end RM
namespace RM
open PySem PySem.Spec PyProof.Rows L2 CS RZ
/-! ### k10: one less, and all ways, over data -/
end RM
namespace RM
open PySem PySem.Spec PyProof.Rows L2 CS RZ
/-! ### k10: a case -/
end RM
namespace RM
open PySem PySem.Spec PyProof.Rows L2 CS RZ
/-! ### sorted(set(e)), e a long list of few texts -/
section
variable {P : Program} {w : World} {A : Around} {E : Value → Shared → Prop} {s : Shared} {a : Addr} {ss : List Str}
theorem tx_nodup {h : Heap} (R : TxSet P w a ss h) : ss.Nodup := by
  obtain ⟨o, es, ep, t, ho, hx, hd, L⟩ := R
  exact L.nd
theorem tx_fillB {I : Addr} {fp wr : List Addr} {G : Array GenState → Array GenState → Prop} {n : Nat} {Pv : Nat → Value → Prop} {St : Nat → Shared → Prop} {R : Result → Shared → Prop}
    (W : WalksS P w A.in1 I fp wr G n Pv St) (S : Addr) (hSf : S ∉ fp) (ns : List Str) (hn : n = ns.length) (hb : ∀ cs : List Str, cs.Nodup → (∀ x ∈ cs, x ∈ ns) → cs.length + 1 < scanBound) (hval : ∀ i v, Pv i v → ∃ z t, ns[i]? = some z ∧ v = .str z t) :
    ∀ (k i : Nat) (s : Shared), n - i = k → i ≤ n → St i s → TxUp P w S ns i s.heap →
      (∀ s', Moved (S :: wr) G s s' → TxUp P w S ns n s'.heap → R (.ok (.ret .none)) s') →
      codeAny (model P w) A (.builtin "set.update.loop" ⟨[.ref S, .ref I], []⟩) R s := by
  have hSw : S ∉ wr := fun h => hSf (W.sub _ h)
  have hsub : ∀ b ∈ wr, b ∈ S :: wr := fun b hb => List.mem_cons_of_mem _ hb
  intro k
  induction k with
  | zero =>
    intro i s hk hi hst ⟨cs, hS, hc, hm⟩ hR
    obtain rfl : i = n := by omega
    refine codeAny_builtin F.entry_set_update_loop ?_
    rw [Around.under_plainId F.plain_set_update_loop _]
    show wpAny _ A.in1 (pyNext (.ref I) >>= _) _ _ s
    refine wpAny_bind (W.done s _ _ hst fun s' mv => ?_)
    show wpAny _ A.in1 (ret Value.none) _ _ s'
    exact wpAny_pure (hR s' (mv.mono hsub) ⟨cs, hS.at fun o e => mv.heap S o hSw e, hc, hm⟩)
  | succ k ih =>
    intro i s hk hi hst ⟨cs, hS, hc, hm⟩ hR
    have hlt : i < n := by omega
    refine codeAny_builtin F.entry_set_update_loop ?_
    rw [Around.under_plainId F.plain_set_update_loop _]
    show wpAny _ A.in1 (pyNext (.ref I) >>= _) _ _ s
    refine wpAny_bind (W.item i s _ _ hlt hst fun v s' hP hst' mv => ?_)
    obtain ⟨z, t, hz, rfl⟩ := hval i v hP
    have hS' : TxSet P w S cs s'.heap := hS.at fun o e => mv.heap S o hSw e
    show wpAny _ A.in1 (holding [Value.str z t] (setAdd S (.str z t)) >>= _) _ _ s'
    refine wpAny_bind (wpAny_holding ?_)
    unfold setAdd
    refine wpAny_holding ?_
    refine wpAny_bind ((PySem.strKind P w).pyHash (k := z) (strKind_is P w z t) ?_)
    refine tx_add (s := { s' with toks := s'.toks + 1 }) hS' (hb cs (tx_nodup hS') fun x hx => List.mem_of_mem_take ((hm x).mp hx)) fun h' b sb hS2 => ?_
    have up : TxUp P w S ns (i + 1) h' := ⟨_, hS2, by split <;> (try rw [List.length_cons]) <;> omega, fun x => by
      rw [List.take_add_one, hz, List.mem_append, ← hm x]
      by_cases c : z ∈ cs
      · rw [if_pos c]
        exact ⟨.inl, fun q => q.elim id fun q => by rw [show x = z by simpa using q]; exact c⟩
      · rw [if_neg c, List.mem_cons]
        constructor
        · rintro (rfl | q)
          · exact .inr (by simp)
          · exact .inl q
        · rintro (q | q)
          · exact .inr q
          · exact .inl (by simpa using q)⟩
    refine wpAny_pure ⟨plainId_quiet F.plain_set_update_loop _, ih (i + 1) _ (by omega) hlt (W.frame _ s' _ _ hst' (Nat.le_succ _) fun b hb o e => ?_) up fun s'' mv2 up2 => ?_⟩
    · rw [sb.2 b fun q => hSf (q ▸ hb)]
      exact e
    · refine hR s'' (Moved.trans W.gtrans ((mv.mono hsub).then_heap (Nat.le_succ _) fun b o hb e => ?_) mv2) up2
      rw [sb.2 b fun q => hb (by rw [q]; exact List.mem_cons_self)]
      exact e
theorem tx_initB {S l : Addr} {items : Array Value} {ns : List Str} {Q : PySem.Fin → Shared → Prop} (hh : A.handled = none) (hS : s.heap.get? S = some (newSet w)) (hne : l ≠ S) (hl : s.heap.IsList l items) (hn : items.size = ns.length) (hb : ∀ cs : List Str, cs.Nodup → (∀ x ∈ cs, x ∈ ns) → cs.length + 1 < scanBound)
    (hit : ∀ (i : Nat) (v : Value), items[i]? = some v → ∃ z t, ns[i]? = some z ∧ v = .str z t) (q : ∀ h' tk, TxFull P w S ns s.heap h' → Q (.done (.ret .none)) { s with heap := h', toks := tk }) :
    wpAny (model P w) A.in1 (Builtin.«set.__init__» ⟨[.ref S, .ref l], []⟩) Q E s := by
  have hT : Shared.TypeIs s (.ref S) "set" := ⟨_, hS, rfl⟩
  obtain ⟨ol, hol, hcl, nl, hdl⟩ := id hl
  obtain ⟨ocls, odict, odata, oslots⟩ := ol
  simp only at hcl hdl
  subst hcl; subst hdl
  have y1 := F.sub_list_set
  have y2 := F.sub_list_frozenset
  have y3 : (Value.type "list" == Value.type "dict") = false := by decide
  unfold Builtin.«set.__init__» noKeywords Builtin.Frozenset.updateFrom
  generalize hPI : pyIter = PI
  wp_walk
  subst hPI
  refine wpAny_pyIter_list hl ?_
  refine wpAny_bind (wpAny_runValue ?_)
  have lS := Heap.lt_size hS
  have ll := Heap.lt_size hol
  have up : ∀ {b : Addr} {o : Obj} (u : Obj), s.heap.get? b = some o → (s.heap.push u).get? b = some o := fun u e => Heap.get?_push_of_some u e
  have hSf : S ∉ [s.heap.objs.size, l] := by
    rw [List.mem_cons, List.mem_singleton, not_or]
    exact ⟨Nat.ne_of_lt lS, fun z => hne z.symm⟩
  have hb0 : A.in1.in1.handled = none := by simp [hh]
  refine tx_fillB (Walks.list hb0 s.heap.objs.size l (Nat.ne_of_lt ll) items).toS S hSf ns hn hb hit _ 0 _ rfl (Nat.zero_le _) ?g2 ?g0 ?g1
  case g2 => exact ⟨⟨_, Heap.get?_push_size _ rfl, rfl, rfl⟩, hl.push _⟩
  case g0 => exact ⟨[], newSet_tx (up _ hS), Nat.le_refl _, fun x => by simp⟩
  case g1 =>
    rintro ⟨h', g2, d', tk', os'⟩ mv ⟨cs, hc, _, hm⟩
    obtain rfl : g2 = s.gens := mv.gens
    obtain rfl : d' = s.drawn := mv.drawn
    obtain rfl : os' = s.os := mv.os
    show wpAny _ _ _ _ _ _
    refine wpAny_pure ?_
    show wpAny _ _ (ret Value.none) _ _ _
    refine wpAny_pure (q h' tk' ⟨⟨cs, hc, fun x => ?_⟩, fun b o hbS e => mv.heap b o ?_ (up _ e)⟩)
    · rw [hm, hn, List.take_length]
    · rw [List.mem_cons, List.mem_singleton, not_or]
      exact ⟨hbS, Nat.ne_of_lt (Heap.lt_size e)⟩
theorem call_setTB {l : Addr} {items : Array Value} {ns : List Str} {Q : Value → Shared → Prop} (hh : A.handled = none) (hl : s.heap.IsList l items) (hn : items.size = ns.length) (hb : ∀ cs : List Str, cs.Nodup → (∀ x ∈ cs, x ∈ ns) → cs.length + 1 < scanBound)
    (hit : ∀ (i : Nat) (v : Value), items[i]? = some v → ∃ z t, ns[i]? = some z ∧ v = .str z t) (q : ∀ h' tk, TxFull P w s.heap.objs.size ns s.heap h' → Q (.ref s.heap.objs.size) { s with heap := h', toks := tk }) :
    wpAny (model P w) A (call (.type "set") [.ref l]) Q E s := by
  have lim0 := Heap.lt_size (show s.heap.get? l = some _ from hl.choose_spec.1)
  have nS : (s.heap.push (newSet w)).get? s.heap.objs.size = some (newSet w) := Heap.get?_push_size _ rfl
  have tS : Shared.TypeIs { s with heap := s.heap.push (newSet w) } (.ref s.heap.objs.size) "set" := ⟨_, nS, rfl⟩
  have m1 := F.called_set.mro
  have m2 := F.called_set.made
  have m3 := F.called_set.sub
  have m4 := F.called_set.notType
  have m5 := F.called_set.canCreate
  have m6 := F.typeCall_set_1 (.ref l)
  have m7 := F.called_set.init.lookup
  have m8 := F.called_set.init.bind (.ref s.heap.objs.size)
  obtain ⟨c1, c2, m1⟩ := m1
  refine wpAny_call (codeAny_of_tree ?_)
  show wpAny _ _ (callAny (.type "set") _) _ _ _
  refine wpAny_pure ⟨Code.quiet_builtin _ (by decide +kernel), codeAny_builtin F.entry_type_call ?_⟩
  rw [Around.under_plain (weight_type_call_type "set" [.ref l] []) rfl]
  repeat any_goals first | assumption | wp_step
  refine codeAny_mono (code_set_led1 (.ref l) (E := E) (Q₁ := fun r s1 => r = .ref s.heap.objs.size ∧ s1 = { s with heap := s.heap.push (newSet w) }) ⟨rfl, rfl⟩) fun r s1 hr => ?_
  match r, hr with
  | .error e, hr => exact hr
  | .ok (.ret r), hr =>
    obtain ⟨rfl, rfl⟩ := hr
    repeat any_goals first | assumption | wp_step
    refine codeAny_mono (codeAny_call_builtin (R := wants (fun r s2 => r = .none ∧ ∃ h' tk, s2 = { s with heap := h', toks := tk } ∧ TxFull P w s.heap.objs.size ns s.heap h') E) F.called_set.init.plain F.entry_set_init (check_set_init_1 tS ?_)) fun r2 s2 hr2 => ?_
    · refine tx_initB (A := A.in1) (by simp [hh]) nS (Nat.ne_of_lt lim0) (hl.push _) hn hb hit fun h' tk ⟨t1, t2⟩ => ?_
      exact ⟨rfl, h', tk, rfl, t1, fun b o z e => t2 b o z (Heap.get?_push_of_some _ e)⟩
    · match r2, hr2 with
      | .error e, hr2 => exact hr2
      | .ok (.ret r2), hr2 =>
        obtain ⟨rfl, h', tk, rfl, t⟩ := hr2
        repeat any_goals first | assumption | wp_step
        exact q h' tk t
end
end RM
namespace RM
open PySem PySem.Spec PyProof.Rows L2 CS RZ
/-! ### k10: the case, to its end -/
end RM
namespace RM
open PySem PySem.Spec PyProof.Rows L2 CS RZ
/-! ### k10: near, and a drawn turn -/
def totT (l : List Tri) : Int := (l.map fun t => t.2.2).sum
theorem totT_cons (t : Tri) (l : List Tri) : totT (t :: l) = t.2.2 + totT l := by
  unfold totT
  rw [List.map_cons, List.sum_cons]
theorem some_of : ∀ (ps : List (Str × Str)) (q : Str × Str) (x : Int), ps.Nodup → 0 ≤ x → (ps.map fun p => if q = p then x else 0).sum ≤ x
  | [], q, x, _, h => h
  | p :: ps, q, x, hn, h => by
    obtain ⟨h1, h2⟩ := List.nodup_cons.mp hn
    rw [List.map_cons, List.sum_cons]
    by_cases c : q = p
    · rw [if_pos c]
      have : (ps.map fun p => if q = p then x else 0).sum = 0 := by
        have key : ∀ ps : List (Str × Str), q ∉ ps → (ps.map fun p => if q = p then x else 0).sum = 0 := by
          intro ps
          induction ps with
          | nil => intro _; rfl
          | cons a ps ih =>
            intro hq
            rw [List.mem_cons, not_or] at hq
            rw [List.map_cons, List.sum_cons, if_neg hq.1, ih hq.2]
            rfl
        exact key ps (c ▸ h1)
      omega
    · rw [if_neg c]
      have := some_of ps q x h2 h
      omega
theorem sum_some (ps : List (Str × Str)) (hn : ps.Nodup) : ∀ l : List Tri, (∀ t ∈ l, 0 ≤ t.2.2) → (ps.map (sumAt l)).sum ≤ totT l
  | [], _ => by
    have key : ∀ ps : List (Str × Str), (ps.map (sumAt [])).sum = 0 := by
      intro ps
      induction ps with
      | nil => rfl
      | cons a ps ih =>
        rw [List.map_cons, List.sum_cons, ih]
        rfl
    rw [key]
    exact Int.le_refl 0
  | t :: l, h => by
    have h1 := sum_some ps hn l fun u hu => h u (List.mem_cons_of_mem _ hu)
    have h2 := some_of ps (pr t) t.2.2 hn (h t (List.mem_cons_self ..))
    rw [totT_cons]
    have key : ∀ ps : List (Str × Str), (ps.map (sumAt (t :: l))).sum = (ps.map fun p => if pr t = p then t.2.2 else 0).sum + (ps.map (sumAt l)).sum := by
      intro ps
      induction ps with
      | nil => rfl
      | cons a ps ih =>
        simp only [List.map_cons, List.sum_cons]
        rw [ih, sumAt_cons]
        omega
    rw [key]
    omega
theorem tot_canon {l : List Tri} (h : ∀ t ∈ l, 0 ≤ t.2.2) : totT (canon l) ≤ totT l := by
  have e1 : totT (canon l) = (((canon l).map pr).map (sumAt l)).sum := by
    unfold totT
    rw [List.map_map]
    exact congrArg List.sum (List.map_congr_left fun t ht => (canon_mem ht).2.2)
  rw [e1]
  exact sum_some _ (canon_nodup l) l h
structure Nc (m : Int) (ss : List Str) (l : List Tri) : Prop where
  ok : ∀ t ∈ l, t.1 ∈ ss ∧ t.2.1 ∈ ss ∧ t.1 ≠ t.2.1 ∧ 0 ≤ t.2.2
  len : l.length ≤ 30
  tot : totT l ≤ m
theorem Nc.fine {m : Int} {ss : List Str} {l : List Tri} (h : Nc m ss l) : Fine l := fun t ht => (h.ok t ht).2.2
theorem Nc.ex {ss : List Str} {l : List Tri} (h : Nc 10 ss l) : (exL (canon l)).length ≤ 10 := by
  have h1 := ex_len (canon l) fun t ht => Int.le_of_lt (canon_mem ht).2.1
  have h2 := tot_canon fun t ht => (h.ok t ht).2.2.2
  have h3 := h.tot
  unfold totT at h2 h3
  omega
/-! ### a drawn turn -/
end RM
namespace RM
open PySem PySem.Spec PyProof.Rows L2 CS RZ
/-! ### a value-level expression inside a bare one -/
/-! ### k10: the six given cases -/
end RM
namespace RM
open PySem PySem.Spec PyProof.Rows L2 CS RZ
/-! ### k11: the first of all journeys is the least one -/
end RM
namespace RM
open PySem PySem.Spec PyProof.Rows L2 CS RZ
/-! ### all journeys of at most eleven steps over at most six places -/
theorem nd_len : ∀ (xs ss : List Str), xs.Nodup → (∀ x ∈ xs, x ∈ ss) → xs.length ≤ ss.length
  | [], _, _, _ => Nat.zero_le _
  | x :: xs, ss, hn, h => by
    obtain ⟨h1, h2⟩ := List.nodup_cons.mp hn
    have h3 := h x (List.mem_cons_self ..)
    have h4 := nd_len xs (ss.erase x) h2 fun y hy => (List.mem_erase_of_ne (fun z : y = x => h1 (by rw [← z]; exact hy))).mpr (h y (List.mem_cons_of_mem _ hy))
    have h5 := List.length_erase_of_mem h3
    have h6 := List.length_pos_of_mem h3
    rw [List.length_cons]
    omega
def nb5 : Nat → Nat
  | 0 => 1
  | m + 1 => 1 + min (m + 1) 5 * nb5 m
theorem nb5_eleven : nb5 11 = 5097656 := by decide
theorem nb5_mono : ∀ {a b : Nat}, a ≤ b → nb5 a ≤ nb5 b
  | a, 0, h => by
    have : a = 0 := by omega
    rw [this]
    exact Nat.le_refl _
  | a, b + 1, h => by
    by_cases c : a = b + 1
    · rw [c]
      exact Nat.le_refl _
    · have h1 := nb5_mono (a := a) (b := b) (by omega)
      show nb5 a ≤ 1 + min (b + 1) 5 * nb5 b
      have h2 : nb5 b ≤ min (b + 1) 5 * nb5 b := Nat.le_mul_of_pos_left _ (by omega)
      omega
theorem kids_five {L : List Tri} {u : Str} {ss : List Str} (c : Cn L) (h : ∀ t ∈ L, t.1 ∈ ss ∧ t.2.1 ∈ ss) (h6 : ss.length ≤ 6) : (kids L u).length ≤ 5 := by
  cases e : kids L u with
  | nil => exact Nat.zero_le _
  | cons t0 r =>
    rw [← e]
    have hu : u ∈ ss := by
      have h1 := kids_in (L := L) (u := u) (t := t0) (by rw [e]; exact List.mem_cons_self ..)
      rw [← h1.2]
      exact (h t0 h1.1).1
    have nd : ((kids L u).map fun t => t.2.1).Nodup := by
      have nf : ((kids L u).map pr).Nodup := c.nd.sublist (List.filter_sublist.map _)
      refine List.pairwise_map.mpr ((List.pairwise_map.mp nf).imp_of_mem fun {t v} ht hv h z => h ?_)
      show (t.1, t.2.1) = (v.1, v.2.1)
      rw [(kids_in ht).2, (kids_in hv).2, z]
    have := nd_len (u :: (kids L u).map fun t => t.2.1) ss (List.nodup_cons.mpr ⟨fun z => by
      obtain ⟨t, ht, e2⟩ := List.mem_map.mp z
      obtain ⟨h1, h2⟩ := kids_in ht
      exact (c.fine t h1).1 (by rw [h2, e2]), nd⟩) fun y hy => by
      rcases List.mem_cons.mp hy with rfl | hy
      · exact hu
      · obtain ⟨t, ht, rfl⟩ := List.mem_map.mp hy
        exact (h t (kids_in ht).1).2
    rw [List.length_cons, List.length_map] at this
    omega
theorem nodes_five {ss : List Str} (h6 : ss.length ≤ 6) : ∀ (m : Nat) (x : Nd), NOk x → sz x = m → (∀ t ∈ x.2.2, t.1 ∈ ss ∧ t.2.1 ∈ ss) → nodes m x ≤ nb5 m
  | 0, x, _, _, _ => Nat.le_refl _
  | m + 1, x, h, hm, hs => by
    have h1 := sum_bound (fun t => nodes m (kid x t)) (nb5 m) (kids x.2.2 x.2.1) fun t ht => nodes_five h6 m (kid x t) (h.kid ht) (by have := kid_sz h.c (kids_in ht).1; omega) fun u hu => by
      obtain ⟨v, hv, e1, _⟩ := less_mem hu
      have := hs v hv
      have e2 : v.1 = u.1 := congrArg (fun p : Str × Str => p.1) e1
      have e3 : v.2.1 = u.2.1 := congrArg (fun p : Str × Str => p.2) e1
      rw [e2, e3] at this
      exact this
    have h2 : (kids x.2.2 x.2.1).length ≤ m + 1 := by
      have a1 : (kids x.2.2 x.2.1).length ≤ x.2.2.length := List.length_filter_le _ _
      have a2 := len_ex x.2.2 h.c.pos
      have a3 : (exL x.2.2).length = m + 1 := hm
      omega
    have h5 := kids_five (u := x.2.1) h.c hs h6
    have h3 : (kids x.2.2 x.2.1).length * nb5 m ≤ min (m + 1) 5 * nb5 m := Nat.mul_le_mul_right _ (by omega)
    show 1 + _ ≤ 1 + min (m + 1) 5 * nb5 m
    omega
theorem nn_five {ss : List Str} {s : Str} {L : List Tri} (gs : GoodS s) (c : Cn L) (h6 : ss.length ≤ 6) (hs : ∀ t ∈ L, t.1 ∈ ss ∧ t.2.1 ∈ ss) (hl : (exL L).length ≤ 11) : nn ([], s, L) ≤ 9864101 := by
  have ok : NOk ([], s, L) := ⟨fun y hy => by rw [List.mem_singleton.mp hy]; exact gs, c, by show 0 + (exL L).length ≤ 50; omega⟩
  have h1 := nodes_five h6 (sz ([], s, L)) ([], s, L) ok rfl hs
  have h2 := nb5_mono (a := sz ([], s, L)) (b := 11) hl
  rw [nb5_eleven] at h2
  have h3 : nn ([], s, L) = nodes (sz ([], s, L)) ([], s, L) := rfl
  omega
end RM
namespace RM
open PySem PySem.Spec PyProof.Rows L2 CS RZ
/-! ### k11: gone, also where there is no such step -/
end RM
namespace RM
open PySem PySem.Spec PyProof.Rows L2 CS RZ
/-! ### k11: a drawn turn -/
def sdRight11 : SpD := fun ds n k _ => ds = [boxD] ∧ n = 0 ∧ ∀ n', k (.bool true) n'
end RM
namespace RM
open PySem PySem.Spec PyProof.Rows L2 CS RZ
/-! ### k11: what is left, or what lacks -/
end RM
namespace RM
open PySem PySem.Spec PyProof.Rows L2 CS RZ
/-! ### v = f(m); if t: return ..; v.append(e), f's list being new: behind it v is not read -/
end RM
namespace RM
open PySem PySem.Spec PyProof.Rows L2 CS RZ
/-! ### k11: a case, its beginning -/
end RM
namespace RM
open PySem PySem.Spec PyProof.Rows L2 CS RZ
/-! ### k11: a case, its middle -/
end RM
namespace RM
open PySem PySem.Spec PyProof.Rows L2 CS RZ
/-! ### k11: a case, its end -/
end RM
namespace RM
open PySem PySem.Spec PyProof.Rows L2 CS RZ
/-! ### f(k2 = x, k1 = y): a def called by names, in another order -/
def pickL {α : Type} (is : List Nat) (l : List α) : List α := is.filterMap fun i => l[i]?
theorem IsL.pick {T : Tab} {H : Hp} {v : List V} {d : List D} (h : IsL T H v d) : ∀ is : List Nat, IsL T H (pickL is v) (pickL is d)
  | [] => .nil
  | i :: is => by
    have ih := h.pick is
    unfold pickL at ih ⊢
    rw [List.filterMap_cons, List.filterMap_cons]
    cases e : d[i]? with
    | none =>
      have e2 : v[i]? = none := by
        rw [List.getElem?_eq_none_iff] at e ⊢
        rw [h.length]
        exact e
      rw [e2]
      exact ih
    | some x =>
      obtain ⟨y, e2, r⟩ := h.get e
      rw [e2]
      exact .cons r ih
theorem vals_at : ∀ {vs : List V} {us : List Value}, Vals vs us → ∀ i : Nat, (vs[i]? = none ∧ us[i]? = none) ∨ ∃ v u, vs[i]? = some v ∧ us[i]? = some u ∧ Vals [v] [u]
  | _, _, .nil, i => .inl ⟨rfl, rfl⟩
  | _, _, .cons h r, 0 => .inr ⟨_, _, rfl, rfl, .cons h .nil⟩
  | _, _, .cons h r, i + 1 => by
    rw [List.getElem?_cons_succ, List.getElem?_cons_succ]
    exact vals_at r i
theorem vals_pick {vs : List V} {us : List Value} (h : Vals vs us) : ∀ is : List Nat, Vals (pickL is vs) (pickL is us)
  | [] => .nil
  | i :: is => by
    have ih := vals_pick h is
    unfold pickL at ih ⊢
    rw [List.filterMap_cons, List.filterMap_cons]
    rcases vals_at h i with ⟨e1, e2⟩ | ⟨v, u, e1, e2, r⟩
    · rw [e1, e2]
      exact ih
    · rw [e1, e2]
      cases r with
      | cons r _ => exact .cons r ih
structure HasFP (P : Program) (w : World) (K : PySem.W.Frag) (mg : Str → Option Value) (base : Heap) (CX : CXT) (g : Glob) (k : Nat) (x : Str) (ps ks : List Str) (is : List Nat) (sd : SpD) : Prop where
  ex : ∃ f fd, FnOk P w K mg base CX k f fd ps (spD g sd) ∧ (∃ gs, KBn K fd ps 0 ks gs (fun vs zs => vs ++ pickL is zs)) ∧ PySem.W.keepIn K (.ref f) = true ∧ mg x = some (.ref f)
def cCallP (N : Nat) (is : List Nat) (sd : SpD) (ta : CA) : CE := fun ρ n k ke => ta ρ n (fun ds ρ1 n1 => ds.length = N ∧ sd (pickL is ds) n1 (fun d n2 => k d ρ1 n2) (fun y n2 => ke y ρ1 n2)) ke
section
variable {X : Cx} {g : Glob} {xk : WX} {pos p : Pos} {CX : CXT} {j k : Nat} {x : Str} {ps ks : List Str} {is : List Nat} {ta : CA} {sd : SpD}
theorem pd_funP {kws : List Keyword} (h : HasFP X.prog X.w X.K X.mg X.base CX g j x ps ks is sd) (hr : Room k X.A) (l : j ≤ k) (hg : Gl X x) (hx : ∀ σ, PassesAt CX X σ (WE xk σ)) (ha : PDKw X g xk kws ta)
    (hall : (backToKw pos (keywordEach kws X.env)).all (·.1.isSome) = true := by rfl) (hks : (backToKw pos (keywordEach kws X.env)).filterMap (·.1) = ks := by rfl) (hdb : (x == ("__debug__" : Str)) = false := by decide)
    (hpl : ((backTo pos (starEach [] X.env)).any (·.1) || (backToKw pos (keywordEach kws X.env)).any (·.1.isNone)) = false := by rfl) : PD X g xk (.Call (.Name x p) [] kws pos) (cCallP ks.length is sd ta) := by
  obtain ⟨f, fd, F, ⟨gs, hb⟩, hk, hm⟩ := h.ex
  refine ⟨⟨fun pins s σ H Q I h => ?_⟩⟩
  obtain ⟨C, ρ, n, O, kk, ke, hK, E, t, xl, q⟩ := h
  refine wpAny_Call_Name_kw (ld_glob I hg hm ?_ hdb)
  refine PySem.W.callWith_KW0 (first := []) (h₀ := X.base) I.ok.mod.kin hk hall ?_ hpl
  refine thn (ha.pk.run pos pins s σ H (fun vs H2 => vs.length = ks.length ∧ spD g sd (pickL is vs) H2 Q (WE xk σ)) I ⟨C, ρ, n, O, _, ke, hK, E, t, xl, fun ds ρ2 n2 vs H2 O2 k2 E2 S2 i2 => ⟨by rw [i2.length]; exact k2.1,
    spD_use hK E2 xl (i2.pick is) k2.2 fun d n' v H' a b c i => q _ _ _ _ _ _ a b (S2.trans c) i⟩⟩) fun ws s3 ⟨zs, H2, I3, r2, l2, q2⟩ => ⟨I3.kIn, ?_⟩
  rw [hks]
  exact run_kw (us := []) (vs := []) (E := WE xk) F (hr.mono l) hb (hx σ) I3 .nil r2 rfl (r2.length.symm.trans l2) q2
end
theorem kb_names {K : PySem.W.Frag} {x qual : Str} {st : Stmt} {f : Addr} {fd : FuncData} {ps ks : List Str} {is : List Nat} (F : Fun K x qual st f fd)
    (h : ∀ (kV doc pm : Value) (an : Option Addr) (cdv ct : Value) (ws : List Value), ws.length = ks.length → bindArgs (PySem.W.fnOf x qual (defArgs st) (defBody st) (defScope st) .none kV doc pm an cdv ct) ⟨[], ks.zip ws⟩ = pure (ps.zip (pickL is ws))) :
    ∃ gs, KBn K fd ps 0 ks gs (fun vs zs => vs ++ pickL is zs) := by
  obtain ⟨oc, od, kV, doc, pm, an, cdv, ct, osl, rfl, lk, hcd⟩ := F.ex
  refine ⟨fun us ws => us ++ pickL is ws, fun s us ws _ hu hw => ?_, fun r1 r2 => ?_⟩
  · match us, hu with
    | [], _ => exact .of_eq (h kV doc pm an cdv ct ws hw)
  · induction r1 with
    | nil => exact vals_pick r2 is
    | cons a _ ih => exact .cons a ih
end RM
namespace RM
open PySem PySem.Spec PyProof.Rows L2 CS RZ
/-! ### k11 by hand: what is due -/
end RM
namespace RM
open PySem PySem.Spec PyProof.Rows L2 CS RZ
/-! ### k11 by hand -/
end RM
namespace RM
open PySem PySem.Spec PyProof.Rows L2 CS RZ
/-! ### k13: rounds added to a journey -/
theorem over_ext {l m : List Tri} (h : ∀ p, sumAt l p = sumAt m p) (v : Str) : over l v = over m v := by
  have hc : ∀ p, ends l p → p ∈ placesL v (l ++ m) := fun p ⟨t, ht, q⟩ => (places_mem p).mpr (.inr ⟨t, List.mem_append_left _ ht, q⟩)
  have hd : ∀ p, ends m p → p ∈ placesL v (l ++ m) := fun p ⟨t, ht, q⟩ => (places_mem p).mpr (.inr ⟨t, List.mem_append_right _ ht, q⟩)
  have nd := places_nd (s := v) (L := l ++ m)
  have e1 : ((placesL v (l ++ m)).map fun y => sumAt l (v, y)) = (placesL v (l ++ m)).map fun y => sumAt m (v, y) := List.map_congr_left fun y _ => h _
  have e2 : ((placesL v (l ++ m)).map fun y => sumAt l (y, v)) = (placesL v (l ++ m)).map fun y => sumAt m (y, v) := List.map_congr_left fun y _ => h _
  rw [over_eq, over_eq, ← sum_outs nd v l hc, ← sum_outs nd v m hd, ← sum_ins nd v l hc, ← sum_ins nd v m hd, e1, e2]
theorem over_canon {l : List Tri} (h : Fine l) (v : Str) : over (canon l) v = over l v := over_ext (fun p => sumAt_canon' h p) v
theorem ex_step : ∀ l : List Ed, exL (l.map fun p => ((p.1, p.2, 1) : Tri)) = l
  | [] => rfl
  | p :: l => by
    have ih := ex_step l
    unfold exL at ih ⊢
    rw [List.map_cons, List.flatMap_cons, ih]
    rfl
theorem over_step (s : Str) (p : List Str) (v : Str) : over (stepT (s :: p)) v = one v s - one v (endOf s p) := by
  refine (deg_ex (L := stepT (s :: p)) (fun t ht => ?_)).mp ?_ v
  · obtain ⟨q, _, rfl⟩ := List.mem_map.mp ht
    show (0 : Int) ≤ 1
    decide
  · unfold stepT
    rw [ex_step]
    exact way_deg s p
theorem count_ex : ∀ (L : List Tri) (e : Ed), (∀ t ∈ L, 0 ≤ t.2.2) → ((exL L).count e : Int) = sumAt L e
  | [], e, _ => rfl
  | t :: L, e, h => by
    have ih := count_ex L e fun u hu => h u (List.mem_cons_of_mem _ hu)
    have h0 := h t (List.mem_cons_self ..)
    have e1 : exL (t :: L) = List.replicate t.2.2.toNat (pr t) ++ exL L := by unfold exL; rw [List.flatMap_cons]
    rw [e1, sumAt_cons, ← ih, List.count_append, List.count_replicate]
    by_cases c : pr t = e
    · rw [if_pos c, if_pos (by simpa using c)]
      omega
    · rw [if_neg c, if_neg (by simpa using c)]
      omega
theorem drop_pairs : ∀ (k : Nat) (l : List Str), ∀ e ∈ pairsOf (l.drop k), e ∈ pairsOf l
  | 0, l, e, h => h
  | k + 1, [], e, h => h
  | k + 1, [a], e, h => by
    rw [List.drop_succ_cons, List.drop_nil] at h
    exact h
  | k + 1, a :: b :: l, e, h => by
    rw [List.drop_succ_cons] at h
    exact List.mem_cons_of_mem _ (drop_pairs k (b :: l) e h)
/-- what is found, not yet added up -/
structure Fd (row : List Str) (l : List Tri) : Prop where
  fine : Fine l
  sub : ∀ t ∈ l, pr t ∈ pairsOf row
  ov : ∀ v, over l v = over (stepT row) v
  ge : ∀ e, sumAt (stepT row) e ≤ sumAt l e
theorem step_pr (row : List Str) : (stepT row).map pr = pairsOf row := by
  unfold stepT
  rw [List.map_map]
  exact List.map_id' _
theorem fd_start {row : List Str} (j : Jn row) : Fd row (canon (stepT row)) where
  fine := fine_canon j.fine
  sub := fun t ht => by
    have := (canon_mem ht).1
    rwa [step_pr] at this
  ov := over_canon j.fine
  ge := fun e => by rw [sumAt_canon' j.fine]; exact Int.le_refl _
/-! the Counts of it -/
structure Rd (s : Str) (p : List Str) (L : List Tri) : Prop where
  pc : Pc s L
  ov : ∀ v, over L v = one v s - one v (endOf s p)
  sub : ∀ e ∈ L.map pr, e ∈ pairsOf (s :: p)
  ge : ∀ e, (pairsOf (s :: p)).count e ≤ (exL L).count e
theorem nodup_le {α : Type} [DecidableEq α] : ∀ {a b : List α}, a.Nodup → (∀ x ∈ a, x ∈ b) → a.length ≤ b.length
  | [], _, _, _ => Nat.zero_le _
  | x :: a, b, hn, h => by
    obtain ⟨h1, h2⟩ := List.nodup_cons.mp hn
    have hx := h x (List.mem_cons_self ..)
    have := nodup_le (b := b.erase x) h2 fun y hy => (List.mem_erase_of_ne (fun z : y = x => h1 (z ▸ hy))).mpr (h y (List.mem_cons_of_mem _ hy))
    have l := List.length_erase_of_mem hx
    have : 0 < b.length := List.length_pos_of_mem hx
    rw [List.length_cons]
    omega
theorem rd_of {s : Str} {p : List Str} {l : List Tri} (j : Jn (s :: p)) (hl : (s :: p).length ≤ 31) (hn : ∀ y ∈ s :: p, y ≠ "none") (f : Fd (s :: p) l) : Rd s p (canon l) where
  pc := {
    cn := ⟨good_canon fun t ht => by
        have := pairs_in s p _ (f.sub t ht)
        exact ⟨j.good _ this.1, j.good _ this.2⟩, fine_canon f.fine, fun t ht => (canon_mem ht).2.1, by
        have h1 := nodup_le (b := pairsOf (s :: p)) (canon_nodup l) fun e he => by
          obtain ⟨t, ht, rfl⟩ := List.mem_map.mp he
          obtain ⟨u, hu, q⟩ := List.mem_map.mp (canon_mem ht).1
          rw [← q]
          exact f.sub u hu
        rw [List.length_map, pairs_len] at h1
        omega, canon_nodup l, List.pairwise_map.mpr (canon_pw l)⟩
    gs := j.good s (List.mem_cons_self ..)
    ll := by
      have h1 := nodup_le (b := pairsOf (s :: p)) (canon_nodup l) fun e he => by
        obtain ⟨t, ht, rfl⟩ := List.mem_map.mp he
        obtain ⟨u, hu, q⟩ := List.mem_map.mp (canon_mem ht).1
        rw [← q]
        exact f.sub u hu
      rw [List.length_map, pairs_len] at h1
      omega
    nn := fun y hy => by
      rcases (places_mem y).mp hy with rfl | ⟨t, ht, e⟩
      · exact hn _ (List.mem_cons_self ..)
      · obtain ⟨u, hu, q⟩ := List.mem_map.mp (canon_mem ht).1
        have := pairs_in s p _ (f.sub u hu)
        rw [q] at this
        rcases e with rfl | rfl
        · exact hn _ this.1
        · exact hn _ this.2 }
  ov := fun v => by rw [over_canon f.fine, f.ov, over_step]
  sub := fun e he => by
    obtain ⟨t, ht, rfl⟩ := List.mem_map.mp he
    obtain ⟨u, hu, q⟩ := List.mem_map.mp (canon_mem ht).1
    rw [← q]
    exact f.sub u hu
  ge := fun e => by
    have h1 := count_ex (canon l) e fun t ht => (fine_canon f.fine t ht).2
    have h2 := count_ex (stepT (s :: p)) e fun t ht => (j.fine t ht).2
    have h3 := f.ge e
    unfold stepT at h2
    rw [ex_step] at h2
    rw [sumAt_canon' f.fine] at h1
    have h4 : sumAt (stepT (s :: p)) e = sumAt ((pairsOf (s :: p)).map fun p => ((p.1, p.2, 1) : Tri)) e := rfl
    omega
section
variable {s b : Str} {p q : List Str} {L : List Tri}
theorem Rd.mem (r : Rd s p L) {e : Ed} : e ∈ exL L ↔ e ∈ pairsOf (s :: p) := by
  constructor
  · intro h
    exact r.sub e ((mem_ex r.pc.cn.pos e).mp h)
  · intro h
    have h1 := r.ge e
    have h2 : 0 < (pairsOf (s :: p)).count e := List.count_pos_iff.mpr h
    exact List.count_pos_iff.mp (by omega)
theorem Rd.way (r : Rd s p L) : ∃ w, Way s L w ∧ endOf s w = endOf s p := by
  refine way_is ((deg_ex fun t ht => Int.le_of_lt (r.pc.cn.pos t ht)).mpr r.ov) fun V hs hV e he => ?_
  have := way_hang s p V hs fun e he => hV e (r.mem.mpr he)
  exact this e.1 (pairs_in s p e (r.mem.mp he)).1
theorem Rd.fin (r : Rd s p L) : endS s L = endOf s p := by
  obtain ⟨w, h, e⟩ := r.way
  rw [way_end r.pc.cn.pos h, e]
end
end RM
namespace RM
open PySem PySem.Spec PyProof.Rows L2 CS RZ
/-! ### k13: turned, and in one piece -/
section
variable {s b n0 n1 : Str} {p q : List Str} {L : List Tri}
theorem sum_turn : ∀ (l : List Tri) (a b : Str), sumAt (l.map turnT) (a, b) = sumAt l (b, a)
  | [], _, _ => rfl
  | t :: l, a, b => by
    rw [List.map_cons, sumAt_cons, sumAt_cons, sum_turn l a b]
    have : (pr (turnT t) = (a, b)) ↔ (pr t = (b, a)) := by
      show ((t.2.1, t.1) : Ed) = (a, b) ↔ ((t.1, t.2.1) : Ed) = (b, a)
      simp only [Prod.mk.injEq]
      exact And.comm
    by_cases c : pr t = (b, a)
    · rw [if_pos c, if_pos (this.mpr c)]
      rfl
    · rw [if_neg c, if_neg fun z => c (this.mp z)]
theorem fine_turn (h : Fine L) : Fine (L.map turnT) := fun t ht => by
  obtain ⟨u, hu, rfl⟩ := List.mem_map.mp ht
  exact ⟨(h u hu).1.symm, (h u hu).2⟩
theorem good_turn (h : GoodL L) : GoodL (L.map turnT) := fun t ht => by
  obtain ⟨u, hu, rfl⟩ := List.mem_map.mp ht
  exact ⟨(h u hu).2, (h u hu).1⟩
def turnL (L : List Tri) : List Tri := canon (L.map turnT)
theorem endOf_mem : ∀ (s : Str) (p : List Str), endOf s p ∈ s :: p
  | s, [] => List.mem_cons_self ..
  | s, b :: p => List.mem_cons_of_mem _ (endOf_mem b p)
theorem Rd.turn_pc (r : Rd s p L) : Pc (endOf s p) (turnL L) := by
  have hin : ∀ y ∈ s :: p, y ∈ placesL s L := fun y hy => by
    have := way_hang s p (fun y => y ∈ placesL s L) start_in (fun e he => by
      have h1 := ties_in (s := s) e ((mem_ex r.pc.cn.pos e).mp (r.mem.mpr he))
      exact ⟨fun _ => h1.2, fun _ => h1.1⟩)
    exact this y hy
  have hz := hin _ (endOf_mem s p)
  refine pc_of (fine_turn r.pc.cn.fine) (good_turn r.pc.cn.g) (by rw [List.length_map]; exact r.pc.ll) (r.pc.gp _ hz) (r.pc.nn _ hz) fun t ht => ?_
  obtain ⟨u, hu, rfl⟩ := List.mem_map.mp ht
  have := ties_in (s := s) (pr u) (List.mem_map_of_mem hu)
  exact ⟨r.pc.nn _ this.2, r.pc.nn _ this.1⟩
/-! one piece -/
/-! one step more -/
end
end RM
namespace RM
open PySem PySem.Spec PyProof.Rows L2 CS RZ
/-! ### k13: a round apart -/
def isYo (x : Str) : Prop := x = "yonder" ∨ x = "thither"
section
variable {s : Str} {p : List Str} {L : List Tri}
/-- no place of the journey is over there -/
def NoYo (s : Str) (L : List Tri) : Prop := ∀ y ∈ placesL s L, ¬ isYo y
end
end RM
namespace RM
open PySem PySem.Spec PyProof.Rows L2 CS RZ
/-! ### k13: the rounds, as the law makes them -/
theorem atD_row {row : List Str} {k : Nat} {x : Str} (h : row[k]? = some x) : atD (.tuple (strD row)) (.int (k : Nat)) = some (.str x) := by
  show atI (strD row) (k : Int) = _
  refine atI_nat ?_
  unfold strD
  rw [List.getElem?_map, h]
  rfl
end RM
namespace RM
open PySem PySem.Spec PyProof.Rows L2 CS RZ
/-! ### is not True; rows of texts in a list -/
end RM
namespace RM
open PySem PySem.Spec PyProof.Rows L2 CS RZ
/-! ### k13: a drawn turn -/
structure T13 (ss : List Str) (s : Str) (p : List Str) (L : List Tri) : Prop where
  s1 : ss.Nodup
  s2 : 3 ≤ ss.length
  s3 : ss.length ≤ 6
  s4 : ∀ x ∈ ss, x ∈ tagPool
  w : Wk ss (s :: p) s (endOf s p)
  hl : (s :: p).length ≤ 22
  r : Rd s p L
  ll : L.length ≤ 25
  ny : NoYo s L
section
variable {e : EndsD} {n : Nat} {t1 t2 t3 t4 t5 t6 t7 t8 : Option Sl} {ss : List Str} {s b n0 n1 : Str} {p q' : List Str} {L : List Tri}
theorem T13.gs (T : T13 ss s p L) : ∀ y ∈ s :: p, GoodS y := fun y hy => tag_good y (T.s4 y (T.w.ins y hy))
end
end RM
namespace RM
open PySem PySem.Spec PyProof.Rows L2 CS RZ
/-! ### k13: one step more, a round apart -/
end RM
namespace RM
open PySem PySem.Spec PyProof.Rows L2 CS RZ
/-! ### xs.remove(y), of data -/
end RM
namespace RM
open PySem PySem.Spec PyProof.Rows L2 CS RZ
/-! ### a slice as a new list; a, b = [..], x; from the bare heap with a box in use -/
end RM
namespace RM
open PySem PySem.Spec PyProof.Rows L2 CS RZ
/-! ### k76: the sure beginning -/
def sureP : Nat → Str → List Tri → List Str
  | 0, _, _ => []
  | m + 1, s, L => match openS s L with
    | [b] => b :: sureP m b (lessT L (s, b))
    | _ => []
section
variable {s b : Str} {L : List Tri}
theorem way_len {p : List Str} (w : Way s L p) : p.length = (exL L).length := by
  have := w.length_eq
  rw [pairs_len, List.length_cons] at this
  omega
theorem sure_prefix : ∀ (m : Nat) (s : Str) (L : List Tri) (p : List Str), Cn L → (exL L).length = m → Way s L p → sureP m s L <+: p
  | 0, s, L, p, c, hm, w => List.nil_prefix
  | m + 1, s, L, p, c, hm, w => by
    show (match openS s L with | [b] => b :: sureP m b (lessT L (s, b)) | _ => []) <+: p
    cases e : openS s L with
    | nil => exact List.nil_prefix
    | cons b r =>
      cases r with
      | cons b2 r => exact List.nil_prefix
      | nil =>
        have hl := way_len w
        cases p with
        | nil => rw [hm] at hl; cases hl
        | cons x q =>
          have hx : x ∈ openS s L := (open_mem c).mpr ⟨q, w⟩
          rw [e] at hx
          have := List.mem_singleton.mp hx
          subst this
          obtain ⟨h1, h2⟩ := (way_cons c).mp w
          exact (List.cons_prefix_cons.mpr ⟨rfl, sure_prefix m x _ q (less_cn c) (by have := less_len c h1; omega) h2⟩)
end
section
variable {e : EndsD} {n : Nat}
def sureE (s : Str) (p : List Str) (L : List Tri) : List Str := (endOf s p :: sureP (exL (turnL L)).length (endOf s p) (turnL L)).reverse
end
end RM
namespace RM
open PySem PySem.Spec PyProof.Rows L2 CS RZ
/-! ### k76: what rows share -/
/-! rows turned -/
def swE (e : Ed) : Ed := (e.2, e.1)
theorem pairs_revP : ∀ l : List Str, (pairsOf l.reverse).Perm ((pairsOf l).map swE)
  | [] => .nil
  | [a] => .nil
  | a :: b :: r => by
    have ih := pairs_revP (b :: r)
    rw [List.reverse_cons, List.reverse_cons, pairs_snoc, pairs_cons, List.map_cons, ← List.reverse_cons]
    exact (List.perm_append_comm.trans (List.Perm.refl _ : ([(b, a)] ++ pairsOf (b :: r).reverse).Perm ((b, a) :: pairsOf (b :: r).reverse))).trans (List.Perm.cons _ ih)
theorem count_sw : ∀ (l : List Ed) (e : Ed), (l.map swE).count (swE e) = l.count e
  | [], _ => rfl
  | a :: l, e => by
    rw [List.map_cons, List.count_cons, List.count_cons, count_sw l e]
    by_cases c : a = e
    · subst c
      simp
    · have c2 : ¬ swE a = swE e := fun z => c (by
        have z1 := congrArg (fun p : Ed => p.1) z
        have z2 := congrArg (fun p : Ed => p.2) z
        exact Prod.ext z2 z1)
      rw [if_neg (by simpa using c2), if_neg (by simpa using c)]
theorem ex_turn {L : List Tri} (c : Cn L) (ct : Cn (turnL L)) : (exL (turnL L)).Perm ((exL L).map swE) := by
  refine List.perm_iff_count.mpr fun e => ?_
  have h1 := count_ex (turnL L) e fun t ht => Int.le_of_lt (ct.pos t ht)
  have h2 := count_ex L (swE e) fun t ht => Int.le_of_lt (c.pos t ht)
  have h3 : sumAt (turnL L) e = sumAt L (swE e) := by
    unfold turnL
    rw [sumAt_canon' (fine_turn c.fine)]
    exact sum_turn L e.1 e.2
  have h4 : ((exL L).map swE).count e = (exL L).count (swE e) := by
    exact count_sw (exL L) (swE e)
  omega
section
variable {s : Str} {L : List Tri} {p : List Str}
theorem rev_row : ∀ (s : Str) (p : List Str), ∃ w, (s :: p).reverse = endOf s p :: w
  | s, [] => ⟨[], rfl⟩
  | s, b :: p => by
    obtain ⟨w, e⟩ := rev_row b p
    exact ⟨w ++ [s], by rw [List.reverse_cons, e]; rfl⟩
theorem way_turn (c : Cn L) (ct : Cn (turnL L)) (w : Way s L p) : ∃ w', (s :: p).reverse = endOf s p :: w' ∧ Way (endOf s p) (turnL L) w' := by
  obtain ⟨w', e⟩ := rev_row s p
  refine ⟨w', e, ?_⟩
  unfold Way
  rw [← e]
  exact ((pairs_revP (s :: p)).trans (w.map swE)).trans (ex_turn c ct).symm
end
end RM
namespace RM
open PySem PySem.Spec PyProof.Rows L2 CS RZ
/-! ### k76: what all journeys share -/
/-! ### k76: whether what is left hangs together -/
end RM
namespace RM
open PySem PySem.Spec PyProof.Rows L2 CS RZ
/-! ### k76: the law's own closure -/
end RM
namespace RM
open PySem PySem.Spec PyProof.Rows L2 CS RZ
/-! ### k76: a walk's own bound; where a journey stands on its sure beginning -/
def sdWalkB : SpD := fun ds n k _ => ∃ (ss : List Str) (most : Int), ds = [boxD, .list (strD ss), .int most] ∧ ss.Nodup ∧ 2 ≤ ss.length ∧ ss.length ≤ 8 ∧ (∀ s ∈ ss, GoodS s) ∧ n ≤ 700000 ∧ 0 ≤ most ∧ most ≤ 50 ∧
  ∀ (a z : Str) (row : List Str) (n' : Nat), Wk ss row a z → row.length ≤ most.toNat + 1 → n' ≤ n + 200 → k (.tuple (strD row)) n'
theorem himp_walkB {e : EndsD} (ds : List D) (n : Nat) (k : D → Nat → Prop) (ke : Xv → Nat → Prop) (h : sdWalkB ds n k ke) (he : e.rt = k) : cs_walk (startE n_walk ds) n e := by
  obtain ⟨ss, most, rfl, hn, h2, h8, hg, hN, m0, m1, q⟩ := h
  subst he
  have h200 : (1000 : Int) < 2 ^ 200 := by decide
  refine ⟨.list (strD ss), strD ss, rfl, rfl, by omega, by rw [strD_len]; omega, by rw [strD_len]; omega, fun d hd => ?_⟩
  obtain ⟨a, ha, rfl⟩ := List.mem_map.mp hd
  refine ⟨by show 1 ≤ lim; decide, by show 3 < 8; decide, ?_⟩
  refine ⟨.int (most + 1), rfl, most + 1, rfl, by omega, by omega, by omega, fun r r0 r1 => ?_⟩
  refine ⟨r, rfl, ⟨by omega, by omega⟩, ?_⟩
  have hr := range_len r
  refine walk_loop hn h2 h8 hg _ [a] a none none none (n + 1 + 1) (by omega) (by rw [List.length_singleton]; omega) ⟨⟨[], rfl⟩, ⟨[], rfl⟩, fun s hs => by rw [List.mem_singleton.mp hs]; exact ha, fun p hp => by cases hp⟩ fun row z t4 t5 t6 n3 w l1 hn3 => ?_
  rw [List.length_singleton] at l1
  have gz : GoodS z := by
    obtain ⟨r, er⟩ := w.tl
    exact hg z (w.ins z (by rw [er]; simp))
  have zl : atD (.list (strD row)) (.int (-1)) = some (.str z) := by
    obtain ⟨r, er⟩ := w.tl
    rw [er]
    exact atI_last
  have zf : atD (.list (strD row)) (.int 0) = some (.str a) := by
    obtain ⟨r, er⟩ := w.hd
    rw [er]
    exact atI_zero _ _
  have ll : (strD row).length = row.length := strD_len row
  have fin : ∀ (n4 : Nat), n4 ≤ n3 + 1 → walkt4 (fw ss row most t4 t5 t6) n4 e := fun n4 h4 => ⟨_, ⟨_, _, rfl, rfl, rfl⟩, q a z row n4 w (by omega) (by omega)⟩
  refine ⟨rfl, 1, rfl, _, _, rfl, zl, rfl, _, _, rfl, zf, _, neD_str gz (hg a ha), _, rfl, ?_⟩
  by_cases c : z = a
  · rw [decide_eq_true c]
    exact fin n3 (by omega)
  · rw [decide_eq_false c]
    refine ⟨rfl, .list (strD row), .int (strD row).length, rfl, ⟨_, _, rfl, rfl, rfl⟩, rfl, .bool (decide (((strD row).length : Int) ≤ most)), rfl, _, rfl, ?_⟩
    by_cases c2 : ((strD row).length : Int) ≤ most
    · rw [decide_eq_true c2]
      refine ⟨3, rfl, by omega, by decide, by decide, fun r r0 r1 => ⟨.bool (r == 0), rfl, _, rfl, ?_⟩⟩
      cases cr : r == 0 with
      | false => exact fin (n3 + 1) (Nat.le_refl _)
      | true =>
        refine ⟨⟨_, rfl⟩, rfl, _, .str a, rfl, zf, strD row, rfl, by rw [ll]; unfold lim; omega, ?_⟩
        have e1 : strD row ++ [PyData.str a] = strD (row ++ [a]) := by
          unfold strD
          rw [List.map_append]
          rfl
        rw [e1]
        exact ⟨_, ⟨_, _, rfl, rfl, rfl⟩, q a a (row ++ [a]) (n3 + 1) (w.snoc ha fun z => c z.symm) (by rw [List.length_append, List.length_singleton]; omega) (by omega)⟩
    · rw [decide_eq_false c2]
      exact fin n3 (by omega)
abbrev Lr (s : Str) (p : List Str) : List Tri := canon (stepT (s :: p))
theorem cn_row {s : Str} {p : List Str} (j : Jn (s :: p)) (hl : (s :: p).length ≤ 31) : Cn (Lr s p) := cn_canon j.fine (fun t ht => by
    obtain ⟨q, hq, rfl⟩ := List.mem_map.mp ht
    exact ⟨j.good _ (pairs_mem hq).1, j.good _ (pairs_mem hq).2⟩) (by rw [step_len]; omega)
theorem ex_row {s : Str} {p : List Str} (j : Jn (s :: p)) (hl : (s :: p).length ≤ 31) : (exL (Lr s p)).Perm (pairsOf (s :: p)) := by
  have c := cn_row j hl
  refine List.perm_iff_count.mpr fun e => ?_
  have h1 := count_ex (Lr s p) e fun t ht => Int.le_of_lt (c.pos t ht)
  have h2 := count_ex (stepT (s :: p)) e fun t ht => (j.fine t ht).2
  unfold stepT at h2
  rw [ex_step] at h2
  rw [show sumAt (Lr s p) e = sumAt (stepT (s :: p)) e from sumAt_canon' j.fine e] at h1
  have h4 : sumAt (stepT (s :: p)) e = sumAt ((pairsOf (s :: p)).map fun p => ((p.1, p.2, 1) : Tri)) e := rfl
  omega
theorem row_way {s : Str} {p : List Str} (j : Jn (s :: p)) (hl : (s :: p).length ≤ 31) : Way s (Lr s p) p := (ex_row j hl).symm
theorem row_len {s : Str} {p : List Str} (j : Jn (s :: p)) (hl : (s :: p).length ≤ 31) : (exL (Lr s p)).length = p.length := by
  rw [(ex_row j hl).length_eq, pairs_len, List.length_cons]
  omega
end RM
namespace RM
open PySem PySem.Spec PyProof.Rows L2 CS RZ
/-! ### k76: what is drawn and asked -/
structure T76 (s : Str) (p : List Str) : Prop where
  j : Jn (s :: p)
  hl : (s :: p).length ≤ 31
  nn : ∀ y ∈ s :: p, y ≠ "none"
section
variable {e : EndsD} {n : Nat} {s : Str} {p : List Str} {t1 t2 t3 t4 t5 t6 t7 t8 t9 t10 : Option Sl}
theorem T76.r (T : T76 s p) : Rd s p (Lr s p) := by
  have := rd_of T.j (by have := T.hl; omega) T.nn (fd_start T.j)
  rwa [show canon (canon (stepT (s :: p))) = Lr s p from (cn_row T.j T.hl).id] at this
theorem T76.len (T : T76 s p) : (exL (Lr s p)).length = p.length := row_len T.j T.hl
def heL (s : Str) (p : List Str) : List Str := sureE s p (Lr s p)
theorem T76.he (T : T76 s p) : (heL s p).reverse <+: (s :: p).reverse := by
  obtain ⟨w, e, hw⟩ := way_turn T.r.pc.cn T.r.turn_pc.cn (row_way T.j T.hl)
  unfold heL sureE
  rw [List.reverse_reverse, e]
  exact List.cons_prefix_cons.mpr ⟨rfl, sure_prefix _ _ _ w T.r.turn_pc.cn rfl hw⟩
end
end RM
namespace RM
open PySem PySem.Spec PyProof.Rows L2 CS RZ
/-! ### k76: place by place -/
section
variable {e : EndsD} {n : Nat} {s x : Str} {p A B : List Str} {t1 t2 t3 t4 t5 t6 t7 t8 t9 t10 : Option Sl}
/-- the journey, cut at a place -/
structure At76 (s : Str) (p A : List Str) (x : Str) (B : List Str) : Prop where
  T : T76 s p
  e : s :: p = A ++ x :: B
  eB : B = p.drop A.length
  ex : (s :: p)[A.length]? = some x
  lt : A.length < p.length
  le : A.length ≤ (sureP p.length s (Lr s p)).length
theorem At76.j (a : At76 s p A x B) : Jn (A ++ x :: B) := by rw [← a.e]; exact a.T.j
theorem At76.hl (a : At76 s p A x B) : (A ++ x :: B).length ≤ 31 := by rw [← a.e]; exact a.T.hl
theorem At76.jB (a : At76 s p A x B) : Jn (x :: B) := ⟨fun y hy => a.j.good y (List.mem_append_right _ hy), fun q hq => a.j.ch q (by
    refine drop_pairs A.length _ q ?_
    rw [List.drop_left' rfl]
    exact hq), by have := a.hl; rw [List.length_append] at this; omega⟩
theorem At76.good (a : At76 s p A x B) : ∀ q ∈ pairsOf (x :: B), GoodP q := fun q hq => ⟨a.jB.good _ (pairs_mem hq).1, a.jB.good _ (pairs_mem hq).2⟩
end
end RM
namespace RM
open PySem PySem.Spec PyProof.Rows L2 CS RZ
/-! ### (..) * k; what is had, computed -/
instance (a b : Str) : Decidable (leS a b) := by unfold leS; exact inferInstance
/-H-/
end RM
namespace RM
open PySem PySem.Spec PyProof.Rows L2 CS RZ
/-! ### k76 by hand -/
end RM
namespace RM
open PySem PySem.Spec PyProof.Rows L2 CS RZ
/-! ### last steps out of places: which can be told ahead -/
/-! what leads to the end -/
def Lead (K : Str → Str → Prop) (z : Str) : Nat → Str → Prop
  | 0, x => x = z
  | n + 1, x => ∃ y, K x y ∧ Lead K z n y
end RM
namespace RM
open PySem PySem.Spec PyProof.Rows L2 CS RZ
/-! ### d = {}; for a, b in l: d.setdefault(b, []).append(a) -/
end RM
namespace RM
open PySem PySem.Spec PyProof.Rows L2 CS RZ
/-! ### the rule of it -/
end RM
namespace RM
open PySem PySem.Spec PyProof.Rows L2 CS RZ
/-! ### which names lead to an end -/
def LK (ps : List Ed) : Str → Str → Prop := fun a b => (a, b) ∈ ps
structure WP (z y : Str) (ps : List Ed) (ks w : List Str) : Prop where
  nd : ks.Nodup
  sub : ∀ x ∈ ks, x ≠ z ∧ ∃ m, Lead (LK ps) z m x
  src : ∀ x ∈ ks, x ∈ ps.map Prod.fst
  wk : ∀ x ∈ w, x = z ∨ x ∈ ks
  wl : w.length ≤ ks.length
  hy : y = z ∨ y ∈ ks
  cl : ∀ u, (u = z ∨ u ∈ ks) → u = y ∨ u ∈ w ∨ ∀ x, (x, u) ∈ ps → x = z ∨ x ∈ ks
theorem wp_step {z y x : Str} {ps : List Ed} {ks w : List Str} (h : WP z y ps ks w) (hx : (x, y) ∈ ps) (c : x ≠ z) (d : x ∉ ks) : WP z y ps (ks ++ [x]) (w ++ [x]) := by
  have ly : ∃ m, Lead (LK ps) z m y := by
    rcases h.hy with q | q
    · exact ⟨0, q⟩
    · exact (h.sub y q).2
  refine ⟨?_, fun u hu => ?_, fun u hu => ?_, fun u hu => ?_, ?_, ?_, fun u hu => ?_⟩
  · exact List.nodup_append.mpr ⟨h.nd, by simp, fun u hu v hv q => d (by rw [List.mem_singleton.mp hv] at q; exact q ▸ hu)⟩
  · rcases List.mem_append.mp hu with hu | hu
    · exact h.sub u hu
    · rw [List.mem_singleton.mp hu]
      obtain ⟨m, q⟩ := ly
      exact ⟨c, m + 1, y, hx, q⟩
  · rcases List.mem_append.mp hu with hu | hu
    · exact h.src u hu
    · rw [List.mem_singleton.mp hu]
      exact List.mem_map_of_mem (f := Prod.fst) hx
  · rcases List.mem_append.mp hu with hu | hu
    · exact (h.wk u hu).imp id fun q => List.mem_append_left _ q
    · exact .inr (List.mem_append_right _ hu)
  · have := h.wl
    rw [List.length_append, List.length_append]
    omega
  · exact h.hy.imp id fun q => List.mem_append_left _ q
  · by_cases q : u = x
    · exact .inr (.inl (by simp [q]))
    · have : u = z ∨ u ∈ ks := hu.imp id fun w => by
        rcases List.mem_append.mp w with w | w
        · exact w
        · exact (q (List.mem_singleton.mp w)).elim
      rcases h.cl u this with r | r | r
      · exact .inl r
      · exact .inr (.inl (List.mem_append_left _ r))
      · exact .inr (.inr fun v hv => (r v hv).imp id fun s => List.mem_append_left _ s)
end RM
namespace RM
open PySem PySem.Spec PyProof.Rows L2 CS RZ
/-! ### a dict with a star -/
section
variable {X : Cx} {g : Glob} {xk : WX}
theorem isK_tab {T : Tab} {H : Hp} : ∀ {ns : List Str} {f : Str → D} {kvs : List (L2.Key × V)}, IsK T H kvs (tabG ns f) → (kvs.map fun kv => kV kv.1) = ns.map V.str
  | [], f, kvs, h => by cases h; rfl
  | a :: ns, f, kvs, h => by
    generalize hk : tabG (a :: ns) f = ks at h
    cases h with
    | nil => cases hk
    | @cons k v d kvs ks h0 r =>
      have e : (PyData.str a, f a) :: tabG ns f = _ := hk
      injection e with e1 e2
      injection e1 with e1 e3
      subst e2
      have ih := isK_tab r
      rw [List.map_cons, List.map_cons, ih]
      have : k = .inr a := kD_inj (a := k) (b := .inr a) e1.symm
      rw [this]
      rfl
end
end RM
namespace RM
open PySem PySem.Spec PyProof.Rows L2 CS RZ
/-! ### led_to, last_outs -/
end RM
namespace RM
open PySem PySem.Spec PyProof.Rows L2 CS RZ
/-! ### sure_lasts, sure_first_ins -/
end RM
namespace RM
open PySem PySem.Spec PyProof.Rows L2 CS RZ
/-! ### last_outs tells what can be the last step -/
end RM
namespace RM
open PySem PySem.Spec PyProof.Rows L2 CS RZ
/-! ### a comprehension over an own dict -/
/-- a dict is locked or unlocked, all else stays -/
def Fz (H H' : Hp) : Prop := ∀ a o, H a = some o → H' a = some o ∨ (∃ o1 kvs, o = .frz o1 (.dK kvs) ∧ H' a = some (.dK kvs)) ∨ ∃ o1 kvs, o = .dK kvs ∧ H' a = some (.frz o1 (.dK kvs))
section
variable {T : Tab} {H H' : Hp}
theorem fz_dk (f : Fz H H') {a : Addr} {kvs : List (L2.Key × V)} (h : L2.Rd H a (.dK kvs)) : L2.Rd H' a (.dK kvs) := by
  rcases h with h | ⟨o, h⟩
  · rcases f _ _ h with g | ⟨o1, k1, e, g⟩ | ⟨o1, k1, e, g⟩
    · exact .inl g
    · cases e
    · cases e
      exact .inr ⟨_, g⟩
  · rcases f _ _ h with g | ⟨o1, k1, e, g⟩ | ⟨o1, k1, e, g⟩
    · exact .inr ⟨_, g⟩
    · cases e
      exact .inl g
    · cases e
theorem fz_at (f : Fz H H') {a : Addr} {u : HO} (h : H a = some u) (n1 : ∀ o1 kvs, u ≠ .frz o1 (.dK kvs)) (n2 : ∀ kvs, u ≠ .dK kvs) : H' a = some u := by
  rcases f _ _ h with g | ⟨o1, k1, e, g⟩ | ⟨o1, k1, e, g⟩
  · exact g
  · exact (n1 _ _ e).elim
  · exact (n2 _ e).elim
theorem fz_rd (f : Fz H H') {a : Addr} {u : HO} (h : L2.Rd H a u) (n1 : ∀ o1 kvs, u ≠ .frz o1 (.dK kvs)) (n2 : ∀ kvs, u ≠ .dK kvs) : L2.Rd H' a u := by
  rcases h with h | ⟨o, h⟩
  · exact .inl (fz_at f h n1 n2)
  · exact .inr ⟨o, fz_at f h (fun o1 kvs e => by cases e; exact n2 _ rfl) fun kvs e => by cases e⟩
theorem fz_tup (f : Fz H H') {K : PySem.W.Frag} {a : Addr} {xs : List V} (h : SqT K H a xs) : SqT K H' a xs := by
  rcases h with h | h
  · exact .inl (fz_rd f h (fun _ _ e => by cases e) fun _ e => by cases e)
  · exact .inr h
mutual
theorem Is.fz (s : Fz H H') : ∀ {v : V} {d : D}, Is T H v d → Is T H' v d
  | _, _, .non => .non
  | _, _, .bl b => .bl b
  | _, _, .int i => .int i
  | _, _, .str x => .str x
  | _, _, .lst h r => .lst (fz_at s h (fun _ _ e => by cases e) fun _ e => by cases e) (IsL.fz s r)
  | _, _, .tup h r => .tup (fz_tup s h) (IsL.fz s r)
  | _, _, .box h => .box h
  | _, _, .dk h r => .dk (fz_dk s h) (IsK.fz s r)
  | _, _, .dt h r => .dt (fz_rd s h (fun _ _ e => by cases e) fun _ e => by cases e) (IsT.fz s r)
  | _, _, .obj h1 h2 r => .obj (fz_at s h1 (fun _ _ e => by cases e) fun _ e => by cases e) (fz_at s h2 (fun _ _ e => by cases e) fun _ e => by cases e) (IsF.fz s r)
  | _, _, .exc h1 h2 r => .exc (fz_at s h1 (fun _ _ e => by cases e) fun _ e => by cases e) (fz_at s h2 (fun _ _ e => by cases e) fun _ e => by cases e) (IsF.fz s r)
  | _, _, .exn h => .exn (fz_at s h (fun _ _ e => by cases e) fun _ e => by cases e)
theorem IsL.fz (s : Fz H H') : ∀ {v : List V} {d : List D}, IsL T H v d → IsL T H' v d
  | _, _, .nil => .nil
  | _, _, .cons h r => .cons (Is.fz s h) (IsL.fz s r)
theorem IsK.fz (s : Fz H H') : ∀ {v : List (L2.Key × V)} {d : List (D × D)}, IsK T H v d → IsK T H' v d
  | _, _, .nil => .nil
  | _, _, .cons h r => .cons (Is.fz s h) (IsK.fz s r)
theorem IsT.fz (s : Fz H H') : ∀ {v : List (List L2.Key × V)} {d : List (D × D)}, IsT T H v d → IsT T H' v d
  | _, _, .nil => .nil
  | _, _, .cons h r => .cons (Is.fz s h) (IsT.fz s r)
theorem IsF.fz (s : Fz H H') : ∀ {v : List (Str × V)} {d : List (D × D)}, IsF T H v d → IsF T H' v d
  | _, _, .nil => .nil
  | _, _, .cons h r => .cons (Is.fz s h) (IsF.fz s r)
end
theorem OwnAt.fz {Hh Hh' : Hp} {p : Addr} {d : D} (s : Fz Hh Hh') (h : OwnAt T Hh H p d) (e : H' p = H p) : OwnAt T Hh' H' p d := by
  cases h with
  | lst h r => exact .lst (e.trans h) (r.fz s)
  | dk h r => exact .dk (e.trans h) (r.fz s)
  | dt h r => exact .dt (e.trans h) (r.fz s)
  | obj h g r => exact .obj (e.trans h) (fz_at s g (fun _ _ e => by cases e) fun _ e => by cases e) (r.fz s)
end
/-- one dict's lock -/
inductive Sw : HO → HO → Prop
  | on (o : Obj) (kvs : List (L2.Key × V)) : Sw (.dK kvs) (.frz o (.dK kvs))
  | off (o : Obj) (kvs : List (L2.Key × V)) : Sw (.frz o (.dK kvs)) (.dK kvs)
section
variable {C : Ctx} {ρ : En} {n : Nat} {σ : L2.St} {H : Hp} {O : Ow} {p : Addr} {u u' : HO}
theorem fz_upd (sw : Sw u u') (hp : H p = some u) : Fz H (upd H p u') := fun a o h => by
  by_cases c : a = p
  · subst c
    rw [hp] at h
    cases h
    rw [upd_same]
    cases sw with
    | on o kvs => exact .inr (.inr ⟨_, _, rfl, rfl⟩)
    | off o kvs => exact .inr (.inl ⟨_, _, rfl, rfl⟩)
  · rw [upd_ne c]
    exact .inl h
theorem hid_upd (hz : ¬ C.Z p) (ho : ∀ i, O i ≠ some p) : hid C O (upd H p u') = upd (hid C O H) p u' := by
  funext a
  by_cases c : a = p
  · subst c
    rw [upd_same]
    exact hid_of upd_same hz ho
  · rw [upd_ne c]
    unfold hid
    rw [upd_ne c]
theorem Ev.swap (E : Ev C ρ n σ H O) (sw : Sw u u') (hp : hid C O H p = some u) (h0 : C.H0 p = Option.none) (hb : C.B p = Option.none) (hx : C.T.bx ≠ some p) : Ev C ρ n σ (upd H p u') O := by
  obtain ⟨g1, g2, g3⟩ := hid_some hp
  have eh := hid_upd (H := H) (u' := u') g2 g3
  have f : Fz (hid C O H) (hid C O (upd H p u')) := by rw [eh]; exact fz_upd sw hp
  refine ⟨E.len, fun i d e => ?_, fun i d e => ?_, E.only, E.inj, E.zs, E.zt, fun a o h z => ?_, fun b h => ⟨(E.box b h).1, ?_⟩, E.slf, fun a o h => ?_⟩
  · obtain ⟨v, h1, h2⟩ := E.val i d e
    exact ⟨v, h1, h2.fz f⟩
  · obtain ⟨q, h1, h2, h3⟩ := E.own i d e
    refine ⟨q, h1, h2, h3.fz f (upd_ne fun z => g3 i (z ▸ h1))⟩
  · rw [upd_ne fun w => by rw [w, h0] at h; cases h]
    exact E.keep a o h z
  · obtain ⟨A, B, D', e, r⟩ := (E.box b h).2
    exact ⟨A, B, D', by rw [upd_ne (fun z : b = p => hx (z ▸ h))]; exact e, r⟩
  · rw [eh, upd_ne fun w => by rw [w, hb] at h; cases h]
    exact E.vis a o h
end
def cKeysF (i : Nat) : CA := fun ρ n k _ => ∃ ns f, ρ[i]? = some (some (Sl.v (.dict ((.none, .bool false) :: tabG ns f)))) ∧ k (strD ns) ρ n
theorem keysF_use {g : Glob} {xk : WX} {i : Nat} {σ : L2.St} {Hf : Hp} {R : It → Hp → Prop} {p0 : Addr} {od : Obj} {kvs : List (L2.Key × V)} (hs : σ[i]? = some (some (.ref p0))) (hf : Hf p0 = some (.frz od (.dK kvs))) (h : liftI g xk (cKeysF i) σ Hf R) : iKeys (tVar i) σ Hf R := by
  obtain ⟨C, ρ, n, O, k, ke, hK, E, ⟨ns, f, e, k1⟩, x, q⟩ := h
  obtain ⟨v, h1, h2⟩ := E.val i _ e
  rw [hs] at h1
  cases h1
  refine ⟨.ref p0, hs, p0, od, rfl, .inl ⟨kvs, hf, q _ _ _ _ _ _ k1 E (Same.refl _) ?_⟩⟩
  cases h2 with
  | dk h r =>
    rename_i kv2
    have hd : hid C O Hf p0 = some (.frz od (.dK kvs)) ∧ kv2 = kvs := by
      rcases h with h | ⟨o2, h⟩
      · have := (hid_some h).1
        rw [hf] at this
        cases this
      · have := (hid_some h).1
        rw [hf] at this
        cases this
        exact ⟨h, rfl⟩
    obtain ⟨hd, rfl⟩ := hd
    have ek := isK_tab r
    have el : (strD ns).length = kv2.length := by
      have := congrArg List.length ek
      rw [List.length_map, List.length_map] at this
      unfold strD
      rw [List.length_map, this]
    refine ⟨⟨_, _, by rw [el]; exact walk_keys, fun H2 s => s _ _ hd, fun i x H1 H2 d s y e => ?_⟩⟩
    obtain ⟨rfl, kk, vv, y1, rfl⟩ := y
    refine ⟨Same.refl _, fun Hx _ _ => ?_⟩
    have e1 : (ns.map V.str)[i]? = some (kV kk) := by rw [← ek, List.getElem?_map, y1]; rfl
    rw [List.getElem?_map] at e1
    unfold strD at e
    rw [List.getElem?_map] at e
    cases en : ns[i]? with
    | none => rw [en] at e; cases e
    | some z =>
      rw [en] at e e1
      have e := Option.some.inj e
      have e1 := Option.some.inj e1
      rw [← e, ← e1]
      exact .str z
def cLcK (i : Nat) (cg : CG) (tt : CT) (te : CE) (vs : List Nat) : CE := fun ρ n k ke => ∃ ns f, ρ[i]? = some (some (Sl.own (.dict ((.none, .bool false) :: tabG ns f)))) ∧ i < ρ.length ∧
  cLcL cg tt te vs (strD ns) (wipeE (ρ.set i (some (Sl.v (.dict ((.none, .bool false) :: tabG ns f))))) vs) n [] (fun acc ρ2 n2 => k (.list acc) ρ2 n2)
theorem lcK_use {g : Glob} {xk : WX} {i : Nat} {cg : CG} {js vs : List Nat} {tt : CT} {te : CE} (hj : ∀ j ∈ js, j ∈ vs) {σ : L2.St} {H : Hp} {Q : VK} (r : liftF g xk (cLcK i cg tt te vs) σ H Q) : tLockE (tLc (iKeys (tVar i)) (liftG g js cg) (liftT g xF tt) (lift g xF te) vs) σ H Q := by
  obtain ⟨C, ρ, n, O, k, ke, hK, E, ⟨ns, f, e0, hi, t⟩, x, q⟩ := r
  obtain ⟨p0, hO, hσ, ow⟩ := E.own i _ e0
  obtain ⟨_, hH0⟩ := E.only i p0 hO
  have hbx := E.nbx hO
  cases ow with
  | dk hH ik =>
    rename_i kvs
    have hz : ¬ C.Z p0 := fun z => by
      obtain ⟨o, h⟩ := E.zs p0 z
      rw [hH0] at h
      cases h
    have hcut : ∀ j, cutO O i j ≠ some p0 := fun j z => by
      obtain ⟨c, z⟩ := cutO_some z
      exact c (E.inj j i p0 z hO)
    have hv : hid C (cutO O i) H p0 = some (.dK kvs) := hid_of hH hz hcut
    have hB : C.B p0 = Option.none := by
      cases hb : C.B p0 with
      | none => rfl
      | some o => exact ((hid_some (E.vis p0 o hb)).2.2 i hO).elim
    have E1 : Ev C (ρ.set i (some (Sl.v (.dict ((.none, .bool false) :: tabG ns f))))) n σ H (cutO O i) := E.frz hi hσ (.dk (.inl hv) (ik.same hid_cut))
    refine ⟨p0, .dK kvs, hH, trivial, fun od => ?_⟩
    have E2 := E1.swap (Sw.on od kvs) hv hH0 hB hbx
    have key : tLc (liftI g xk (cKeysF i)) (liftG g js cg) (liftT g xF tt) (lift g xF te) vs σ (upd H p0 (.frz od (.dK kvs))) (fun v H' => H' p0 = some (.frz od (.dK kvs)) ∧ Q v (upd H' p0 (.dK kvs))) := by
      refine lc_use hj ⟨C, _, n, _, k, ke, hK, E2, ⟨ns, f, List.getElem?_set_self hi, t⟩, x, fun d ρ' n' p H1 H' O' k1 E3 S3 hp s ow no => ?_⟩
      have h1 : hid C O' H1 p0 = some (.frz od (.dK kvs)) := S3 _ _ (hid_of upd_same hz hcut)
      have g1 := (hid_some h1).1
      have pne : p ≠ p0 := fun z => by rw [z, g1] at hp; cases hp
      refine ⟨s _ _ g1, ?_⟩
      have E4 := E3.swap (Sw.off od kvs) h1 hH0 hB hbx
      have eh := hid_upd (C := C) (O := O') (H := H1) (p := p0) (u' := .dK kvs) hz (hid_some h1).2.2
      refine q d ρ' n' p (upd H1 p0 (.dK kvs)) (upd H' p0 (.dK kvs)) O' k1 E4 (fun a o h => ?_) (by rw [upd_ne pne]; exact hp) (fun a o h => ?_) (ow.fz (by rw [eh]; exact fz_upd (Sw.off od kvs) h1) (upd_ne pne)) no
      · obtain ⟨w1, w2, w3⟩ := hid_some h
        have ane : a ≠ p0 := fun z => w3 i (z ▸ hO)
        rw [eh, upd_ne ane]
        refine S3 _ _ (hid_of (by rw [upd_ne ane]; exact w1) w2 fun j z => w3 j (cutO_some z).2)
      · by_cases c : a = p0
        · subst c
          rw [upd_same] at h ⊢
          exact h
        · rw [upd_ne c] at h ⊢
          exact s _ _ h
    exact keysF_use hσ upd_same key
section
variable {X : Cx} {g : Glob} {xk : WX} {pos : Pos}
theorem pf_lcK (i : Nat) {elt tg : Expr} {y : Str} {py : Pos} {ifs : List Expr} {scope : Scope} {own : List (Str × Nat)} {cg : CG} {js : List Nat} {tt : CT} {te : CE} (hc : X.calm = true) (hN : X.N.Nodup) (ok : BlkOk X.N X.env.scope scope own)
    (hg : ∀ (s : Shared) (H : Hp) (C : Addr) (cl : List (Str × Addr)) (fp : List Addr), PDG (X.blk s H scope (compEnvC scope cl C X.env) fp) g js tg cg) (ht : ∀ (s : Shared) (H : Hp) (C : Addr) (cl : List (Str × Addr)) (fp : List Addr), PDTs (X.blk s H scope (compEnvC scope cl C X.env) fp) g xF ifs tt)
    (he : ∀ (s : Shared) (H : Hp) (C : Addr) (cl : List (Str × Addr)) (fp : List Addr), PD (X.blk s H scope (compEnvC scope cl C X.env) fp) g xF elt te) (hj : ∀ j ∈ js, j ∈ own.map (·.2) := by decide)
    (hi : X.N[i]? = some y := by rfl) (hv : Vis X.env.scope y := by first | exact Or.inl rfl | exact Or.inr (Or.inl rfl) | exact Or.inr (Or.inr rfl)) (hd : (y == ("__debug__" : Str)) = false := by decide) (hcd : (y == ("__classdict__" : Str)) = false := by decide)
    (hs : ∀ x, foldedSetIterable (.Name y py) X.env x = pure x := by intro _; rfl) :
    PDF X g xk (.ListComp elt [⟨tg, .Name y py, ifs, 0⟩] scope pos) (cLcK i cg tt te (own.map (·.2))) :=
  ⟨PE.imp (pe_lock (pe_lc hc hN (pi_keys (pe_var hi hv hd hcd)) ok (fun s H C cl fp => (hg s H C cl fp).pg) (fun s H C cl fp => (ht s H C cl fp).pts) (fun s H C cl fp => (he s H C cl fp).pe) hs)) fun σ H Q r => lcK_use hj r⟩
end
end RM
namespace RM
open PySem PySem.Spec PyProof.Rows L2 CS RZ
/-! ### for a, b in zip(x, y) -/
theorem walk_zipT {K : PySem.W.Frag} {a b : Addr} {xs ys : List V} {n : Nat} (hn : n = min xs.length ys.length) : Walk (ItzT K a b) n (fun H => SqT K H a xs ∧ SqT K H b ys) (YPair (fun i => xs[i]?) fun i => ys[i]?) where
  goes i H hi h := ⟨xs, ys, xs[i]'(by omega), ys[i]'(by omega), h.1, h.2, List.getElem?_eq_getElem _, List.getElem?_eq_getElem _⟩
  stops H h := ⟨xs, ys, h.1, h.2, by omega⟩
  yields i H v H' hi h y := by
    obtain ⟨T, x, z, e1, e2, e3, e4, e5⟩ := y
    exact ⟨T, x, z, e1, e2, e3, e4 xs h.1, e5 ys h.2⟩
/-! ### a, b = two new things -/
end RM
namespace RM
open PySem PySem.Spec PyProof.Rows L2 CS RZ
/-! ### last steps out, first steps in, told of a trail -/
section
variable {e : EndsD} {n : Nat} {row : List Str}
theorem pairs_le (row : List Str) : (pairsOf row).length ≤ row.length := by
  rw [pairs_len]
  omega
end
end RM
namespace RM
open PySem PySem.Spec PyProof.Rows L2 CS RZ
/-! ### what is due: the last steps that all trails have -/
end RM
namespace RM
open PySem PySem.Spec PyProof.Rows L2 CS RZ
end RM
namespace RM
open PySem PySem.Spec PyProof.Rows L2 CS RZ
/-! ### k39: what is drawn and asked -/
section
variable {e : EndsD} {n : Nat} {s : Str} {p : List Str} {t1 t2 t3 t4 t5 t6 : Option Sl}
theorem T76.fin (T : T76 s p) : endS s (Lr s p) = endOf s p := T.r.fin
end
end RM
set_option maxHeartbeats 4000000
namespace RM
open PySem PySem.Spec PyProof.Rows L2 CS RZ
/-! ### k39: the answers that are told by hand, computed -/
def two : List Tri := [("a", "b", 2), ("b", "a", 2)]
end RM
set_option maxHeartbeats 4000000
namespace RM
open PySem PySem.Spec PyProof.Rows L2 CS RZ
/-! ### k39, by hand -/
def A1 : List Ed := [("b", "d")]
def A2 : List Ed := [("b", "d"), ("c", "a")]
def A3 : List Ed := [("a", "b"), ("b", "a")]
def sdByHand39 : SpD := fun ds n k _ => ds = [] ∧ k (.bool true) n
end RM
namespace RM
open PySem PySem.Spec PyProof.Rows L2 CS RZ
end RM
namespace RM
open PySem PySem.Spec PyProof.Rows L2 CS RZ
/-! ### first steps out of a place (k34) -/
end RM
namespace RM
open PySem PySem.Spec PyProof.Rows L2 CS RZ
end RM
namespace RM
open PySem PySem.Spec PyProof.Rows L2 CS RZ
/-! ### first_outs, first_ins, last_ins -/
end RM
set_option maxHeartbeats 4000000
namespace RM
open PySem PySem.Spec PyProof.Rows L2 CS RZ
/-! ### firstsL computed; what all trails have: first and last steps at one place (k34) -/
end RM
namespace RM
open PySem PySem.Spec PyProof.Rows L2 CS RZ
/-! ### last steps out of several places together (k37, k38, k40) -/
end RM
namespace RM
open PySem PySem.Spec PyProof.Rows L2 CS RZ
/-! ### kept, can_be_last (k37, k38, k40) -/
end RM
namespace RM
open PySem PySem.Spec PyProof.Rows L2 CS RZ
/-! ### can_be_last (k37) -/
end RM
namespace RM
open PySem PySem.Spec PyProof.Rows L2 CS RZ
/-! ### k37's law side: the last exits of a trail -/
end RM
namespace RM
open PySem PySem.Spec PyProof.Rows L2 CS RZ
/-! ### v = [[], [], [], []], of which the lists grow in a loop: nobody else knows them -/
def outs (H : Hp) (S : List Addr) : Hp := fun b => if b ∈ S then none else H b
section
variable {C : Ctx} {ρ : En} {n : Nat} {σ : L2.St} {H H' Hx : Hp} {O : Ow} {a : Addr} {o : HO} {S : List Addr}
theorem outs_mono (s : Same H H') : Same (outs H S) (outs H' S) := fun b o h => by
  unfold outs at h ⊢
  split at h
  · cases h
  · rename_i c
    rw [if_neg c]
    exact s _ _ h
end
/-- slot iG holds the list at p of the lists at qs, which hold gs; nobody else knows them -/
structure Gh (C : Ctx) (iG : Nat) (p : Addr) (qs : List Addr) (gs : List (List D)) (ρ : En) (n : Nat) (σ : L2.St) (H : Hp) (O : Ow) : Prop where
  ev : Ev C ρ n σ (outs H (p :: qs)) O
  slot : σ[iG]? = some (some (.ref p))
  nd : (p :: qs).Nodup
  top : H p = some (.lst (qs.map V.ref))
  rows : ∀ (j : Nat) (q : Addr), qs[j]? = some q → ∃ us g, H q = some (.lst us) ∧ gs[j]? = some g ∧ IsL C.T (hid C O (outs H (p :: qs))) us g
  len : gs.length = qs.length
section
variable {X : Cx} {g : Glob} {xk : WX} {pos : Pos} {iG : Nat}
theorem Gh.ext {C : Ctx} {ρ : En} {n : Nat} {σ : L2.St} {H H' : Hp} {O : Ow} {p : Addr} {qs : List Addr} {gs : List (List D)} (G : Gh C iG p qs gs ρ n σ H O) (s : Same H H') : Gh C iG p qs gs ρ n σ H' O :=
  ⟨G.ev.ext (outs_mono s), G.slot, G.nd, s _ _ G.top, fun j q hj => let ⟨us, l, h1, h2, h3⟩ := G.rows j q hj; ⟨us, l, s _ _ h1, h2, h3.same (hid_same (outs_mono s))⟩, G.len⟩
end
end RM
namespace RM
open PySem PySem.Spec PyProof.Rows L2 CS RZ
/-! ### [f1, f2, f3, f4][e](..): a def out of a list of defs -/
end RM
namespace RM
open PySem PySem.Spec PyProof.Rows L2 CS RZ
/-! ### last_outs and the others, of a place that is none too (k34) -/
/-- counts that are had, and so are the turned ones -/
structure Q34 (s : Str) (L : List Tri) : Prop where
  pc : Pc s L
  had : hadL s L = true
  pct : Pc (endS s L) (turnL L)
  hadt : hadL (endS s L) (turnL L) = true
  he : endS (endS s L) (turnL L) = s
theorem ends_ex {L : List Tri} (c : Cn L) (a : Str) : ends L a ↔ ∃ e ∈ exL L, e.1 = a ∨ e.2 = a := by
  constructor
  · rintro ⟨t, ht, h⟩
    exact ⟨pr t, (mem_ex c.pos _).mpr (List.mem_map_of_mem ht), h⟩
  · rintro ⟨e, he, h⟩
    obtain ⟨t, ht, rfl⟩ := List.mem_map.mp ((mem_ex c.pos _).mp he)
    exact ⟨t, ht, h⟩
theorem Q34.pl {s : Str} {L : List Tri} (q : Q34 s L) (a : Str) : inPl (endS s L) (turnL L) a = inPl s L a := by
  have h1 : ends (turnL L) a ↔ ends L a := by
    rw [ends_ex q.pct.cn, ends_ex q.pc.cn]
    constructor
    · rintro ⟨e, he, h⟩
      obtain ⟨d, hd, rfl⟩ := List.mem_map.mp ((ex_turn q.pc.cn q.pct.cn).mem_iff.mp he)
      exact ⟨d, hd, h.symm⟩
    · rintro ⟨e, he, h⟩
      exact ⟨swE e, (ex_turn q.pc.cn q.pct.cn).mem_iff.mpr (List.mem_map_of_mem he), h.symm⟩
  rw [Bool.eq_iff_iff, inPl_iff, inPl_iff]
  constructor
  · rintro (rfl | h)
    · exact (places_mem _).mp end_in
    · exact .inr (h1.mp h)
  · rintro (rfl | h)
    · have := (places_mem _).mp (end_in (s := endS a L) (L := turnL L))
      rw [q.he] at this
      exact this
    · exact .inr (h1.mpr h)
/-! what the law is told -/
end RM
namespace RM
open PySem PySem.Spec PyProof.Rows L2 CS RZ
/-! ### _law_ends_due (k34) -/
/-- ys is what sorted(set(xs)) tells -/
structure SS (ys xs : List Str) : Prop where
  nd : ys.Nodup
  mem : ∀ p, p ∈ ys ↔ p ∈ xs
  pw : sortedS ys = true
end RM
namespace RM
open PySem PySem.Spec PyProof.Rows L2 CS RZ
/-! ### k34's turn -/
section
variable {s a b : Str} {L : List Tri}
theorem SS.one {ys xs zs : List Str} (h : SS ys xs) (pw : zs.Pairwise leS) (nd : zs.Nodup) (hm : ∀ p, p ∈ zs ↔ p ∈ xs) : zs = ys :=
  sorted_one pw (sorted_pw h.pw) nd h.nd fun p => (hm p).trans (h.mem p).symm
end
end RM
set_option maxHeartbeats 4000000
namespace RM
open PySem PySem.Spec PyProof.Rows L2 CS RZ
/-! ### xs + ys as a new list -/
/-! ### for x in a text -/
/-! ### k34, by hand -/
def G1 : List (List (List Str)) := [[["b", "c"], ["b", "c"], ["c"], ["c"]], [["d"], ["c"], ["a", "c"], ["a", "c"]], [["a", "b"], ["a", "b"], ["a", "b"], ["a", "b"]], [[], [], ["b"], ["b"]]]
def G2 : List (List (List Str)) := G1 ++ ([[["b", "c"], ["b", "c"], ["b", "c"], ["b", "c"]], [["c"], ["b"], ["b"], ["b"]]] : List (List (List Str)))
def G3 : List (List (List Str)) := G2 ++ ([[[], [], [], []]] : List (List (List Str)))
def G4 : List (List (List Str)) := G3 ++ ([[["c"], ["b"], ["b"], ["b"]]] : List (List (List Str)))
def G5 : List (List (List Str)) := G4 ++ ([[["b", "c"], ["b", "c"], ["b", "c"], ["b", "c"]]] : List (List (List Str)))
def G6 : List (List (List Str)) := G5 ++ ([[["a"], ["a"], ["a"], ["a"]]] : List (List (List Str)))
def G7 : List (List (List Str)) := G6 ++ ([[["d"], ["c"], ["a"], ["c"]]] : List (List (List Str)))
end RM
namespace RM
open PySem PySem.Spec PyProof.Rows L2 CS RZ
/-! ### {x: y} of two names -/
end RM
set_option maxHeartbeats 4000000
namespace CS
open PySem PySem.Spec PyProof.Rows L2
end CS
set_option maxHeartbeats 4000000
namespace CS
open PySem PySem.Spec PyProof.Rows L2
open RZ
end CS
namespace RM
open PySem PySem.Spec PyProof.Rows L2 CS RZ
/-! ### for p in zip(x, y), two tuples, p a name -/
end RM
namespace CS
open PySem PySem.Spec PyProof.Rows L2
/-! ### except (A, B, C) as n -/
end CS
namespace RM
/-! ### determinants, by the first row -/
section
variable {R C : Type} (e : R → C → Int)
def E1 (r : R) : List C → (List C → Int) → Int
  | [], _ => 0
  | c :: cs, F => e r c * F cs - E1 r cs (fun l => F (c :: l))
def det : List R → List C → Int
  | [], [] => 1
  | [], _ :: _ => 0
  | r :: rs, cs => E1 e r cs (det rs)
variable {e}
/-! rows -/
/-! columns -/
/-! other names for rows and columns -/
/-- a factor of each row -/
def prodI : List Int → Int
  | [] => 1
  | a :: l => a * prodI l
end
end RM
namespace RM
open PySem PySem.Spec PyProof.Rows L2 CS RZ
/-! ### how many journeys: a determinant (the steps of one kind told apart) -/
def fac : Nat → Int
  | 0 => 1
  | n + 1 => ((n + 1 : Nat) : Int) * fac n
end RM
namespace RM
open PySem PySem.Spec PyProof.Rows L2 CS RZ
/-! ### how many journeys: the theorem -/
end RM
namespace RM
open PySem PySem.Spec PyProof.Rows L2 CS RZ
/-! ### how many journeys: the steps of one kind alike -/
def FL (L : List Tri) : Int := prodI (L.map fun t => fac t.2.2.toNat)
theorem FL_cons (t : Tri) (L : List Tri) : FL (t :: L) = fac t.2.2.toNat * FL L := rfl
theorem FL_filter : ∀ L : List Tri, FL (L.filter fun t => decide (0 < t.2.2)) = FL L
  | [] => rfl
  | t :: L => by
    by_cases c : 0 < t.2.2
    · rw [List.filter_cons_of_pos (by simpa using c), FL_cons, FL_cons, FL_filter L]
    · rw [List.filter_cons_of_neg (by simpa using c), FL_cons, FL_filter L]
      have : t.2.2.toNat = 0 := by omega
      rw [this]
      show _ = 1 * _
      omega
end RM
namespace RM
open PySem PySem.Spec PyProof.Rows L2 CS RZ
/-! ### determinants, row by row without remainders (Bareiss) -/
abbrev Row := List Int
def gt (r : Row) (j : Nat) : Int := r.getD j 0
/-- the rows' determinant -/
def dl (M : List Row) : Int := det gt M (List.range M.length)
end RM
namespace RM
open PySem PySem.Spec PyProof.Rows L2 CS RZ
/-! ### great numbers: *, //, & 1; enumerate; comb, perm, gcd -/
/-! enumerate -/
end RM
namespace RM
open PySem PySem.Spec PyProof.Rows L2 CS RZ
/-! ### choices and arrangements -/
end RM
namespace RM
open PySem PySem.Spec PyProof.Rows L2 CS RZ
/-! ### arrangements -/
end RM
namespace RM
open PySem PySem.Spec PyProof.Rows L2 CS RZ
/-! ### determinant -/
end RM
namespace RM
open PySem PySem.Spec PyProof.Rows L2 CS RZ
/-! ### exit_numbers, orders, last_ways -/
end RM
namespace RM
open PySem PySem.Spec PyProof.Rows L2 CS RZ
/-! ### tree_sum -/
end RM
namespace RM
open PySem PySem.Spec PyProof.Rows L2 CS RZ
/-! ### how_many is how many there are -/
end RM
namespace RM
open PySem PySem.Spec PyProof.Rows L2 CS RZ
/-! ### how_many -/
end RM
set_option maxHeartbeats 4000000
namespace RM
open PySem PySem.Spec PyProof.Rows L2 CS RZ
/-! ### a op b op c as a test -/
/-! ### for a, b in zip(text, list) -/
end RM
namespace RM
open PySem PySem.Spec PyProof.Rows L2 CS RZ
/-! ### isinstance of one built-in type, a op b op c as a value, a constant of the module, a sign in a text, text.split(text) -/
end RM
namespace RM
open PySem PySem.Spec PyProof.Rows L2 CS RZ
/-! ### what text.split(" > ") tells -/
abbrev sepT : Str := " > "
theorem sep_len : sepT.length = 3 := by decide +kernel
end RM
namespace RM
open PySem PySem.Spec PyProof.Rows L2 CS RZ
/-! ### is_place, is_journey, journey_of of any text (k43) -/
abbrev letT : Str := "abcdefghijklmnopqrstuvwxyz"
def plcL (l : List Nat) : Bool := decide (1 ≤ l.length) && (decide (l.length ≤ 8) && l.all fun c => decide (c ∈ letT.cps.toList))
def placeB (z : Str) : Bool := plcL z.cps.toList
theorem len_list (z : Str) : z.length = z.cps.toList.length := by rw [Array.length_toList]; rfl
theorem place_in {l : List Nat} (h : plcL l = true) : 1 ≤ l.length ∧ l.length ≤ 8 ∧ ∀ c ∈ l, c ∈ letT.cps.toList := by
  unfold plcL at h
  simp only [Bool.and_eq_true, decide_eq_true_eq, List.all_eq_true] at h
  exact ⟨h.1, h.2.1, h.2.2⟩
/-! what is glued comes apart -/
abbrev cpl (z : Str) : List Nat := z.cps.toList
theorem cpl_app (a b : Str) : cpl (a ++ b) = cpl a ++ cpl b := by
  show (a.cps ++ b.cps).toList = _
  simp
end RM
namespace RM
open PySem PySem.Spec PyProof.Rows L2 CS RZ
/-! ### is_place, is_journey, journey_text, journey_of, what is heard (k43) -/
theorem neD_strS {a b : Str} (ha : GoodS a) (hb : GoodS b) : neD (.str a) (.str b) = some (.bool (decide (a ≠ b))) := by
  have h := eqD_str ha hb
  unfold eqD at h
  unfold neD
  split at h
  · rename_i c
    rw [if_pos c]
    have h : PyData.eqv (.str a) (.str b) = decide (a = b) := by
      have := Option.some.inj h
      exact PyData.bool.inj this
    rw [h]
    simp
  · cases h
end RM
namespace RM
open PySem PySem.Spec PyProof.Rows L2 CS RZ
/-! ### spoilt texts (k43) -/
theorem good_iff {z : Str} : GoodS z ↔ ∀ c ∈ cpl z, c < 0x110000 := by
  show z.cps.all (· < 0x110000) = true ↔ _
  rw [Array.all_eq_true_iff_forall_mem]
  constructor
  · intro h c hc
    have := h c (by simpa [cpl] using hc)
    simpa using this
  · intro h c hc
    have := h c (by simpa [cpl] using hc)
    simpa using this
theorem good_app {a b : Str} (ha : GoodS a) (hb : GoodS b) : GoodS (a ++ b) := good_iff.mpr fun c hc => by
  rw [cpl_app] at hc
  rcases List.mem_append.mp hc with h | h
  · exact good_iff.mp ha c h
  · exact good_iff.mp hb c h
theorem good_sep : GoodS sepT := (by decide +kernel : (PyData.str sepT).canLay0 = true)
theorem good_join : ∀ ys : List Str, (∀ y ∈ ys, GoodS y) → GoodS (Str.join sepT ys)
  | [], _ => (by decide +kernel : (PyData.str Str.empty).canLay0 = true)
  | [x], h => h x (List.mem_singleton.mpr rfl)
  | x :: y :: r, h => good_app (good_app (h x (List.mem_cons_self ..)) good_sep) (good_join (y :: r) fun z hz => h z (List.mem_cons_of_mem _ hz))
theorem len_join : ∀ ys : List Str, (∀ y ∈ ys, y.length ≤ 8) → (Str.join sepT ys).length ≤ ys.length * 11
  | [], _ => Nat.le_refl _
  | [x], h => by
    have := h x (List.mem_singleton.mpr rfl)
    show x.length ≤ _
    rw [List.length_singleton]
    omega
  | x :: y :: r, h => by
    have ih := len_join (y :: r) fun z hz => h z (List.mem_cons_of_mem _ hz)
    have := h x (List.mem_cons_self ..)
    show (x ++ sepT ++ Str.join sepT (y :: r)).length ≤ _
    rw [Str.length_append, Str.length_append, sep_len, List.length_cons]
    omega
theorem place_len {z : Str} (h : placeB z = true) : z.length ≤ 8 := by
  rw [len_list]
  exact (place_in h).2.1
end RM
set_option maxHeartbeats 4000000
namespace RM
open PySem PySem.Spec PyProof.Rows L2 CS RZ
/-! ### k17: _law_chosen, _law_all_steps -/
end RM
set_option maxHeartbeats 4000000
namespace RM
open PySem PySem.Spec PyProof.Rows L2 CS RZ
/-! ### how many journeys rows of any order have -/
theorem canon_filt {R : List Tri} (h : (R.map pr).Nodup) : (canon R).Perm (R.filter fun t => decide (0 < t.2.2)) := by
  have n1 : (canon R).Nodup := List.Pairwise.of_map pr (fun a b c e => c (by rw [e])) (canon_nodup R)
  have n2 : R.Nodup := List.Pairwise.of_map pr (fun a b c e => c (by rw [e])) h
  refine (List.perm_ext_iff_of_nodup n1 (n2.sublist List.filter_sublist)).mpr fun t => ?_
  rw [List.mem_filter, decide_eq_true_iff]
  constructor
  · intro ht
    obtain ⟨h1, h2, h3⟩ := canon_mem ht
    obtain ⟨u, hu, e⟩ := List.mem_map.mp h1
    have e2 : t.2.2 = u.2.2 := by
      rw [h3, ← e, ← numAt_sum h, numAt_mem h hu]
    have : t = u := Prod.ext (congrArg Prod.fst e).symm (Prod.ext (congrArg Prod.snd e).symm e2)
    rw [this]
    exact ⟨hu, by rw [← e2]; exact h2⟩
  · rintro ⟨ht, h0⟩
    unfold canon
    have e1 : sumAt R (pr t) = t.2.2 := by rw [← numAt_sum h, numAt_mem h ht]
    refine List.mem_map.mpr ⟨pr t, List.mem_filter.mpr ⟨?_, ?_⟩, ?_⟩
    · rw [(List.mergeSort_perm _ _).mem_iff, mem_firsts]
      exact List.mem_map_of_mem ht
    · rw [e1]
      exact decide_eq_true h0
    · rw [e1]
      rfl
theorem ex_perm {A B : List Tri} (h : A.Perm B) : (exL A).Perm (exL B) := by
  unfold exL
  exact h.flatMap_right _
theorem FL_perm {A B : List Tri} (h : A.Perm B) : FL A = FL B := by
  unfold FL
  have h2 := h.map fun t : Tri => fac t.2.2.toNat
  revert h2
  generalize (A.map fun t : Tri => fac t.2.2.toNat) = a
  generalize (B.map fun t : Tri => fac t.2.2.toNat) = b
  intro h2
  induction h2 with
  | nil => rfl
  | cons x _ ih => show x * _ = x * _; rw [ih]
  | swap x y l => show y * (x * _) = x * (y * _); rw [← Int.mul_assoc, Int.mul_comm y x, Int.mul_assoc]
  | trans _ _ a b => exact a.trans b
structure Rw (R : List Tri) : Prop where
  g : GoodL R
  fine : Fine R
  nd : (R.map pr).Nodup
  len : R.length ≤ 30
theorem Rw.ex {R : List Tri} (h : Rw R) : (exL (canon R)).Perm (exL R) := by
  have := ex_perm (canon_filt h.nd)
  rwa [ex_filter] at this
theorem Rw.fl {R : List Tri} (h : Rw R) : FL (canon R) = FL R := by
  rw [FL_perm (canon_filt h.nd), FL_filter]
theorem Rw.cn {R : List Tri} (h : Rw R) : Cn (canon R) := cn_canon h.fine h.g h.len
/-- what how_many and Counts ask of rows -/
theorem Rw.pc {R : List Tri} (h : Rw R) {s : Str} (gs : GoodS s) (hs : s ≠ "none") (hn : ∀ t ∈ R, t.1 ≠ "none" ∧ t.2.1 ≠ "none") : Pc s (canon R) := by
  refine ⟨h.cn, gs, h.cn.len, fun p hp => ?_⟩
  rcases (places_mem p).mp hp with rfl | ⟨t, ht, h2⟩
  · exact hs
  · have hm := (canon_filt h.nd).mem_iff.mp ht
    have hm := (List.mem_filter.mp hm).1
    rcases h2 with rfl | rfl
    · exact (hn t hm).1
    · exact (hn t hm).2
end RM
set_option maxHeartbeats 4000000
namespace RM
open PySem PySem.Spec PyProof.Rows L2 CS RZ
/-! ### k17: round trips from one place; three places in a row -/
end RM
set_option maxHeartbeats 4000000
namespace RM
open PySem PySem.Spec PyProof.Rows L2 CS RZ
/-! ### k17: _law_great_right -/
end RM
set_option maxHeartbeats 4000000
namespace RM
open PySem PySem.Spec PyProof.Rows L2 CS RZ
/-! ### k17, by hand -/
end RM
set_option maxHeartbeats 4000000
namespace RM
open PySem PySem.Spec PyProof.Rows L2 CS RZ
end RM
set_option maxHeartbeats 4000000
namespace RM
open PySem PySem.Spec PyProof.Rows L2 CS RZ
/-! ### k17: drawn turns -/
section
variable {e : EndsD} {n : Nat} {t1 t2 t3 t4 t5 t6 t7 t8 : Option Sl} {ss : List Str}
/-- the counts of a drawn walk, or of drawn steps -/
structure D17 (ss : List Str) (L : List Tri) : Prop where
  cn : Cn L
  sub : ∀ t ∈ L, t.1 ∈ ss ∧ t.2.1 ∈ ss
  len : (exL L).length ≤ 10
  s4 : ∀ s ∈ ss, s ∈ tagPool
  le : ss.length ≤ 4
theorem D17.pc {L : List Tri} {s : Str} (h : D17 ss L) (hs : s ∈ ss) : Pc s L := by
  have := pc_of h.cn.fine h.cn.g h.cn.len (tag_good _ (h.s4 _ hs)) (tag_none _ (h.s4 _ hs)) (fun t ht => ⟨tag_none _ (h.s4 _ (h.sub t ht).1), tag_none _ (h.s4 _ (h.sub t ht).2)⟩)
  rwa [h.cn.id] at this
theorem D17.size {L : List Tri} {s : Str} (h : D17 ss L) (hs : s ∈ ss) : (8 * (exL L).length + 2) * 2 ^ (placesL s L).length ≤ 9000 := by
  have h1 : (placesL s L).length ≤ ss.length := nodup_le places_nd fun p hp => by
    rcases (places_mem p).mp hp with rfl | ⟨t, ht, rfl | rfl⟩
    · exact hs
    · exact (h.sub t ht).1
    · exact (h.sub t ht).2
  have h2 : 2 ^ (placesL s L).length ≤ 2 ^ 4 := Nat.pow_le_pow_right (by decide) (Nat.le_trans h1 h.le)
  have h3 := h.len
  have h4 : (8 * (exL L).length + 2) * 2 ^ (placesL s L).length ≤ (8 * 10 + 2) * 2 ^ 4 := Nat.mul_le_mul (by omega) h2
  exact Nat.le_trans h4 (by decide)
theorem D17.nn {L : List Tri} {s : Str} (h : D17 ss L) (hs : s ∈ ss) : nn ([], s, L) ≤ 9864101 := nn_five (tag_good _ (h.s4 _ hs)) h.cn (by have := h.le; omega) h.sub (by have := h.len; omega)
end
end RM
namespace RM
open PySem PySem.Spec PyProof.Rows L2 CS
/-! ### values that _law_same asks, with long lists -/
end RM
namespace RM
open PySem PySem.Spec PyProof.Rows L2 CS RZ
/-! ### the list of all journeys stands in order, each once -/
/-! ### turned journeys -/
end RM
set_option maxHeartbeats 4000000
namespace RM
open PySem PySem.Spec PyProof.Rows L2 CS RZ
/-! ### k12: a drawn journey turned -/
end RM
namespace RM
open PySem PySem.Spec PyProof.Rows L2 CS RZ
/-! ### zip of two sequences, each a list or a tuple (true: a tuple) -/
end RM
namespace RM
open PySem PySem.Spec PyProof.Rows L2 CS RZ
/-! ### determinant of rows that are lists or tuples, in any mix -/
end RM
namespace RM
open PySem PySem.Spec PyProof.Rows L2 CS RZ
/-! ### k16: a determinant by its first row; orders by what can come first -/
/-! ### orders of things, by what comes first -/
end RM
set_option maxHeartbeats 4000000
namespace RM
open PySem PySem.Spec PyProof.Rows L2 CS RZ
/-! ### (..) * 0 and (..) * 1 -/
end RM
namespace RM
open PySem PySem.Spec PyProof.Rows L2 CS RZ
/-! ### k16: _law_det -/
end RM
namespace RM
open PySem PySem.Spec PyProof.Rows L2 CS RZ
end RM
namespace RM
open PySem PySem.Spec PyProof.Rows L2 CS RZ
/-! ### k16: _law_strung, factorial -/
end RM
namespace RM
open PySem PySem.Spec PyProof.Rows L2 CS RZ
/-! ### sum of a tuple of numbers -/
end RM
namespace RM
open PySem PySem.Spec PyProof.Rows L2 CS RZ
/-! ### k16: _law_strung whole, factorial, _law_mixed -/
/-! factorial -/
/-! _law_mixed -/
end RM
namespace RM
open PySem PySem.Spec PyProof.Rows L2 CS RZ
/-! ### a, b, c = x, y, [] : the last one this frame's own -/
end RM
namespace RM
open PySem PySem.Spec PyProof.Rows L2 CS RZ
/-! ### a, b, c = x, y, z -/
end RM
namespace RM
open PySem PySem.Spec PyProof.Rows L2 CS RZ
/-! ### the defs of k43: spoilt texts, the text of steps -/
section
variable {e : EndsD}
theorem cat_fit {a b : List D} (h : decide (a.length + b.length ≤ lim) = true) : addD (.list a) (.list b) = some (.list (a ++ b)) := if_pos (of_decide_eq_true h)
end
/-! the text of steps -/
end RM
namespace RM
open PySem PySem.Spec PyProof.Rows L2 CS RZ
/-! ### by hand (k43) -/
theorem okS_row (k : Nat) (ps : List Str) (h : ps.length ≤ 1000) : okS (k + 2) (rowT ps) := by
  refine ⟨by unfold strD; rw [List.length_map]; exact h, fun d hd => ?_⟩
  unfold strD at hd
  obtain ⟨p, _, rfl⟩ := List.mem_map.mp hd
  exact trivial
section
variable {e : EndsD} {n : Nat} {t0 t1 : Option Sl}
theorem gd {z : Str} (h : (PyData.str z).canLay0 = true) : GoodS z := h
end
end RM
namespace RM
open PySem PySem.Spec PyProof.Rows L2 CS RZ
/-! ### how many journeys have told last steps: the determinant of what is kept -/
def okK (la : Str → Option Str) (e : Ed) : Bool := decide (la e.1 = none ∨ la e.1 = some e.2)
def PK (la : Str → Option Str) : Nat → Str → List Ed → Int
  | 0, _, _ => 1
  | n + 1, s, E => ((E.filter fun e => decide (e.1 = s)).map fun e => if outN E s = 1 ∧ okK la e = false then 0 else PK la n e.2 (E.erase e)).sum
end RM
namespace RM
open PySem PySem.Spec PyProof.Rows L2 CS RZ
/-! ### how many journeys of all have told last steps -/
/-! one place alone -/
/-! what is kept -/
end RM
namespace RM
open PySem PySem.Spec PyProof.Rows L2 CS RZ
/-! ### how many journeys leave a place by a told step at a told time -/
end RM
namespace RM
open PySem PySem.Spec PyProof.Rows L2 CS RZ
/-! ### tree_sum of a list or a tuple -/
end RM
namespace RM
open PySem PySem.Spec PyProof.Rows L2 CS RZ
/-! ### fractions in lowest terms -/
/-! lowest -/
/-! _law_fraction -/
end RM
namespace RM
open PySem PySem.Spec PyProof.Rows L2 CS RZ
/-! ### share_of, share_last, share_first_in -/
end RM
namespace RM
open PySem PySem.Spec PyProof.Rows L2 CS RZ
/-! ### in how many of all journeys a step with a number leads to a place -/
end RM
namespace RM
open PySem PySem.Spec PyProof.Rows L2 CS RZ
/-! ### defs with keyword-only parameters that may be left out -/
end RM
namespace RM
open PySem PySem.Spec PyProof.Rows L2 CS RZ
/-! ### share_last, share_first_in -/
end RM
namespace RM
open PySem PySem.Spec PyProof.Rows L2 CS RZ
/-! ### share_out, share_in -/
end RM
namespace RM
open PySem PySem.Spec PyProof.Rows L2 CS RZ
/-! ### the law's own shares (k35) -/
end RM
namespace RM
open PySem PySem.Spec PyProof.Rows L2 CS RZ
/-! ### steps out of a place, into it; what is heard of a share (k36) -/
end RM
namespace RM
open PySem PySem.Spec PyProof.Rows L2 CS RZ
/-! ### places that are none; by hand (k35) -/
abbrev fD (x y : Int) : D := .tuple [.int x, .int y]
end RM
namespace RM
open PySem PySem.Spec PyProof.Rows L2 CS RZ
/-! ### k35's turn -/
end RM
namespace RM
open PySem PySem.Spec PyProof.Rows L2 CS RZ
/-! ### a pair of places, all numbers (k36) -/
end RM
namespace RM
open PySem PySem.Spec PyProof.Rows L2 CS RZ
/-! ### the same at all numbers but the last; by hand (k36) -/
/-! by hand -/
def B1 : List D := [fD 1 3, fD 2 3, fD 2 3]
def B2 : List D := [fD 1 3, fD 2 3, fD 2 3, fD 1 3, fD 1 1, fD 0 1]
end RM
namespace RM
open PySem PySem.Spec PyProof.Rows L2 CS RZ
/-! ### k36's turn -/
end RM
namespace RM
open PySem PySem.Spec PyProof.Rows L2 CS RZ
/-! ### k43's turn -/
structure T43 (s : Str) (p : List Str) : Prop where
  t : T76 s p
  pl : ∀ y ∈ s :: p, placeB y = true
  gd : ∀ y ∈ s :: p, GoodS y
  ch : ∀ e ∈ pairsOf (s :: p), e.1 ≠ e.2
  hl : (s :: p).length ≤ 13
section
variable {e : EndsD} {n : Nat} {s : Str} {p : List Str} {t1 t2 t3 t4 t5 t6 : Option Sl}
theorem T43.gl (T : T43 s p) : GoodS (Str.join sepT (s :: p)) := good_join _ T.gd
theorem T43.ll (T : T43 s p) : (Str.join sepT (s :: p)).length ≤ 200 := by
  have := len_join (s :: p) fun y hy => place_len (T.pl y hy)
  have := T.hl
  omega
end
end RM
namespace RM
open PySem PySem.Spec PyProof.Rows L2 CS RZ
/-! ### k43's turns -/
end RM
set_option maxHeartbeats 4000000
namespace CS
open PySem PySem.Spec PyProof.Rows L2
/-! ### defs that are called where no repr is under way -/
structure FnG (P : Program) (w : World) (K : PySem.W.Frag) (mg : Str → Option Value) (base : Heap) (k : Nat) (f : Addr) (fd : FuncData) (ps : List Str) (sp : Sp) : Prop where
  len : ∀ vs H Q E, sp vs H Q E → vs.length = ps.length
  run : ∀ (A : Around) (outer : List Env) (s : Shared) (H : Hp) (args : Args) (us : List Value) (vs : List V) (Q : VK) (E : XK), A.guards = some [] → Room k A → Env0 P w K mg base A outer s H → BindsTo s fd args (ps.zip us) → Vals vs us → sp vs H Q E →
    codeAny (model P w) A (.call (.ref f) args) (CR CX0 outer P w H s Q E) s
section
variable {K : PySem.W.Frag} {P : Program} {w : World} {mg : Str → Option Value} {base : Heap}
theorem FnG.of {CX : CXT} {k : Nat} {f : Addr} {fd : FuncData} {ps : List Str} {sp : Sp} (F : FnOk P w K mg base CX0 k f fd ps sp) : FnG P w K mg base k f fd ps sp := ⟨F.len, fun A outer s H args us vs Q E _ => F.run A outer s H args us vs Q E⟩
end
end CS
namespace RM
open PySem PySem.Spec PyProof.Rows L2 CS RZ
/-! ### a op b op c op .. as a test, of any length -/
section
variable {X : Cx} {g : Glob} {xk : WX} {pos p : Pos}
def tLinks : List (R2 × TE) → V → TT
  | [], _ => fun _ _ _ => False
  | [(r, tb)], x => fun σ H Q => tb σ H fun y H1 => r x y H1 fun z H2 => ∃ k, z = .bl k ∧ Q k H2
  | (r, tb) :: l :: ls, x => fun σ H Q => tb σ H fun y H1 => r x y H1 fun z H2 => ∃ k, z = .bl k ∧ (if k = true then tLinks (l :: ls) y σ H2 Q else Q false H2)
inductive LkT (X : Cx) : List CmpOp → List Expr → List (R2 × TE) → Prop
  | one {op : CmpOp} {r : R2} {b : Expr} {tb : TE} : OpR X (compareOp op) r → PE X b tb → LkT X [op] [b] [(r, tb)]
  | cons {op op' : CmpOp} {ops : List CmpOp} {r : R2} {b b' : Expr} {bs : List Expr} {tb : TE} {l : R2 × TE} {ls : List (R2 × TE)} : OpR X (compareOp op) r → PE X b tb → LkT X (op' :: ops) (b' :: bs) (l :: ls) → LkT X (op :: op' :: ops) (b :: b' :: bs) ((r, tb) :: l :: ls)
theorem LkT.run {ops : List CmpOp} {bs : List Expr} {ls : List (R2 × TE)} (h : LkT X ops bs ls) : ∀ (pins : List (Addr × Obj)) (s : Shared) (σ : L2.St) (H : Hp) (Q : Bool → Hp → Prop) (x : V) (v : Value), Inv X pins σ H s → RelV x v → tLinks ls x σ H Q →
    wpAny (model X.prog X.w) X.A (testChain pos v ops (evalEach bs X.env)) (TP X pins σ Q) X.xe s := by
  induction h with
  | one ho hb =>
    intro pins s σ H Q x v I rx h
    exact test_last (thn (hb.run pins s σ H _ I h) fun u s2 ⟨y, H2, I2, r2, q2⟩ => thn (ho pins s2 σ H2 x y v u _ I2 rx r2 q2) fun d s5 ⟨z2, H5, I5, r5, k2, e2, q5⟩ => by
      subst e2
      cases r5
      exact wpAny_truthy_bool ⟨H5, I5, q5⟩)
  | cons ho hb _ ih =>
    intro pins s σ H Q x v I rx h
    refine test_link (thn (hb.run pins s σ H _ I h) fun u s2 ⟨y, H2, I2, r2, q2⟩ => thn (ho pins s2 σ H2 x y v u _ I2 rx r2 q2) fun d s3 ⟨z, H3, I3, r3, k, e, q3⟩ => ?_)
    subst e
    cases r3
    refine wpAny_truthy_bool ?_
    cases k with
    | false => exact ite_ff ⟨H3, I3, q3⟩
    | true => exact ite_tt (ih pins s3 σ H3 Q y u I3 r2 q3)
/-! ### repr of data, where no repr is under way -/
end
theorem FnG.imp {P : Program} {w : World} {K : PySem.W.Frag} {mg : Str → Option Value} {base : Heap} {k : Nat} {f : Addr} {fd : FuncData} {ps : List Str} {sp sp' : Sp} (F : FnG P w K mg base k f fd ps sp) (h : ∀ vs H Q E, sp' vs H Q E → sp vs H Q E) : FnG P w K mg base k f fd ps sp' :=
  ⟨fun vs H Q E z => F.len vs H Q E (h _ _ _ _ z), fun A outer s H args us vs Q E a b c d e z => F.run A outer s H args us vs Q E a b c d e (h _ _ _ _ z)⟩
end RM
namespace RM
open PySem PySem.Spec PyProof.Rows L2 CS RZ
/-! ### isinstance(x, int): a bool is one, too -/
/-! ### things that may be crossings (k68) -/
/-- a small number -/
def SmI (i : Int) : Prop := -(2 ^ 200) < i ∧ i < 2 ^ 200
/-- a member of such a thing -/
inductive Me : D → Prop
  | int {i : Int} (h : SmI i) : Me (.int i)
  | non : Me .none
  | bl (b : Bool) : Me (.bool b)
  | str {z : Str} (h : GoodS z) (hl : z.length ≤ 5) : Me (.str z)
  | tup {is : List Int} (h : ∀ i ∈ is, SmI i) (hl : is.length ≤ 5) : Me (.tuple (is.map PyData.int))
/-! check_size, cut -/
theorem len_strD (row : List Str) : (strD row).length = row.length := by unfold strD; rw [List.length_map]
/-- the stretches -/
def stS (row : List Str) (f i : Nat) : List Str := (row.drop i).take f
def cutS (row : List Str) (f : Nat) : List (List Str) := (List.range (row.length + 1 - f)).map (stS row f)
theorem slice_seq {x : D} {l : List D} (h : seqD x = some l) (lo hi : Option Int) : ∃ z, sliceD x lo hi = some z ∧ seqD z = some (cutL l lo hi) := by
  cases x <;> first | (cases h; exact ⟨_, rfl, rfl⟩) | cases h
end RM
namespace RM
open PySem PySem.Spec PyProof.Rows L2 CS RZ
/-! ### is_crossing_by (k68) -/
def condB (row : List Str) (f : Nat) (a b c e : Int) : Prop := 0 ≤ a ∧ a < b ∧ b ≤ c ∧ c < e ∧ e < ((row.length + 2 - f : Nat) : Int)
instance {row : List Str} {f : Nat} {a b c e : Int} : Decidable (condB row f a b c e) := by unfold condB; infer_instance
def fourB (row : List Str) (f : Nat) (a b c e : Int) : Bool := decide (condB row f a b c e) && (decide (stS row (f - 1) a.toNat = stS row (f - 1) c.toNat) && (decide (stS row (f - 1) b.toNat = stS row (f - 1) e.toNat) && !decide (stS row (f - 1) (a.toNat + 1) = stS row (f - 1) (c.toNat + 1))))
def crossB (row : List Str) (f : Nat) : D → Bool
  | .tuple [.int a, .int b, .int c, .int e] => fourB row f a b c e
  | _ => false
end RM
namespace RM
open PySem PySem.Spec PyProof.Rows L2 CS RZ
/-! ### what the law calls a crossing (k68) -/
theorem OkN.non (k : Nat) : OkN k .none := ⟨rfl, by simp [PyData.canLay0], by simp [PyData.depth]⟩
theorem OkN.bl (k : Nat) (b : Bool) : OkN k (.bool b) := ⟨rfl, by simp [PyData.canLay0], by simp [PyData.depth]⟩
theorem Me.ok {d : D} (h : Me d) : OkN 1 d := by
  cases h with
  | int _ => exact OkN.int _ _
  | non => exact OkN.non _
  | bl b => exact OkN.bl _ b
  | str g _ => exact OkN.str _ g
  | tup _ _ =>
    refine OkN.tuple fun d hd => ?_
    obtain ⟨i, _, rfl⟩ := List.mem_map.mp hd
    exact OkN.int _ _
end RM
namespace RM
open PySem PySem.Spec PyProof.Rows L2 CS RZ
/-! ### rows of four numbers; things that are bent (k68) -/
/-! bent -/
end RM
namespace RM
open PySem PySem.Spec PyProof.Rows L2 CS RZ
/-! ### what is shown of such things (k68) -/
end RM
namespace RM
open PySem PySem.Spec PyProof.Rows L2 CS RZ
/-! ### k68's turn -/
theorem lists_strD : ∀ row : List Str, listsDs (strD row) = strD row
  | [] => rfl
  | s :: row => by
    show listsD (.str s) :: listsDs (strD row) = _
    rw [lists_strD row]
    rfl
theorem lists_row (row : List Str) : listsD (rowT row) = .list (strD row) := by
  show PyData.list (listsDs (strD row)) = _
  rw [lists_strD]
end RM
namespace RM
open PySem PySem.Spec PyProof.Rows L2 CS RZ
/-! ### by hand (k68) -/
def trip5 : List Str := ["a", "b", "a", "c", "a"]
def far9 : List Str := ["a", "b", "c", "a", "b", "d", "a", "b", "e"]
def i4 (a b c d : Int) : D := .tuple [.int a, .int b, .int c, .int d]
def Am6 : List D := [i4 0 2 2 4, .list [.int 0, .int 2, .int 2, .int 4], .tuple [.int 0, .int 2, .int 2], .tuple [.int 0, .int 2, .int 2, .int 4, .int 4], i4 0 1 2 4, i4 0 2 4 4]
def Am10 : List D := Am6 ++ [i4 2 2 2 4, .none, .int 5, .str "0224"]
def Am15 : List D := Am10 ++ [.tuple [.bool false, .int 2, .int 2, .int 4], i4 0 2 2 5, i4 0 2 2 (-1), .tuple [i4 0 2 2 4], .tuple []]
def M17 : List D := Am15 ++ [.tuple [.str "0", .int 2, .int 2, .int 4], i4 0 0 2 4]
abbrev hb (g : Option Sl) (t2 : Option Sl) : En := [some (.v (.list M17)), g, t2, some (.v (rowT trip5)), some (.v (rowT far9)), none]
section
variable {e : EndsD} {n : Nat} {t0 t1 t2 t3 t4 : Option Sl}
theorem cv {row : List Str} {f : Nat} {d : D} {b : Bool} {k : D → Prop} (h : crossB row f d = b) (q : k (.bool b)) : k (.bool (crossB row f d)) := by rw [h]; exact q
end
end RM
namespace RM
open PySem PySem.Spec PyProof.Rows L2 CS RZ
/-! ### a, b = [a text], dict(pairs) : both this frame's own -/
def Ctx.hideT (C : Ctx) (p : Addr) (us : List V) : Ctx := { C with Z := fun a => C.Z a ∨ a = p, H0 := fun a => if a = p then some (.lst us) else C.H0 a }
section
variable {us : List V} {ds : List D} {C : Ctx} {ρ : En} {n : Nat} {σ : L2.St} {H H' : Hp} {O : Ow} {p : Addr}
theorem hideT_eq : (C.hideT p us).H0 p = some (.lst us) := if_pos rfl
theorem hideT_ne {a : Addr} (h : a ≠ p) : (C.hideT p us).H0 a = C.H0 a := if_neg h
theorem ev_hideT (E : Ev C ρ n σ H O) (hn : H p = none) : Ev (C.hideT p us) ρ n σ (upd H p (.lst us)) O ∧ Same (hid C O H) (hid (C.hideT p us) O (upd H p (.lst us))) := by
  obtain ⟨f1, f2, f3, f4⟩ := E.fresh hn
  have S : Same (hid C O H) (hid (C.hideT p us) O (upd H p (.lst us))) := fun a o h => by
    obtain ⟨h1, h2, h3⟩ := hid_some h
    have ne : a ≠ p := ne_of_none h1 hn
    exact hid_of (by rw [upd_ne ne]; exact h1) (fun z => z.elim h2 ne) h3
  refine ⟨⟨E.len, fun i d e => ?_, fun i d e => ?_, fun i q h => ?_, E.inj, fun a z => ?_, fun a xs z => ?_, fun a o h hb => ?_, fun b h => ?_, E.slf, E.vis.trans S⟩, S⟩
  · obtain ⟨v, h1, h2⟩ := E.val i d e
    exact ⟨v, h1, h2.same S⟩
  · obtain ⟨q, h1, h2, h3⟩ := E.own i d e
    obtain ⟨o, ho⟩ := h3.some
    exact ⟨q, h1, h2, h3.same S (upd_ne (ne_of_none ho hn))⟩
  · refine ⟨(E.only i q h).1, ?_⟩
    rw [hideT_ne (p := p) (a := q) fun z => f2 i (z ▸ h)]
    exact (E.only i q h).2
  · rcases z with z | rfl
    · rw [hideT_ne (p := p) (a := a) fun w => f1 (w ▸ z)]
      exact E.zs a z
    · exact ⟨_, hideT_eq⟩
  · rcases z with z | rfl
    · rw [hideT_ne (p := p) (a := a) fun w => f1 (w ▸ z)]
      exact E.zt a xs z
    · rw [hideT_eq]
      exact fun w => nomatch w
  · by_cases c : a = p
    · subst c
      rw [hideT_eq] at h
      cases h
      exact upd_same
    · rw [hideT_ne c] at h
      rw [upd_ne c]
      exact E.keep a o h hb
  · have ne : b ≠ p := fun z => f4 (z ▸ h)
    refine ⟨.inl (E.box b h).1, ?_⟩
    obtain ⟨A, B, D, e, r⟩ := (E.box b h).2
    exact ⟨A, B, D, by rw [upd_ne ne]; exact e, r⟩
theorem ev_showT (hl : ∀ (T : Tab) (H : Hp), IsL T H us ds) (E : Ev (C.hideT p us) ρ n σ H O) {i : Nat} (hi : i < ρ.length) (hb : C.T.bx ≠ some p) (h0 : C.H0 p = none) (hz : ¬ C.Z p) :
    Ev C (ρ.set i (some (Sl.own (.list ds)))) n (σ.set i (some (.ref p))) H (putO O i p) ∧ Same (hid (C.hideT p us) O H) (hid C (putO O i p) H) := by
  have hp : H p = some (.lst us) := E.keep p _ hideT_eq hb
  have noO : ∀ j, O j ≠ some p := fun j z => by
    have := (E.only j p z).2
    rw [hideT_eq] at this
    cases this
  have S : Same (hid (C.hideT p us) O H) (hid C (putO O i p) H) := fun a o h => by
    obtain ⟨h1, h2, h3⟩ := hid_some h
    refine hid_of h1 (fun z => h2 (.inl z)) fun j z => ?_
    rcases putO_some z with ⟨_, e⟩ | ⟨_, e⟩
    · exact h2 (.inr e)
    · exact h3 j e
  refine ⟨⟨?_, fun j d h => ?_, fun j d h => ?_, fun j q h => ?_, fun j k q h1 h2 => ?_, fun a z => ?_, fun a xs z => ?_, fun a o h hb2 => ?_, fun b h => ?_, fun p' hp' j q d h1 h2 h3 => ?_, E.vis.trans S⟩, S⟩
  · rw [List.length_set, List.length_set]
    exact E.len
  · by_cases c : j = i
    · subst c
      rw [List.getElem?_set_self hi] at h
      cases h
    · rw [List.getElem?_set_ne (Ne.symm c)] at h ⊢
      obtain ⟨u, h1, h2⟩ := E.val j d h
      exact ⟨u, h1, h2.same S⟩
  · by_cases c : j = i
    · subst c
      rw [List.getElem?_set_self hi] at h
      cases h
      rw [List.getElem?_set_self (by rw [← E.len]; exact hi)]
      refine ⟨p, ?_, rfl, .lst hp (hl _ _)⟩
      unfold putO
      rw [if_pos rfl]
    · rw [List.getElem?_set_ne (Ne.symm c)] at h ⊢
      obtain ⟨q, h1, h2, h3⟩ := E.own j d h
      refine ⟨q, ?_, h2, h3.same S rfl⟩
      unfold putO
      rw [if_neg c]
      exact h1
  · rcases putO_some h with ⟨rfl, rfl⟩ | ⟨c, h⟩
    · rw [List.getElem?_set_self hi]
      exact ⟨⟨_, rfl⟩, h0⟩
    · rw [List.getElem?_set_ne (Ne.symm c)]
      obtain ⟨h1, h2⟩ := E.only j q h
      refine ⟨h1, ?_⟩
      rw [hideT_ne (p := p) (a := q) fun z => noO j (z ▸ h)] at h2
      exact h2
  · rcases putO_some h1 with ⟨a1, a2⟩ | ⟨_, a1⟩
    · rcases putO_some h2 with ⟨b1, _⟩ | ⟨_, b1⟩
      · rw [a1, b1]
      · exact absurd (a2 ▸ b1) (noO k)
    · rcases putO_some h2 with ⟨_, b2⟩ | ⟨_, b1⟩
      · exact absurd (b2 ▸ a1) (noO j)
      · exact E.inj j k q a1 b1
  · obtain ⟨o, ho⟩ := E.zs a (.inl z)
    rw [hideT_ne (p := p) (a := a) fun w => hz (w ▸ z)] at ho
    exact ⟨o, ho⟩
  · have := E.zt a xs (.inl z)
    rw [hideT_ne (p := p) (a := a) fun w => hz (w ▸ z)] at this
    exact this
  · refine E.keep a o ?_ hb2
    rw [hideT_ne (p := p) (a := a) fun w => by rw [w, h0] at h; cases h]
    exact h
  · obtain ⟨z, bx⟩ := E.box b h
    exact ⟨z.elim id fun w => (hb (w ▸ h)).elim, bx⟩
  · by_cases c : j = i
    · subst c
      rw [List.getElem?_set_self hi] at h2
      cases h2
      cases h3
    · rw [List.getElem?_set_ne (Ne.symm c)] at h2
      rcases putO_some h1 with ⟨a1, _⟩ | ⟨_, a1⟩
      · exact (c a1).elim
      · exact E.slf p' hp' j q d a1 h2 h3
end
def cDictS (t : CE) : CE := fun ρ n k ke => t ρ n (fun d ρ1 n1 => ∃ ps : List (Str × D), d = .list (pairsD ps) ∧ (ps.map Prod.fst).Nodup ∧ k (.dict ((.none, .bool false) :: strK ps)) ρ1 n1) ke
def cParLD (i j : Nat) (ta tb : CE) : CS := fun ρ n e => i < ρ.length ∧ j < ρ.length ∧ ta ρ n (fun x ρ1 n1 => ∃ z : Str, x = .str z ∧ ρ1.length = ρ.length ∧ tb ρ1 n1 (fun d ρ2 n2 => ρ2.length = ρ.length ∧ e.nx ((ρ2.set i (some (Sl.own (.list [.str z])))).set j (some (Sl.own d))) n2) kF) kF
section
variable {X : Cx} {g : Glob} {xk : WX} {pos p : Pos}
theorem pf_dictS {e : Expr} {te : CE} (hc : X.calm = true) (G : Good X g) (hg : Gl X "dict") (hm : X.mg "dict" = none) (he : PD X g xk e te)
    (hs : starEach [e] X.env = (false, eval e X.env) :: starEach [] X.env := by rfl) (hpl : (backTo pos (starEach [] X.env)).any (·.1) = false := by rfl) : PDF X g xk (.Call (.Name "dict" p) [e] [] pos) (cDictS te) := by
  refine ⟨PE.imp (pe_callTy (call_dictP hc) hg hm (by decide +kernel) (pa_cons he.pe pa_nil hs) (by decide) (by decide) hs hpl) fun σ H Q h => ?_⟩
  obtain ⟨C, ρ, n, O, k, ke, hK, E, t, x, q⟩ := h
  refine ⟨C, ρ, n, O, _, ke, hK, E, t, x, fun d ρ1 n1 v H1 O1 k1 E1 S1 i1 => ?_⟩
  obtain ⟨ps, rfl, hn, k1⟩ := k1
  obtain ⟨a, us, rfl, ha, r⟩ := i1.list'
  obtain ⟨as, kvs, rfl, h1, h2, h3⟩ := isL_pairs r
  refine ⟨a, as, kvs, rfl, SqL.of (hid_le _ _ ha), (hK.1.trans G.K) ▸ paired_sq hid_le h1, fun p hp => ?_⟩
  have hm : L2.mergeK [] kvs = kvs := by
    refine merge_new kvs [] ?_
    rw [List.nil_append, h3]
    have : (ps.map fun p => (Sum.inr p.1 : L2.Key)) = (ps.map Prod.fst).map Sum.inr := by rw [List.map_map]; rfl
    rw [this]
    exact List.Pairwise.map _ (fun a b hab z => hab (Sum.inr.inj z)) hn
  rw [hm]
  exact q _ _ _ p H1 _ O1 k1 E1 S1 hp (same_new hp) (.dk upd_same h2) rfl
/-- the same where one of both is a cell -/
theorem pds_parLDc {i j : Nat} {x y : Str} {a b : Expr} {ta tb : CE} {px py pt pn : Pos} {kt k2 pt2} (hc : X.calm = true) (hN : X.N.Nodup) (hi : X.N[i]? = some x) (hj : X.N[j]? = some y)
    (hx : L2.Loc X.env.scope x) (hy : L2.Loc X.env.scope y) (ha : PD X g xk a ta) (hb : PDF X g xk b tb)
    (fx : X.fn x = true ∨ X.env.scope.names.lookup x = some .local := by first | exact Or.inl rfl | exact Or.inr rfl) (fy : X.fn y = true ∨ X.env.scope.names.lookup y = some .local := by first | exact Or.inl rfl | exact Or.inr rfl)
    (hst0 : starEach [a] X.env = (false, eval a X.env) :: starEach [] X.env := by rfl)
    (hst : starEach [.List [a] pn, b] X.env = (false, eval (.List [a] pn) X.env) :: starEach [b] X.env := by rfl) (hst2 : starEach [b] X.env = (false, eval b X.env) :: starEach [] X.env := by rfl)
    (hs : swapsWithSole [.Tuple [.Name x px, .Name y py] kt pt] (.Tuple [.List [a] pn, b] k2 pt2) pos.line X.env = pure false := by rfl) (hw : swappedStores [.Tuple [.Name x px, .Name y py] kt pt] (.Tuple [.List [a] pn, b] k2 pt2) X.env = pure none := by rfl)
    (h1 : (assignEach [.Tuple [.Name x px, .Name y py] kt pt] X.env).map (·.2) = [assign (.Tuple [.Name x px, .Name y py] kt pt) X.env] := by rfl)
    (t1 : (assignEach [.Name x px, .Name y py] X.env).length = 2 := by rfl) (t2 : (assignEach [.Name x px, .Name y py] X.env).findIdx? (·.1) = none := by rfl)
    (t3 : (assignEach [.Name x px, .Name y py] X.env).map (·.2) = assign (.Name x px) X.env :: (assignEach [.Name y py] X.env).map (·.2) := by rfl)
    (t4 : (assignEach [.Name y py] X.env).map (·.2) = assign (.Name y py) X.env :: (assignEach [] X.env).map (·.2) := by rfl) :
    PDS X g xk (.Assign [.Tuple [.Name x px, .Name y py] kt pt] (.Tuple [.List [a] pn, b] k2 pt2) pos) (cParLD i j ta tb) := by
  refine ⟨ps_imp (ps_asg (pe_tup (pa_cons (pe_lst (pa_cons ha.pe pa_nil hst0)) (pa_cons hb.pe pa_nil hst2) hst)) (pg_tup hc (pgs_cons (pg_name hN hi hx fx) (pgs_cons (pg_name hN hj hy fy) pgs_nil t4) t3) t1 t2) hs hw h1) fun D σ H h => ?_⟩
  obtain ⟨C, ρ, n, O, e, hK, E, ⟨li, lj, t⟩, l⟩ := h
  refine ⟨C, ρ, n, O, _, kF, hK, E, t, fun _ _ _ _ _ _ _ _ h => h.elim, fun d ρ0 n0 v0 H0 O0 k0 E0 S00 i0 => ?_⟩
  obtain ⟨z, rfl, hlen0, k0⟩ := k0
  cases i0
  refine ⟨Nat.succ_le_of_lt (by decide), fun p hp => ?_⟩
  obtain ⟨f1, f2, f3, f4⟩ := E0.fresh hp
  obtain ⟨Ez, S0⟩ := ev_hideT (us := [V.str z]) E0 hp
  refine ⟨C.hideT p [V.str z], ρ0, n0, O0, _, kF, hK, Ez, k0, fun _ _ _ _ _ _ _ _ h => h.elim, fun d ρ1 n1 q H1 H' O1 k1 E1 S1 hq s ow no => ⟨(show (2 : Nat) ≤ sizeLine by decide), fun r hr => ?_⟩⟩
  obtain ⟨hlen, k1⟩ := k1
  obtain ⟨E2, S2⟩ := ev_showT (ds := [PyData.str z]) (fun T H => .cons (.str z) .nil) E1 (i := i) (by rw [hlen]; exact li) f4 f3 f1
  obtain ⟨E3, S3⟩ := E2.setOwn (i := j) (by rw [List.length_set, hlen]; exact lj) hq s (ow.same S2 rfl) no
  exact ⟨r, _, rfl, .inl (.inl upd_same), rfl, _, _, rfl, _, _, rfl, rfl, l.nx _ _ _ _ _ k1 (E3.ext (same_new hr)) (((((S00.trans S0).trans S1).trans S2).trans S3).trans (hid_same (same_new hr)))⟩
end
end RM
namespace RM
open PySem PySem.Spec PyProof.Rows L2 CS RZ
/-! ### going by exit lists (k20) -/
abbrev Xl := List (Str × List Str)
def tagsR (ps : Xl) : List Str := ps.map Prod.fst
def rowOf (ps : Xl) (p : Str) : List Str := ((ps.find? fun x => x.1 = p).map Prod.snd).getD []
def bumpU (u : Str → Nat) (p : Str) : Str → Nat := fun q => if q = p then u q + 1 else u q
def goF (rows : Str → List Str) : Nat → (Str → Nat) → Str → List Str × (Str → Nat)
  | 0, u, _ => ([], u)
  | m + 1, u, p => match (rows p)[u p]? with
    | none => ([], u)
    | some q => (q :: (goF rows m (bumpU u p) q).1, (goF rows m (bumpU u p) q).2)
def leftN (tags : List Str) (rows : Str → List Str) (u : Str → Nat) : Nat := (tags.map fun t => (rows t).length - u t).sum
theorem row_tag {ps : Xl} {p : Str} (h : p ∉ tagsR ps) : rowOf ps p = [] := by
  unfold rowOf
  rw [List.find?_eq_none.mpr fun x hx => by
    simp only [decide_eq_true_eq]
    rintro rfl
    exact h (List.mem_map_of_mem hx)]
  rfl
theorem row_at {ps : Xl} (hn : (tagsR ps).Nodup) {x : Str × List Str} (hx : x ∈ ps) : rowOf ps x.1 = x.2 := by
  unfold rowOf
  induction ps with
  | nil => cases hx
  | cons y ps ih =>
    unfold tagsR at hn
    rw [List.map_cons, List.nodup_cons] at hn
    rw [List.find?_cons]
    rcases List.mem_cons.mp hx with rfl | hx
    · rw [decide_eq_true rfl]
      rfl
    · have hne : y.1 ≠ x.1 := fun z => hn.1 (z ▸ List.mem_map_of_mem hx)
      rw [decide_eq_false hne]
      exact ih hn.2 hx
theorem left_bump {rows : Str → List Str} {u : Str → Nat} {p : Str} (hu : u p < (rows p).length) : ∀ {tags : List Str}, p ∈ tags → leftN tags rows (bumpU u p) < leftN tags rows u := by
  have le : ∀ tags : List Str, leftN tags rows (bumpU u p) ≤ leftN tags rows u := fun tags => by
    induction tags with
    | nil => exact Nat.le_refl _
    | cons t tags ih =>
      unfold leftN at ih ⊢
      rw [List.map_cons, List.map_cons, List.sum_cons, List.sum_cons]
      have : (rows t).length - bumpU u p t ≤ (rows t).length - u t := by
        unfold bumpU
        split <;> omega
      omega
  intro tags
  induction tags with
  | nil => intro h; cases h
  | cons t tags ih =>
    intro h
    have l2 := le tags
    unfold leftN at ih l2 ⊢
    rw [List.map_cons, List.map_cons, List.sum_cons, List.sum_cons]
    rcases List.mem_cons.mp h with rfl | h
    · have : (rows p).length - bumpU u p p < (rows p).length - u p := by
        unfold bumpU
        rw [if_pos rfl]
        omega
      omega
    · have h1 := ih h
      have : (rows t).length - bumpU u p t ≤ (rows t).length - u t := by
        unfold bumpU
        split <;> omega
      omega
theorem sum_bump {u : Str → Nat} {p : Str} : ∀ {tags : List Str}, tags.Nodup → p ∈ tags → (tags.map (bumpU u p)).sum = (tags.map u).sum + 1
  | [], _, h => by cases h
  | t :: tags, hn, h => by
    rw [List.nodup_cons] at hn
    rw [List.map_cons, List.map_cons, List.sum_cons, List.sum_cons]
    by_cases c : t = p
    · subst c
      have e : tags.map (bumpU u t) = tags.map u := List.map_congr_left fun x hx => by
        have hne : x ≠ t := fun z => hn.1 (z ▸ hx)
        show (if x = t then u x + 1 else u x) = u x
        rw [if_neg hne]
      have e2 : bumpU u t t = u t + 1 := if_pos rfl
      rw [e, e2]
      omega
    · have h2 : p ∈ tags := by
        rcases List.mem_cons.mp h with rfl | h
        · exact absurd rfl c
        · exact h
      have e2 : bumpU u p t = u t := if_neg c
      rw [sum_bump hn.2 h2, e2]
      omega
theorem go_sum {tags : List Str} {rows : Str → List Str} (hn : tags.Nodup) (hr : ∀ p, rows p ≠ [] → p ∈ tags) : ∀ (m : Nat) (u : Str → Nat) (p : Str), (tags.map (goF rows m u p).2).sum = (tags.map u).sum + (goF rows m u p).1.length
  | 0, u, p => rfl
  | m + 1, u, p => by
    unfold goF
    cases h : (rows p)[u p]? with
    | none => rfl
    | some q =>
      have hp : p ∈ tags := hr p fun z => by rw [z] at h; cases h
      have ih := go_sum hn hr m (bumpU u p) q
      rw [sum_bump hn hp] at ih
      show (tags.map (goF rows m (bumpU u p) q).2).sum = _ + ((goF rows m (bumpU u p) q).1.length + 1)
      omega
theorem go_le {rows : Str → List Str} : ∀ (m : Nat) (u : Str → Nat) (p : Str), (∀ t, u t ≤ (rows t).length) → ∀ t, (goF rows m u p).2 t ≤ (rows t).length
  | 0, u, p, h => h
  | m + 1, u, p, h => by
    unfold goF
    cases hq : (rows p)[u p]? with
    | none => exact h
    | some q =>
      refine go_le m (bumpU u p) q fun t => ?_
      unfold bumpU
      have : u p < (rows p).length := (List.getElem?_eq_some_iff.mp hq).1
      split
      · rename_i c
        rw [c]
        omega
      · exact h t
theorem sums_eq {f g : Str → Nat} : ∀ {l : List Str}, (∀ t ∈ l, f t ≤ g t) → (((l.map f).sum = (l.map g).sum) ↔ ∀ t ∈ l, f t = g t)
  | [], _ => ⟨fun _ _ h => absurd h List.not_mem_nil, fun _ => rfl⟩
  | t :: l, h => by
    have ih := sums_eq (f := f) (g := g) (l := l) fun x hx => h x (List.mem_cons_of_mem _ hx)
    have h0 := h t (List.mem_cons_self ..)
    have le : (l.map f).sum ≤ (l.map g).sum := by
      have : ∀ l : List Str, (∀ t ∈ l, f t ≤ g t) → (l.map f).sum ≤ (l.map g).sum := fun l => by
        induction l with
        | nil => intro _; exact Nat.le_refl _
        | cons a l ih =>
          intro h
          have h1 := h a (List.mem_cons_self ..)
          have h2 := ih fun x hx => h x (List.mem_cons_of_mem _ hx)
          rw [List.map_cons, List.map_cons, List.sum_cons, List.sum_cons]
          omega
      exact this l fun x hx => h x (List.mem_cons_of_mem _ hx)
    rw [List.map_cons, List.map_cons, List.sum_cons, List.sum_cons]
    constructor
    · intro e x hx
      rcases List.mem_cons.mp hx with rfl | hx
      · omega
      · exact ih.mp (by omega) x hx
    · intro e
      have e1 := e t (List.mem_cons_self ..)
      have e2 := ih.mpr fun x hx => e x (List.mem_cons_of_mem _ hx)
      omega
def u0 : Str → Nat := fun _ => 0
def totR (ps : Xl) : Nat := (ps.map fun x => x.2.length).sum
def byP (ps : Xl) (s : Str) : List Str × (Str → Nat) := goF (rowOf ps) (leftN (tagsR ps) (rowOf ps) u0 + 1) u0 s
def byL (ps : Xl) (s : Str) : D := if (byP ps s).1.length = totR ps then rowT (s :: (byP ps s).1) else .none
theorem tot_tags {ps : Xl} (hn : (tagsR ps).Nodup) : ((tagsR ps).map fun t => (rowOf ps t).length).sum = totR ps := by
  unfold tagsR totR
  rw [List.map_map]
  congr 1
  exact List.map_congr_left fun x hx => by
    show (rowOf ps x.1).length = _
    rw [row_at hn hx]
theorem row_mem {ps : Xl} (p : Str) (h : rowOf ps p ≠ []) : p ∈ tagsR ps := Classical.byContradiction fun z => h (row_tag z)
/-- all lists are used up just if the way is as long as they are -/
theorem used_up {ps : Xl} (hn : (tagsR ps).Nodup) (s : Str) : ((tagsR ps).all fun t => decide ((byP ps s).2 t = (rowOf ps t).length)) = decide ((byP ps s).1.length = totR ps) := by
  have h1 := go_sum hn (fun p => row_mem (ps := ps) p) (leftN (tagsR ps) (rowOf ps) u0 + 1) u0 s
  have h2 := go_le (rows := rowOf ps) (leftN (tagsR ps) (rowOf ps) u0 + 1) u0 s fun t => Nat.zero_le _
  have h3 : ((tagsR ps).map u0).sum = 0 := by
    have : ∀ l : List Str, (l.map u0).sum = 0 := fun l => by
      induction l with
      | nil => rfl
      | cons a l ih => rw [List.map_cons, List.sum_cons, ih]; rfl
    exact this _
  rw [h3, Nat.zero_add] at h1
  have h4 := sums_eq (f := (byP ps s).2) (g := fun t => (rowOf ps t).length) (l := tagsR ps) fun t _ => h2 t
  rw [tot_tags hn] at h4
  have h1 : ((tagsR ps).map (byP ps s).2).sum = (byP ps s).1.length := h1
  rw [h1] at h4
  by_cases c : (byP ps s).1.length = totR ps
  · rw [decide_eq_true c, List.all_eq_true]
    exact fun t ht => decide_eq_true (h4.mp c t ht)
  · rw [decide_eq_false c, List.all_eq_false]
    obtain ⟨t, ht⟩ := Classical.not_forall.mp fun z => c (h4.mpr z)
    obtain ⟨ht, hne⟩ := Classical.not_imp.mp ht
    exact ⟨t, ht, by simpa using hne⟩
theorem tot_left {ps : Xl} (hn : (tagsR ps).Nodup) : leftN (tagsR ps) (rowOf ps) u0 = totR ps := by
  rw [← tot_tags hn]
  rfl
end RM
namespace RM
open PySem PySem.Spec PyProof.Rows L2 CS RZ
/-! ### by_lists (k20) -/
def prX (b : Bool) (x : Str × List Str) : D := if b then .list [.str x.1, .list (strD x.2)] else .tuple [.str x.1, .tuple (strD x.2)]
def seqX (b : Bool) (l : List Str) : D := if b then .list (strD l) else .tuple (strD l)
theorem seqX_seq (b : Bool) (l : List Str) : seqD (seqX b l) = some (strD l) := by cases b <;> rfl
abbrev n_by_lists : List Str := ["start", "lists", "rows", "used", "path", "here", "place", "row", "_"]
def bl_1 : CS := cOwn 2 (cDc false (cSeq (cVar 1)) (stT (stCons (stN 6) (stCons (stN 7) (stNil)))) (cYes) (cKey (cVar 6)) (cVar 7) [6, 7])
def bl_2 : CS := cOwn 3 (cDNew false)
def bl_3 : CS := cOwn 4 (cLst (cCons (cVar 0) (cNil)))
def bl_c : CT := cB (cOp ltD (cDGet2 (.nm 3) (cKey (cIxQ (.nm 4) (cNeg (cC (.int 1))))) (cC (.int 0))) (cCB gLen (cCons (cDGet2 (.nm 2) (cKey (cIxQ (.nm 4) (cNeg (cC (.int 1))))) (cTup (cNil))) (cNil))))
def bl_b : CS := cSq (cSet 5 (cIxQ (.nm 4) (cNeg (cC (.int 1))))) (cSq (cDrop (cApp 4 (cOp atD (cDGet (.nm 2) (cKey (cVar 5))) (cDGet2 (.nm 3) (cKey (cVar 5)) (cC (.int 0)))))) (cDPut 3 (cKey (cVar 5)) (cOp addD (cDGet2 (.nm 3) (cKey (cVar 5)) (cC (.int 0))) (cC (.int 1)))))
def bl_4 : CS := cWh bl_c bl_b
def bl_5 : CS := cRet (cIf (cB (cOp eqD (cCBQ gLen (.nm 4)) (cOp addD (cC (.int 1)) (cCB gSum (cCons (cLc (cSeq (cVar 1)) (stT (stCons (stN 8) (stCons (stN 7) (stNil)))) (cYes) (cCB gLen (cCons (cVar 7) (cNil))) [8, 7]) (cNil)))))) (cCB gTuple (cCons (cVar 4) (cNil))) (cC .none))
def cs_by_lists : CS := cSq bl_1 (cSq bl_2 (cSq bl_3 (cSq bl_4 (bl_5))))
def sdByLists : SpD := fun ds n k _ => ∃ (s : Str) (x : D) (ps : Xl) (b : Bool), ds = [.str s, x] ∧ seqD x = some (ps.map (prX b)) ∧ (tagsR ps).Nodup ∧ ps.length ≤ 100 ∧ totR ps ≤ 1000 ∧ (∀ y ∈ ps, y.2.length ≤ 1000) ∧ k (byL ps s) n
section
variable {e : EndsD} {n : Nat}
def rowsD (ps : Xl) (b : Bool) : D := .dict ((.none, .bool false) :: tabG (tagsR ps) fun t => seqX b (rowOf ps t))
def usedD (ns : List Str) (u : Str → Nat) : D := .dict ((.none, .bool false) :: tabK ns fun t => ((u t : Nat) : Int))
abbrev vB (s : Str) (x : D) (ps : Xl) (b : Bool) (ns : List Str) (u : Str → Nat) (pre : List Str) (p : Str) (h : Option Sl) : En :=
  [some (.v (.str s)), some (.v x), some (.own (rowsD ps b)), some (.own (usedD ns u)), some (.own (.list (strD (pre ++ [p])))), h, none, none, none]
theorem last_own {pre : List Str} {p : Str} : atD (.list (strD (pre ++ [p]))) (.int (-1)) = some (.str p) := atI_last
theorem used_get {ns : List Str} {u : Str → Nat} (h : ∀ a, a ∉ ns → u a = 0) (p : Str) : (if p ∈ ns then some (PyData.int ((u p : Nat) : Int)) else none).getD (.int 0) = .int ((u p : Nat) : Int) := by
  by_cases c : p ∈ ns
  · rw [if_pos c]
    rfl
  · rw [if_neg c, h p c]
    rfl
theorem rowX_len (ps : Xl) (b : Bool) (p : Str) : lenD ((if p ∈ tagsR ps then some (seqX b (rowOf ps p)) else none).getD (.tuple [])) = some (rowOf ps p).length := by
  by_cases c : p ∈ tagsR ps
  · rw [if_pos c]
    show lenD (seqX b (rowOf ps p)) = _
    rw [lenD_seq (seqX_seq _ _), len_strD]
  · rw [if_neg c, row_tag c]
    rfl
theorem put_used {ns : List Str} {u : Str → Nat} {p : Str} (hl : ns.length < lim) : putD (usedD ns u) (.str p) (.int (((u p : Nat) : Int) + 1)) = some (usedD (putS ns p) (bumpU u p)) := by
  unfold usedD
  rw [put_tabK hl]
  congr 3
  unfold tabK
  refine List.map_congr_left fun q _ => ?_
  show (PyData.str q, PyData.int (if q = p then ((u p : Nat) : Int) + 1 else ((u q : Nat) : Int))) = (.str q, .int ((bumpU u p q : Nat) : Int))
  unfold bumpU
  by_cases c : q = p
  · rw [if_pos c, if_pos c, c]
    rfl
  · rw [if_neg c, if_neg c]
theorem bl_loop {s : Str} {x : D} {ps : Xl} {b : Bool} : ∀ (m : Nat) (ns : List Str) (u : Str → Nat) (pre : List Str) (p : Str) (h : Option Sl), leftN (tagsR ps) (rowOf ps) u < m → (∀ a, a ∉ ns → u a = 0) → ns.length + m ≤ 5000 → pre.length + m ≤ 5000 →
    (∀ (ns : List Str) (pre' : List Str) (p' : Str) (h : Option Sl), pre' ++ [p'] = pre ++ p :: (goF (rowOf ps) m u p).1 → e.nx (vB s x ps b ns (goF (rowOf ps) m u p).2 pre' p' h) n) → cWhL bl_c bl_b m (vB s x ps b ns u pre p h) n e
  | 0, ns, u, pre, p, h, hm, _, _, _, _ => absurd hm (Nat.not_lt_zero _)
  | m + 1, ns, u, pre, p, h, hm, hu, hns, hpre, q => by
    have h5 : (100000 : Nat) ≤ lim := by decide
    refine ⟨rfl, ⟨_, rfl, rfl⟩, rfl, 1, rfl, _, _, rfl, last_own, rfl, _, _, rfl, look_tabK _ _ _, ?_⟩
    rw [used_get hu]
    refine ⟨rfl, ⟨_, rfl, rfl⟩, rfl, 1, rfl, _, _, rfl, last_own, rfl, by show 0 ≤ lim; decide, _, _, rfl, look_tabG _ _ _, _, ⟨_, _, rfl, rowX_len ps b p, rfl⟩, _, rfl, _, rfl, ?_⟩
    by_cases c : u p < (rowOf ps p).length
    rotate_left
    · rw [decide_eq_false (by omega)]
      have e1 : (rowOf ps p)[u p]? = none := List.getElem?_eq_none (by omega)
      have e2 : goF (rowOf ps) (m + 1) u p = ([], u) := by
        unfold goF
        rw [e1]
      rw [e2] at q
      exact q ns pre p h rfl
    rw [decide_eq_true (by omega)]
    show bl_b (vB s x ps b ns u pre p h) n _
    have hp : p ∈ tagsR ps := row_mem p fun z => by rw [z] at c; exact absurd c (Nat.not_lt_zero _)
    have e1 : (rowOf ps p)[u p]? = some (rowOf ps p)[u p] := List.getElem?_eq_getElem c
    have e2 : goF (rowOf ps) (m + 1) u p = ((rowOf ps p)[u p] :: (goF (rowOf ps) m (bumpU u p) (rowOf ps p)[u p]).1, (goF (rowOf ps) m (bumpU u p) (rowOf ps p)[u p]).2) := by
      show (match (rowOf ps p)[u p]? with | none => _ | some q => _) = _
      rw [e1]
    rw [e2] at q
    have hl := left_bump c hp
    have ln := len_putS ns p
    refine ⟨rfl, 1, rfl, _, _, rfl, last_own, ?_⟩
    refine ⟨⟨_, rfl⟩, rfl, rfl, _, seqX b (rowOf ps p), rfl, ?_, ?_⟩
    · show lookD (rowsD ps b) (.str p) = _
      unfold rowsD
      rw [look_tabG, if_pos hp]
    refine ⟨rfl, ⟨_, rfl, rfl⟩, rfl, _, _, rfl, look_tabK _ _ _, ?_⟩
    rw [used_get hu]
    refine ⟨.str (rowOf ps p)[u p], ?_, _, rfl, ?_, ?_⟩
    · rw [atD_seq (seqX_seq b _)]
      refine atI_nat ?_
      unfold strD
      rw [List.getElem?_map, e1]
      rfl
    · rw [len_strD, List.length_append, List.length_singleton]
      omega
    refine ⟨rfl, ⟨_, rfl, rfl⟩, rfl, _, _, rfl, look_tabK _ _ _, ?_⟩
    rw [used_get hu]
    refine ⟨_, rfl, ⟨_, rfl⟩, rfl, _, _, rfl, put_used (by omega), ?_⟩
    have es : strD (pre ++ [p]) ++ [PyData.str (rowOf ps p)[u p]] = strD ((pre ++ [p]) ++ [(rowOf ps p)[u p]]) := by
      unfold strD
      rw [List.map_append (l₂ := [(rowOf ps p)[u p]])]
      rfl
    rw [es]
    refine bl_loop m (putS ns p) (bumpU u p) (pre ++ [p]) (rowOf ps p)[u p] _ (by omega) (fun a ha => ?_) (by omega) (by rw [List.length_append, List.length_singleton]; omega) fun ns' pre' p' h' he => ?_
    · have h1 : a ∉ ns := fun z => ha (mem_putS.mpr (.inl z))
      have h2 : a ≠ p := fun z => ha (mem_putS.mpr (.inr z))
      unfold bumpU
      rw [if_neg h2]
      exact hu a h1
    · refine q ns' pre' p' h' ?_
      rw [he, List.append_assoc]
      rfl
theorem rows_dict {x : D} {s : Str} (b : Bool) {k : D → En → Nat → Prop} : ∀ (qs : Xl) (ns : List Str) (f : Str → D), (ns ++ tagsR qs).Nodup → ns.length + qs.length ≤ 1000 →
    (k (.dict ((.none, .bool false) :: tabG (ns ++ tagsR qs) fun t => if t ∈ ns then f t else seqX b (rowOf qs t))) [some (.v (.str s)), some (.v x), none, none, none, none, none, none, none] n) →
    cDcL (stT (stCons (stN 6) (stCons (stN 7) (stNil)))) cYes (cKey (cVar 6)) (cVar 7) [6, 7] (qs.map (prX b)) [some (.v (.str s)), some (.v x), none, none, none, none, none, none, none] n (.dict ((.none, .bool false) :: tabG ns f)) k
  | [], ns, f, hn, hl, q => by
    have e1 : tabG (ns ++ tagsR []) (fun t => if t ∈ ns then f t else seqX b (rowOf [] t)) = tabG ns f := by
      unfold tabG
      rw [show ns ++ tagsR [] = ns from List.append_nil _]
      refine List.map_congr_left fun t ht => ?_
      show (PyData.str t, if t ∈ ns then f t else seqX b (rowOf [] t)) = _
      rw [if_pos ht]
    rw [e1] at q
    exact q
  | y :: qs, ns, f, hn, hl, q => by
    have h5 : (100000 : Nat) ≤ lim := by decide
    rw [List.length_cons] at hl
    have hy : y.1 ∉ ns := fun z => (List.nodup_append.mp hn).2.2 y.1 z y.1 (List.mem_cons_self ..) rfl
    refine ⟨[some (.v (.str s)), some (.v x), none, none, none, none, some (.v (.str y.1)), some (.v (seqX b y.2)), none], by cases b <;> rfl, ?_⟩
    refine ⟨rfl, _, put_tabG (by omega), ?_⟩
    have ep : putS ns y.1 = ns ++ [y.1] := if_neg hy
    rw [ep]
    refine rows_dict b qs (ns ++ [y.1]) _ ?_ (by rw [List.length_append, List.length_singleton]; omega) ?_
    · rw [List.append_assoc]
      exact hn
    · have e1 : tabG ((ns ++ [y.1]) ++ tagsR qs) (fun t => if t ∈ ns ++ [y.1] then (if t = y.1 then seqX b y.2 else f t) else seqX b (rowOf qs t)) = tabG (ns ++ tagsR (y :: qs)) fun t => if t ∈ ns then f t else seqX b (rowOf (y :: qs) t) := by
        unfold tabG
        rw [List.append_assoc]
        refine List.map_congr_left fun t ht => ?_
        show (PyData.str t, if t ∈ ns ++ [y.1] then (if t = y.1 then seqX b y.2 else f t) else seqX b (rowOf qs t)) = (PyData.str t, if t ∈ ns then f t else seqX b (rowOf (y :: qs) t))
        congr 1
        by_cases c : t ∈ ns
        · have hne : t ≠ y.1 := fun z => hy (z ▸ c)
          rw [if_pos c, if_pos (List.mem_append_left _ c), if_neg hne]
        · rw [if_neg c]
          by_cases c2 : t = y.1
          · subst c2
            rw [if_pos (List.mem_append_right _ (List.mem_singleton.mpr rfl)), if_pos rfl]
            unfold rowOf
            rw [List.find?_cons, decide_eq_true rfl]
            rfl
          · rw [if_neg fun z => (List.mem_append.mp z).elim c fun z => c2 (List.mem_singleton.mp z)]
            unfold rowOf
            rw [List.find?_cons, decide_eq_false fun z => c2 z.symm]
      rw [e1]
      exact q
theorem tot_int : ∀ ps : Xl, (ps.map fun y => ((y.2.length : Nat) : Int)).sum = ((totR ps : Nat) : Int)
  | [] => rfl
  | y :: ps => by
    have ih := tot_int ps
    unfold totR at ih ⊢
    rw [List.map_cons, List.map_cons, List.sum_cons, List.sum_cons, ih]
    omega
theorem himp_by_lists (ds : List D) (n : Nat) (k : D → Nat → Prop) (ke : Xv → Nat → Prop) (h : sdByLists ds n k ke) (he : e.rt = k) : cs_by_lists (startE n_by_lists ds) n e := by
  obtain ⟨s, x, ps, b, rfl, hs, hn, hl, ht, hr, q⟩ := h
  subst he
  have h5 : (100000 : Nat) ≤ lim := by decide
  have hll := tot_left hn
  refine ⟨_, hs, ?_⟩
  show cDcL _ _ _ _ _ (ps.map (prX b)) [some (.v (.str s)), some (.v x), none, none, none, none, none, none, none] n (.dict ((.none, .bool false) :: tabG [] fun _ => .none)) _
  refine rows_dict b ps [] _ hn (by show 0 + _ ≤ _; omega) ?_
  have e1 : tabG ([] ++ tagsR ps) (fun t => if t ∈ ([] : List Str) then PyData.none else seqX b (rowOf ps t)) = tabG (tagsR ps) fun t => seqX b (rowOf ps t) := rfl
  rw [e1]
  refine ⟨by show 2 < 9; decide, by show 3 < 9; decide, by show 1 ≤ lim; decide, by show 4 < 9; decide, ?_⟩
  refine ⟨leftN (tagsR ps) (rowOf ps) u0 + 1, ?_⟩
  show cWhL bl_c bl_b _ (vB s x ps b [] u0 [] s none) n _
  refine bl_loop _ [] u0 [] s none (by omega) (fun _ _ => rfl) (by show 0 + _ ≤ _; omega) (by show 0 + _ ≤ _; omega) fun ns pre' p' h' hp => ?_
  have hp : pre' ++ [p'] = s :: (byP ps s).1 := hp
  have hlen : (byP ps s).1.length ≤ 1000 := by
    have h1 := go_sum hn (fun p => row_mem (ps := ps) p) (leftN (tagsR ps) (rowOf ps) u0 + 1) u0 s
    have h2 := go_le (rows := rowOf ps) (leftN (tagsR ps) (rowOf ps) u0 + 1) u0 s fun t => Nat.zero_le _
    have h3 : ((tagsR ps).map (byP ps s).2).sum ≤ ((tagsR ps).map fun t => (rowOf ps t).length).sum := by
      have : ∀ l : List Str, (l.map (byP ps s).2).sum ≤ (l.map fun t => (rowOf ps t).length).sum := fun l => by
        induction l with
        | nil => exact Nat.le_refl _
        | cons a l ih =>
          have := h2 a
          rw [List.map_cons, List.map_cons, List.sum_cons, List.sum_cons]
          have : (byP ps s).2 a ≤ (rowOf ps a).length := this
          omega
      exact this _
    rw [tot_tags hn] at h3
    have h1 : ((tagsR ps).map (byP ps s).2).sum = ((tagsR ps).map u0).sum + (byP ps s).1.length := h1
    omega
  refine ⟨rfl, _, _, rfl, ⟨_, _, rfl, rfl, rfl⟩, rfl, ?_⟩
  refine ⟨_, hs, ?_⟩
  show cLcL _ _ _ _ (ps.map (prX b)) (vB s x ps b ns (byP ps s).2 pre' p' h') n [] _
  refine map_run (prX b) (fun _ => true) (fun y => .int ((y.2.length : Nat) : Int)) ps [] (fun y hy => ⟨[some (.v (.str s)), some (.v x), some (.own (rowsD ps b)), some (.own (usedD ns (byP ps s).2)), some (.own (.list (strD (pre' ++ [p'])))), h', none, some (.v (seqX b y.2)), some (.v (.str y.1))], by cases b <;> rfl, rfl, fun K1 hK => hK, fun K2 hK => ⟨_, ⟨_, _, rfl, ?_, rfl⟩, hK⟩⟩) (by rw [List.length_nil]; omega) ?_
  · rw [lenD_seq (seqX_seq b _), len_strD]
  rw [filter_true, List.nil_append]
  have e2 : (ps.map fun y => PyData.int ((y.2.length : Nat) : Int)) = intsD (ps.map fun y => ((y.2.length : Nat) : Int)) := by
    unfold intsD
    rw [List.map_map]
    rfl
  rw [e2]
  have e3 := tot_int ps
  refine ⟨_, ⟨_, rfl, rfl⟩, _, rfl, _, eqD_int _ _, _, rfl, ?_⟩
  rw [e3]
  have e4 : (strD (pre' ++ [p'])).length = (byP ps s).1.length + 1 := by rw [len_strD, hp, List.length_cons]
  rw [e4]
  unfold byL at q
  by_cases c : (byP ps s).1.length = totR ps
  · rw [if_pos c] at q
    have : ((((byP ps s).1.length + 1 : Nat) : Int) == 1 + ((totR ps : Nat) : Int)) = true := beq_iff_eq.mpr (by omega)
    rw [this]
    refine ⟨_, ⟨_, _, rfl, rfl, rfl⟩, ?_⟩
    rw [hp]
    exact q
  · rw [if_neg c] at q
    have : ((((byP ps s).1.length + 1 : Nat) : Int) == 1 + ((totR ps : Nat) : Int)) = false := beq_eq_false_iff_ne.mpr (by omega)
    rw [this]
    exact q
end
end RM
namespace RM
open PySem PySem.Spec PyProof.Rows L2 CS RZ
/-! ### _law_follow (k20) -/
abbrev n_follow : List Str := ["_law_start_so", "_law_pairs_so", "_law_where", "_law_fine", "_law_trail", "_law_used", "_law_here", "_law_tag", "_law_ends_so"]
def fl_1 : CS := cParLD 4 5 (cVar 0) (cDictS (cLc (cSeq (cVar 1)) (stT (stCons (stN 7) (stCons (stN 8) (stNil)))) (cYes) (cTup (cCons (cVar 7) (cCons (cC (.int 0)) (cNil)))) [7, 8]))
def fl_2 : CS := cSet 2 (cCB gDictS (cCons (cLc (cSeq (cVar 1)) (stT (stCons (stN 7) (stCons (stN 8) (stNil)))) (cYes) (cTup (cCons (cVar 7) (cCons (cCF gList' (cCons (cVar 8) (cNil))) (cNil)))) [7, 8]) (cNil)))
def fl_c : CT := cAndT (cB (cDIn false (cKey (cIxQ (.nm 4) (cNeg (cC (.int 1))))) (.nm 5))) (cB (cOp ltD (cDGet (.nm 5) (cKey (cIxQ (.nm 4) (cNeg (cC (.int 1)))))) (cCB gLen (cCons (cDGet (.nm 2) (cKey (cIxQ (.nm 4) (cNeg (cC (.int 1)))))) (cNil)))))
def fl_b : CS := cSq (cSet 6 (cIxQ (.nm 4) (cNeg (cC (.int 1))))) (cSq (cDrop (cApp 4 (cOp atD (cDGet (.nm 2) (cKey (cVar 6))) (cDGet (.nm 5) (cKey (cVar 6)))))) (cDPut 5 (cKey (cVar 6)) (cOp addD (cDGet (.nm 5) (cKey (cVar 6))) (cC (.int 1)))))
def fl_3 : CS := cWh fl_c fl_b
def fl_4 : CS := cSet 3 (cCB gAll (cCons (cLcK 5 (stN 7) (cYes) (cOp eqD (cDGet (.nm 5) (cKey (cVar 7))) (cCB gLen (cCons (cDGet (.nm 2) (cKey (cVar 7))) (cNil)))) [7]) (cNil)))
def fl_5 : CS := cRet (cIf (cB (cVar 3)) (cCB gTuple (cCons (cVar 4) (cNil))) (cC .none))
def cs_follow : CS := cSq fl_1 (cSq fl_2 (cSq fl_3 (cSq fl_4 (fl_5))))
def sdFollow : SpD := fun ds n k _ => ∃ (s : Str) (ps : Xl), ds = [.str s, .tuple (ps.map (prX false))] ∧ (tagsR ps).Nodup ∧ ps.length ≤ 100 ∧ totR ps ≤ 1000 ∧ (∀ y ∈ ps, y.2.length ≤ 1000) ∧ k (byL ps s) n
section
variable {e : EndsD} {n : Nat}
abbrev vW (s : Str) (ps : Xl) (t3 : Option Sl) (u : Str → Nat) (pre : List Str) (p : Str) (h : Option Sl) : En :=
  [some (.v (.str s)), some (.v (.tuple (ps.map (prX false)))), some (.v (rowsD ps true)), t3, some (.own (.list (strD (pre ++ [p])))), some (.own (usedD (tagsR ps) u)), h, none, none]
theorem look_used {ps : Xl} {p : Str} (h : p ∈ tagsR ps) (u : Str → Nat) : lookD (usedD (tagsR ps) u) (.str p) = some (some (.int ((u p : Nat) : Int))) := by
  unfold usedD
  rw [look_tabK, if_pos h]
theorem look_rows {ps : Xl} {p : Str} (h : p ∈ tagsR ps) (b : Bool) : lookD (rowsD ps b) (.str p) = some (some (seqX b (rowOf ps p))) := by
  unfold rowsD
  rw [look_tabG, if_pos h]
theorem fl_loop {s : Str} {ps : Xl} : ∀ (m : Nat) (u : Str → Nat) (pre : List Str) (p : Str) (h : Option Sl), leftN (tagsR ps) (rowOf ps) u < m → ps.length ≤ 1000 → pre.length + m ≤ 5000 →
    (∀ (pre' : List Str) (p' : Str) (h : Option Sl), pre' ++ [p'] = pre ++ p :: (goF (rowOf ps) m u p).1 → e.nx (vW s ps none (goF (rowOf ps) m u p).2 pre' p' h) n) → cWhL fl_c fl_b m (vW s ps none u pre p h) n e
  | 0, u, pre, p, h, hm, _, _, _ => absurd hm (Nat.not_lt_zero _)
  | m + 1, u, pre, p, h, hm, hns, hpre, q => by
    have h5 : (100000 : Nat) ≤ lim := by decide
    have hlt : (tagsR ps).length = ps.length := by unfold tagsR; rw [List.length_map]
    refine ⟨rfl, 1, rfl, _, _, rfl, last_own, rfl, rfl, _, _, rfl, look_tabK _ _ _, _, rfl, ?_⟩
    have stop : ¬ u p < (rowOf ps p).length → e.nx (vW s ps none u pre p h) n := fun c => by
      have e1 : (rowOf ps p)[u p]? = none := List.getElem?_eq_none (by omega)
      have e2 : goF (rowOf ps) (m + 1) u p = ([], u) := by
        unfold goF
        rw [e1]
      rw [e2] at q
      exact q pre p h rfl
    by_cases hp : p ∈ tagsR ps
    rotate_left
    · rw [if_neg hp]
      exact stop (by rw [row_tag hp]; exact Nat.not_lt_zero _)
    rw [if_pos hp]
    refine ⟨rfl, rfl, 1, rfl, _, _, rfl, last_own, rfl, _, _, rfl, look_used hp u, ?_⟩
    refine ⟨rfl, rfl, 1, rfl, _, _, rfl, last_own, rfl, _, _, rfl, look_rows hp true, _, ⟨_, _, rfl, (by rw [lenD_seq (seqX_seq _ _), len_strD]), rfl⟩, _, rfl, _, rfl, ?_⟩
    by_cases c : u p < (rowOf ps p).length
    rotate_left
    · rw [decide_eq_false (by omega)]
      exact stop c
    rw [decide_eq_true (by omega)]
    show fl_b (vW s ps none u pre p h) n _
    have e1 : (rowOf ps p)[u p]? = some (rowOf ps p)[u p] := List.getElem?_eq_getElem c
    have e2 : goF (rowOf ps) (m + 1) u p = ((rowOf ps p)[u p] :: (goF (rowOf ps) m (bumpU u p) (rowOf ps p)[u p]).1, (goF (rowOf ps) m (bumpU u p) (rowOf ps p)[u p]).2) := by
      show (match (rowOf ps p)[u p]? with | none => _ | some q => _) = _
      rw [e1]
    rw [e2] at q
    have hl := left_bump c hp
    refine ⟨rfl, 1, rfl, _, _, rfl, last_own, ?_⟩
    refine ⟨⟨_, rfl⟩, rfl, rfl, _, seqX true (rowOf ps p), rfl, look_rows hp true, ?_⟩
    refine ⟨rfl, rfl, _, _, rfl, look_used hp u, ?_⟩
    refine ⟨.str (rowOf ps p)[u p], ?_, _, rfl, ?_, ?_⟩
    · rw [atD_seq (seqX_seq true _)]
      refine atI_nat ?_
      unfold strD
      rw [List.getElem?_map, e1]
      rfl
    · rw [len_strD, List.length_append, List.length_singleton]
      omega
    refine ⟨rfl, rfl, _, _, rfl, look_used hp u, ?_⟩
    refine ⟨_, rfl, ⟨_, rfl⟩, rfl, _, _, rfl, put_used (by omega), ?_⟩
    have es : strD (pre ++ [p]) ++ [PyData.str (rowOf ps p)[u p]] = strD ((pre ++ [p]) ++ [(rowOf ps p)[u p]]) := by
      unfold strD
      rw [List.map_append (l₂ := [(rowOf ps p)[u p]])]
      rfl
    rw [es, show putS (tagsR ps) p = tagsR ps from if_pos hp]
    refine fl_loop m (bumpU u p) (pre ++ [p]) (rowOf ps p)[u p] _ (by omega) hns (by rw [List.length_append, List.length_singleton]; omega) fun pre' p' h' he => ?_
    refine q pre' p' h' ?_
    rw [he, List.append_assoc]
    rfl
theorem himp_follow (ds : List D) (n : Nat) (k : D → Nat → Prop) (ke : Xv → Nat → Prop) (h : sdFollow ds n k ke) (he : e.rt = k) : cs_follow (startE n_follow ds) n e := by
  obtain ⟨s, ps, rfl, hn, hl, ht, hr, q⟩ := h
  subst he
  have h5 : (100000 : Nat) ≤ lim := by decide
  have hll := tot_left hn
  have hlt : (tagsR ps).length = ps.length := by unfold tagsR; rw [List.length_map]
  refine ⟨by show 4 < 9; decide, by show 5 < 9; decide, s, rfl, rfl, ?_⟩
  refine ⟨_, rfl, ?_⟩
  show cLcL _ _ _ _ (ps.map (prX false)) [some (.v (.str s)), some (.v (.tuple (ps.map (prX false)))), none, none, none, none, none, none, none] n [] _
  refine map_run (prX false) (fun _ => true) (fun y => .tuple [.str y.1, .int 0]) ps [] (fun y hy => ⟨[some (.v (.str s)), some (.v (.tuple (ps.map (prX false)))), none, none, none, none, none, some (.v (.str y.1)), some (.v (seqX false y.2))], rfl, rfl, fun K1 hK => hK, fun K2 hK => ⟨by show 2 ≤ lim; decide, hK⟩⟩) (by rw [List.length_nil]; omega) ?_
  rw [filter_true, List.nil_append]
  have e1 : (ps.map fun y => PyData.tuple [.str y.1, .int 0]) = pairsD (ps.map fun y => (y.1, .int 0)) := by
    unfold pairsD
    rw [List.map_map]
    rfl
  refine ⟨_, by rw [e1], by rw [List.map_map]; exact hn, rfl, ?_⟩
  have e2 : strK (ps.map fun y => (y.1, PyData.int 0)) = tabK (tagsR ps) fun t => ((u0 t : Nat) : Int) := by
    unfold strK tabK tagsR
    rw [List.map_map, List.map_map]
    rfl
  rw [e2]
  refine ⟨_, rfl, ?_⟩
  show cLcL _ _ _ _ (ps.map (prX false)) [some (.v (.str s)), some (.v (.tuple (ps.map (prX false)))), none, none, some (.own (.list (strD ([] ++ [s])))), some (.own (usedD (tagsR ps) u0)), none, none, none] n [] _
  refine map_run (prX false) (fun _ => true) (fun y => .tuple [.str y.1, seqX true y.2]) ps [] (fun y hy => ⟨[some (.v (.str s)), some (.v (.tuple (ps.map (prX false)))), none, none, some (.own (.list (strD ([] ++ [s])))), some (.own (usedD (tagsR ps) u0)), none, some (.v (.str y.1)), some (.v (seqX false y.2))], rfl, rfl, fun K1 hK => hK, fun K2 hK => ⟨strD y.2, .inl ⟨_, rfl, rfl⟩, by show 2 ≤ lim; decide, hK⟩⟩) (by rw [List.length_nil]; omega) ?_
  rw [filter_true, List.nil_append]
  have e3 : (ps.map fun y => PyData.tuple [.str y.1, seqX true y.2]) = pairsD (ps.map fun y => (y.1, seqX true y.2)) := by
    unfold pairsD
    rw [List.map_map]
    rfl
  refine ⟨_, ⟨_, by rw [e3], by rw [List.map_map]; exact hn, rfl⟩, ?_⟩
  have e4 : strK (ps.map fun y => (y.1, seqX true y.2)) = tabG (tagsR ps) fun t => seqX true (rowOf ps t) := by
    unfold strK tabG tagsR
    rw [List.map_map, List.map_map]
    refine List.map_congr_left fun y hy => ?_
    show (PyData.str y.1, seqX true y.2) = (PyData.str y.1, seqX true (rowOf ps y.1))
    rw [row_at hn hy]
  rw [e4]
  refine ⟨leftN (tagsR ps) (rowOf ps) u0 + 1, ?_⟩
  show cWhL fl_c fl_b _ (vW s ps none u0 [] s none) n _
  refine fl_loop _ u0 [] s none (by omega) (by omega) (by show 0 + _ ≤ _; omega) fun pre' p' h' hp => ?_
  have hp : pre' ++ [p'] = s :: (byP ps s).1 := hp
  show cSq fl_4 fl_5 (vW s ps none (byP ps s).2 pre' p' h') n e
  refine ⟨tagsR ps, fun t => .int (((byP ps s).2 t : Nat) : Int), rfl, by show 5 < 9; decide, ?_⟩
  show cLcL _ _ _ _ ((tagsR ps).map PyData.str) [some (.v (.str s)), some (.v (.tuple (ps.map (prX false)))), some (.v (rowsD ps true)), none, some (.own (.list (strD (pre' ++ [p'])))), some (.v (usedD (tagsR ps) (byP ps s).2)), h', none, none] n [] _
  refine map_run PyData.str (fun _ => true) (fun t => .bool (decide ((byP ps s).2 t = (rowOf ps t).length))) (tagsR ps) [] (fun t ht => ⟨[some (.v (.str s)), some (.v (.tuple (ps.map (prX false)))), some (.v (rowsD ps true)), none, some (.own (.list (strD (pre' ++ [p'])))), some (.v (usedD (tagsR ps) (byP ps s).2)), h', some (.v (.str t)), none], rfl, rfl, fun K1 hK => hK, fun K2 hK => ?_⟩) (by rw [List.length_nil]; omega) ?_
  · refine ⟨rfl, rfl, _, _, rfl, look_used ht _, rfl, rfl, _, _, rfl, look_rows ht true, _, ⟨_, _, rfl, (by rw [lenD_seq (seqX_seq _ _), len_strD]), rfl⟩, _, eqD_int _ _, ?_⟩
    have : ((((byP ps s).2 t : Nat) : Int) == (((rowOf ps t).length : Nat) : Int)) = decide ((byP ps s).2 t = (rowOf ps t).length) := by
      by_cases c : (byP ps s).2 t = (rowOf ps t).length
      · rw [decide_eq_true c, c]
        exact beq_iff_eq.mpr rfl
      · rw [decide_eq_false c]
        exact beq_eq_false_iff_ne.mpr (by omega)
    rw [this]
    exact hK
  rw [filter_true, List.nil_append]
  have e5 : ((tagsR ps).map fun t => PyData.bool (decide ((byP ps s).2 t = (rowOf ps t).length))) = boolsD ((tagsR ps).map fun t => decide ((byP ps s).2 t = (rowOf ps t).length)) := by
    unfold boolsD
    rw [List.map_map]
    rfl
  rw [e5]
  refine ⟨_, ⟨_, rfl, rfl⟩, _, rfl, ?_⟩
  rw [List.all_map]
  have e6 : ((tagsR ps).all (_root_.id ∘ fun t => decide ((byP ps s).2 t = (rowOf ps t).length))) = decide ((byP ps s).1.length = totR ps) := used_up hn s
  rw [e6]
  unfold byL at q
  by_cases c : (byP ps s).1.length = totR ps
  · rw [if_pos c] at q
    rw [decide_eq_true c]
    refine ⟨_, ⟨_, _, rfl, rfl, rfl⟩, ?_⟩
    rw [hp]
    exact q
  · rw [if_neg c] at q
    rw [decide_eq_false c]
    exact q
end
end RM
set_option maxHeartbeats 4000000
namespace RM
open PySem PySem.Spec PyProof.Rows L2 CS RZ
/-! ### sorted(set(a tuple of texts)), sorted(set(a list or a tuple of texts)) -/
section
variable {P : Program} {w : World} {A : Around} {E : Value → Shared → Prop} {s : Shared} {a : Addr} {ss : List Str}
theorem tx_initU {S l : Addr} {items : Array Value} {ns : List Str} {Q : PySem.Fin → Shared → Prop} (hh : A.handled = none) (hS : s.heap.get? S = some (newSet w)) (hne : l ≠ S) (hl : s.heap.IsTuple l items) (hn : items.size = ns.length) (hb : ∀ cs : List Str, cs.Nodup → (∀ x ∈ cs, x ∈ ns) → cs.length + 1 < scanBound)
    (hit : ∀ (i : Nat) (v : Value), items[i]? = some v → ∃ z t, ns[i]? = some z ∧ v = .str z t) (q : ∀ h' tk, TxFull P w S ns s.heap h' → Q (.done (.ret .none)) { s with heap := h', toks := tk }) :
    wpAny (model P w) A.in1 (Builtin.«set.__init__» ⟨[.ref S, .ref l], []⟩) Q E s := by
  have hT : Shared.TypeIs s (.ref S) "set" := ⟨_, hS, rfl⟩
  obtain ⟨ol, hol, hcl, nl, hdl⟩ := id hl
  obtain ⟨ocls, odict, odata, oslots⟩ := ol
  simp only at hcl hdl
  subst hcl; subst hdl
  have y1 := F.sub_tuple_set
  have y2 := F.sub_tuple_frozenset
  have y3 : (Value.type "tuple" == Value.type "dict") = false := by decide
  unfold Builtin.«set.__init__» noKeywords Builtin.Frozenset.updateFrom
  generalize hPI : pyIter = PI
  wp_walk
  subst hPI
  refine wpAny_pyIter_tuple hl ?_
  refine wpAny_bind (wpAny_runValue ?_)
  have lS := Heap.lt_size hS
  have ll := Heap.lt_size hol
  have up : ∀ {b : Addr} {o : Obj} (u : Obj), s.heap.get? b = some o → (s.heap.push u).get? b = some o := fun u e => Heap.get?_push_of_some u e
  have hSf : S ∉ [s.heap.objs.size, l] := by
    rw [List.mem_cons, List.mem_singleton, not_or]
    exact ⟨Nat.ne_of_lt lS, fun z => hne z.symm⟩
  have hb0 : A.in1.in1.handled = none := by simp [hh]
  refine tx_fillB (Walks.tuple hb0 s.heap.objs.size l (Nat.ne_of_lt ll) items).toS S hSf ns hn hb hit _ 0 _ rfl (Nat.zero_le _) ?g2 ?g0 ?g1
  case g2 => exact ⟨⟨_, Heap.get?_push_size _ rfl, rfl, rfl⟩, hl.push _⟩
  case g0 => exact ⟨[], newSet_tx (up _ hS), Nat.le_refl _, fun x => by simp⟩
  case g1 =>
    rintro ⟨h', g2, d', tk', os'⟩ mv ⟨cs, hc, _, hm⟩
    obtain rfl : g2 = s.gens := mv.gens
    obtain rfl : d' = s.drawn := mv.drawn
    obtain rfl : os' = s.os := mv.os
    show wpAny _ _ _ _ _ _
    refine wpAny_pure ?_
    show wpAny _ _ (ret Value.none) _ _ _
    refine wpAny_pure (q h' tk' ⟨⟨cs, hc, fun x => ?_⟩, fun b o hbS e => mv.heap b o ?_ (up _ e)⟩)
    · rw [hm, hn, List.take_length]
    · rw [List.mem_cons, List.mem_singleton, not_or]
      exact ⟨hbS, Nat.ne_of_lt (Heap.lt_size e)⟩
theorem call_setTU {l : Addr} {items : Array Value} {ns : List Str} {Q : Value → Shared → Prop} (hh : A.handled = none) (hl : s.heap.IsTuple l items) (hn : items.size = ns.length) (hb : ∀ cs : List Str, cs.Nodup → (∀ x ∈ cs, x ∈ ns) → cs.length + 1 < scanBound)
    (hit : ∀ (i : Nat) (v : Value), items[i]? = some v → ∃ z t, ns[i]? = some z ∧ v = .str z t) (q : ∀ h' tk, TxFull P w s.heap.objs.size ns s.heap h' → Q (.ref s.heap.objs.size) { s with heap := h', toks := tk }) :
    wpAny (model P w) A (call (.type "set") [.ref l]) Q E s := by
  have lim0 := Heap.lt_size (show s.heap.get? l = some _ from hl.choose_spec.1)
  have nS : (s.heap.push (newSet w)).get? s.heap.objs.size = some (newSet w) := Heap.get?_push_size _ rfl
  have tS : Shared.TypeIs { s with heap := s.heap.push (newSet w) } (.ref s.heap.objs.size) "set" := ⟨_, nS, rfl⟩
  have m1 := F.called_set.mro
  have m2 := F.called_set.made
  have m3 := F.called_set.sub
  have m4 := F.called_set.notType
  have m5 := F.called_set.canCreate
  have m6 := F.typeCall_set_1 (.ref l)
  have m7 := F.called_set.init.lookup
  have m8 := F.called_set.init.bind (.ref s.heap.objs.size)
  obtain ⟨c1, c2, m1⟩ := m1
  refine wpAny_call (codeAny_of_tree ?_)
  show wpAny _ _ (callAny (.type "set") _) _ _ _
  refine wpAny_pure ⟨Code.quiet_builtin _ (by decide +kernel), codeAny_builtin F.entry_type_call ?_⟩
  rw [Around.under_plain (weight_type_call_type "set" [.ref l] []) rfl]
  repeat any_goals first | assumption | wp_step
  refine codeAny_mono (code_set_led1 (.ref l) (E := E) (Q₁ := fun r s1 => r = .ref s.heap.objs.size ∧ s1 = { s with heap := s.heap.push (newSet w) }) ⟨rfl, rfl⟩) fun r s1 hr => ?_
  match r, hr with
  | .error e, hr => exact hr
  | .ok (.ret r), hr =>
    obtain ⟨rfl, rfl⟩ := hr
    repeat any_goals first | assumption | wp_step
    refine codeAny_mono (codeAny_call_builtin (R := wants (fun r s2 => r = .none ∧ ∃ h' tk, s2 = { s with heap := h', toks := tk } ∧ TxFull P w s.heap.objs.size ns s.heap h') E) F.called_set.init.plain F.entry_set_init (check_set_init_1 tS ?_)) fun r2 s2 hr2 => ?_
    · refine tx_initU (A := A.in1) (by simp [hh]) nS (Nat.ne_of_lt lim0) (hl.push _) hn hb hit fun h' tk ⟨t1, t2⟩ => ?_
      exact ⟨rfl, h', tk, rfl, t1, fun b o z e => t2 b o z (Heap.get?_push_of_some _ e)⟩
    · match r2, hr2 with
      | .error e, hr2 => exact hr2
      | .ok (.ret r2), hr2 =>
        obtain ⟨rfl, h', tk, rfl, t⟩ := hr2
        repeat any_goals first | assumption | wp_step
        exact q h' tk t
end
section
variable {X : Cx} {g : Glob} {xk : WX} {pos pos2 : Pos}
def rSetTU (K : PySem.W.Frag) (P : Program) (w : World) : List V → Hp → VK → Prop := fun xs H Q => ∃ (l : Addr) (ss : List Str), xs = [V.ref l] ∧ (SqL K H l (ss.map V.str) ∨ SqT K H l (ss.map V.str)) ∧ ss.length ≤ 900 ∧
  ∀ a cs, H a = none → (∀ x, x ∈ cs ↔ x ∈ ss) → Q (.ref a) (upd H a (.ext (TxSet P w a cs)))
theorem nodup_short : ∀ {cs ss : List Str}, cs.Nodup → (∀ x ∈ cs, x ∈ ss) → cs.length ≤ ss.length
  | [], _, _, _ => Nat.zero_le _
  | c :: cs, ss, h, hs => by
    rw [List.nodup_cons] at h
    have hc := hs c (List.mem_cons_self ..)
    have ih := nodup_short (cs := cs) (ss := ss.erase c) h.2 fun x hx => (List.mem_erase_of_ne fun (z : x = c) => h.1 (z ▸ hx)).mpr (hs x (List.mem_cons_of_mem _ hx))
    rw [List.length_erase_of_mem hc] at ih
    have := List.length_pos_of_mem hc
    rw [List.length_cons]
    omega
theorem cr_setTU (hc : X.calm = true) : CallR X (.type "set") (rSetTU X.K X.prog X.w) := by
  intro pins s σ H xs us Q I r h
  obtain ⟨l, ss, rfl, hl, hb, q⟩ := h
  have hbb : ∀ cs : List Str, cs.Nodup → (∀ x ∈ cs, x ∈ ss) → cs.length + 1 < scanBound := fun cs c1 c2 => by
    have := nodup_short c1 c2
    unfold scanBound
    omega
  have hn := I.hok.fresh (Nat.le_refl s.heap.objs.size)
  rcases hl with hl | hl
  · rw [Vals.ref1 r]
    obtain ⟨its, rv, pl, hz⟩ := I.list hl
    obtain ⟨e1, e2⟩ := vals_strs rv
    refine call_setTB (P := X.prog) (w := X.w) (ns := ss) (I.ok.hd hc) pl.isList (by simpa using e1) hbb (fun i v hv => e2 i v (by simpa using hv)) fun h' tk ⟨⟨cs, t1, t2⟩, t3⟩ => ?_
    exact ⟨.ref s.heap.objs.size, upd H s.heap.objs.size (.ext (TxSet X.prog X.w s.heap.objs.size cs)), I.laid (t' := tk) (fun b o e => t3 b o (Nat.ne_of_lt (Heap.lt_size e)) e) (Nat.le_refl _) (tx_ok t1), rfl, q _ cs hn t2⟩
  · rw [Vals.ref1 r]
    obtain ⟨its, rv, pl, hz⟩ := I.tuple hl
    obtain ⟨e1, e2⟩ := vals_strs rv
    refine call_setTU (P := X.prog) (w := X.w) (ns := ss) (items := its.toArray) (I.ok.hd hc) pl (by simpa using e1) hbb (fun i v hv => e2 i v (by simpa using hv)) fun h' tk ⟨⟨cs, t1, t2⟩, t3⟩ => ?_
    exact ⟨.ref s.heap.objs.size, upd H s.heap.objs.size (.ext (TxSet X.prog X.w s.heap.objs.size cs)), I.laid (t' := tk) (fun b o e => t3 b o (Nat.ne_of_lt (Heap.lt_size e)) e) (Nat.le_refl _) (tx_ok t1), rfl, q _ cs hn t2⟩
def cSortSetU (t : CE) : CE := fun ρ n k ke => t ρ n (fun d ρ1 n1 => ∃ ss : List Str, seqD d = some (strD ss) ∧ ss.length ≤ 900 ∧ ∀ ys : List Str, ys.Nodup → (∀ p, p ∈ ys ↔ p ∈ ss) → sortedS ys = true → k (.list (strD ys)) ρ1 n1) ke
theorem pf_sortSetU {p p2 : Pos} {e : Expr} {t : CE} (hc : X.calm = true) (hu : X.A.units + 64 < cLine) (G : Good X g) (hg : Gl X "sorted") (hm : X.mg "sorted" = none) (hg2 : Gl X "set") (hm2 : X.mg "set" = none) (ha : PD X g xk e t)
    (hs2 : starEach [e] X.env = (false, eval e X.env) :: starEach [] X.env := by rfl) (hp2 : (backTo pos2 (starEach [] X.env)).any (·.1) = false := by rfl)
    (hs : starEach [.Call (.Name "set" p2) [e] [] pos2] X.env = (false, eval (.Call (.Name "set" p2) [e] [] pos2) X.env) :: starEach [] X.env := by rfl) (hpl : (backTo pos (starEach [] X.env)).any (·.1) = false := by rfl) :
    PDF X g xk (.Call (.Name "sorted" p) [.Call (.Name "set" p2) [e] [] pos2] [] pos) (cSortSetU t) := by
  refine ⟨PE.imp (pe_callB (cr_sortedTx hc hu) hg hm (by decide +kernel) (pa_cons (pe_callTy (cr_setTU hc) hg2 hm2 (by decide +kernel) (pa_cons ha.pe pa_nil hs2) (by decide) (by decide) hs2 hp2) pa_nil hs) (by decide) (by decide) hs hpl) fun σ H Q h => ?_⟩
  obtain ⟨C, ρ, n, O, k, ke, hK, E, t, x, q⟩ := h
  refine ⟨C, ρ, n, O, _, ke, hK, E, t, x, fun d ρ1 n1 v H1 O1 k1 E1 S1 i1 => ?_⟩
  obtain ⟨ss, hsq, hl, k1⟩ := k1
  obtain ⟨a, xs, rfl, r, c⟩ := i1.seq hsq
  rw [r.strs] at c
  have eK := hK.1.trans G.K
  refine ⟨a, ss, rfl, ?_, by omega, fun b cs hb hcs => ?_⟩
  · rcases c with ⟨_, c⟩ | ⟨_, c⟩
    · exact .inl (SqL.of (hid_le _ _ c))
    · exact .inr (eK ▸ sqt_same hid_le c)
  refine ⟨b, cs, rfl, upd_same, fun ys p y1 y2 y3 hp => ?_⟩
  have hne : p ≠ b := fun z => by
    rw [z, upd_same] at hp
    cases hp
  rw [upd_ne hne] at hp
  have hp2 : upd H1 b (.ext (TxSet X.prog X.w b cs)) p = none := by
    rw [upd_ne hne]
    exact hp
  exact q _ _ _ p H1 _ O1 (k1 ys y1 (fun x => (y2 x).trans (hcs x)) y3) E1 S1 hp ((same_new hb).trans (same_new hp2)) (.lst upd_same (isL_strs ys)) rfl
end
end RM
namespace RM
open PySem PySem.Spec PyProof.Rows L2 CS RZ
/-! ### exit lists of a journey (k20) -/
def exS (row : List Str) (p : Str) : List Str := ((pairsOf row).filter fun e => decide (e.1 = p)).map Prod.snd
def exX (row ys : List Str) : Xl := ys.map fun p => (p, exS row p)
def cntU (l : List Ed) : Str → Nat := fun q => (l.filter fun e => decide (e.1 = q)).length
theorem bump_cnt (l : List Ed) (p x : Str) : bumpU (cntU l) p = cntU (l ++ [(p, x)]) := by
  funext q
  unfold bumpU cntU
  rw [List.filter_append, List.length_append]
  by_cases c : q = p
  · subst c
    rw [if_pos rfl]
    simp
  · rw [if_neg c]
    have : (List.filter (fun e : Ed => decide (e.1 = q)) [(p, x)]) = [] := by
      have h : decide ((p, x).1 = q) = false := decide_eq_false fun z => c z.symm
      rw [List.filter_cons, h]
      rfl
    rw [this]
    rfl
theorem go_back {row : List Str} : ∀ (suf : List Str) (pre : List Ed) (p : Str) (m : Nat), pairsOf row = pre ++ pairsOf (p :: suf) → suf.length < m → goF (exS row) m (cntU pre) p = (suf, cntU (pairsOf row))
  | [], pre, p, 0, _, h => absurd h (Nat.not_lt_zero _)
  | [], pre, p, m + 1, e, _ => by
    have e : pairsOf row = pre := by rw [e]; exact List.append_nil _
    have h1 : (exS row p)[cntU pre p]? = none := List.getElem?_eq_none (by
      unfold exS cntU
      rw [List.length_map, e]
      exact Nat.le_refl _)
    unfold goF
    rw [h1, e]
  | x :: suf, pre, p, 0, _, h => absurd h (Nat.not_lt_zero _)
  | x :: suf, pre, p, m + 1, e, h => by
    have e0 : pairsOf (p :: x :: suf) = (p, x) :: pairsOf (x :: suf) := rfl
    have h1 : (exS row p)[cntU pre p]? = some x := by
      unfold exS cntU
      rw [e, e0, List.filter_append, List.map_append]
      have : ((p, x) :: pairsOf (x :: suf)).filter (fun e => decide (e.1 = p)) = (p, x) :: (pairsOf (x :: suf)).filter fun e => decide (e.1 = p) := by
        rw [List.filter_cons, decide_eq_true rfl]
        rfl
      rw [this, List.getElem?_append_right (by rw [List.length_map]; exact Nat.le_refl _), List.length_map, Nat.sub_self]
      rfl
    have ih := go_back suf (pre ++ [(p, x)]) x m (by rw [e, e0, List.append_assoc]; rfl) (by rw [List.length_cons] at h; omega)
    unfold goF
    rw [h1]
    show (x :: (goF (exS row) m (bumpU (cntU pre) p) x).1, (goF (exS row) m (bumpU (cntU pre) p) x).2) = _
    rw [bump_cnt pre p x, ih]
theorem ex_none {row : List Str} {p : Str} (h : p ∉ row.dropLast) : exS row p = [] := by
  unfold exS
  rw [List.filter_eq_nil_iff.mpr fun e he => ?_]
  · rfl
  · simp only [decide_eq_true_eq]
    rintro rfl
    refine h ?_
    have : ∀ (row : List Str) (e : Ed), e ∈ pairsOf row → e.1 ∈ row.dropLast := by
      intro row
      induction row with
      | nil => intro e he; cases he
      | cons x r ih =>
        cases r with
        | nil => intro e he; cases he
        | cons y r =>
          intro e he
          have he : e ∈ (x, y) :: pairsOf (y :: r) := he
          rw [List.dropLast_cons₂]
          rcases List.mem_cons.mp he with rfl | he
          · exact List.mem_cons_self ..
          · exact List.mem_cons_of_mem _ (ih e he)
    exact this row e he
theorem ex_some {row : List Str} {p : Str} (h : p ∈ row.dropLast) : exS row p ≠ [] := by
  have : ∀ row : List Str, p ∈ row.dropLast → exS row p ≠ [] := by
    intro row
    induction row with
    | nil => intro h; cases h
    | cons x r ih =>
      cases r with
      | nil => intro h; cases h
      | cons y r =>
        intro h
        rw [List.dropLast_cons₂] at h
        have e0 : pairsOf (x :: y :: r) = (x, y) :: pairsOf (y :: r) := rfl
        unfold exS
        rw [e0, List.filter_cons]
        by_cases c : x = p
        · rw [decide_eq_true c]
          exact List.cons_ne_nil _ _
        · rw [decide_eq_false c]
          rcases List.mem_cons.mp h with rfl | h
          · exact absurd rfl c
          · exact ih h
  exact this row h
theorem row_ex {row ys : List Str} {qs : Xl} (hq : qs.Perm (exX row ys)) (hn : ys.Nodup) (hy : ∀ p, p ∈ ys ↔ p ∈ row.dropLast) : rowOf qs = exS row := by
  funext p
  have ht : (tagsR qs).Nodup := by
    have : (tagsR qs).Perm ys := by
      have := hq.map Prod.fst
      unfold exX at this
      rw [List.map_map] at this
      have e : ys.map (Prod.fst ∘ fun p => (p, exS row p)) = ys := List.map_id ys
      rw [e] at this
      exact this
    exact this.nodup_iff.mpr hn
  by_cases c : p ∈ ys
  · have : (p, exS row p) ∈ qs := hq.mem_iff.mpr (List.mem_map.mpr ⟨p, c, rfl⟩)
    exact row_at ht this
  · rw [ex_none fun z => c ((hy p).mpr z)]
    refine row_tag fun z => ?_
    obtain ⟨x, hx, e⟩ := List.mem_map.mp z
    obtain ⟨t, ht2, e2⟩ := List.mem_map.mp (hq.mem_iff.mp hx)
    exact c (by rw [← e, ← e2]; exact ht2)
theorem tags_perm {row ys : List Str} {qs : Xl} (hq : qs.Perm (exX row ys)) : (tagsR qs).Perm ys := by
  have := hq.map Prod.fst
  unfold exX at this
  rw [List.map_map] at this
  have e : ys.map (Prod.fst ∘ fun p => (p, exS row p)) = ys := List.map_id ys
  rw [e] at this
  exact this
/-- the lists of a journey, in any order, make it -/
theorem by_back {s : Str} {p ys : List Str} {qs : Xl} (hq : qs.Perm (exX (s :: p) ys)) (hn : ys.Nodup) (hy : ∀ x, x ∈ ys ↔ x ∈ (s :: p).dropLast) : byL qs s = rowT (s :: p) := by
  have ht := (tags_perm hq).nodup_iff.mpr hn
  have er := row_ex hq hn hy
  have pl : (pairsOf (s :: p)).length = p.length := by
    have : ∀ (s : Str) (p : List Str), (pairsOf (s :: p)).length = p.length := by
      intro s p
      induction p generalizing s with
      | nil => rfl
      | cons x p ih => exact congrArg (· + 1) (ih x)
    exact this s p
  have c0 : cntU [] = u0 := rfl
  -- as many steps as the lists are long
  have hsum : p.length < leftN (tagsR qs) (rowOf qs) u0 + 1 := by
    have h1 := go_sum ht (fun p => row_mem (ps := qs) p) (p.length + 1) u0 s
    have h2 := go_le (rows := rowOf qs) (p.length + 1) u0 s fun t => Nat.zero_le _
    have gb := go_back (row := s :: p) p [] s (p.length + 1) rfl (Nat.lt_succ_self _)
    rw [c0, ← er] at gb
    have hz : ((tagsR qs).map u0).sum = 0 := by
      have : ∀ l : List Str, (l.map u0).sum = 0 := fun l => by
        induction l with
        | nil => rfl
        | cons a l ih => rw [List.map_cons, List.sum_cons, ih]; rfl
      exact this _
    rw [hz] at h1
    have h3 : ((tagsR qs).map (goF (rowOf qs) (p.length + 1) u0 s).2).sum ≤ leftN (tagsR qs) (rowOf qs) u0 := by
      unfold leftN
      have : ∀ l : List Str, (l.map (goF (rowOf qs) (p.length + 1) u0 s).2).sum ≤ (l.map fun t => (rowOf qs t).length - u0 t).sum := fun l => by
        induction l with
        | nil => exact Nat.le_refl _
        | cons a l ih =>
          have := h2 a
          rw [List.map_cons, List.map_cons, List.sum_cons, List.sum_cons]
          have e : (rowOf qs a).length - u0 a = (rowOf qs a).length := rfl
          omega
      exact this _
    have h4 : (goF (rowOf qs) (p.length + 1) u0 s).1 = p := by rw [gb]
    rw [h4] at h1
    omega
  have hb : byP qs s = (p, cntU (pairsOf (s :: p))) := by
    unfold byP
    have gb := go_back (row := s :: p) p [] s (leftN (tagsR qs) (rowOf qs) u0 + 1) rfl hsum
    rw [c0, ← er] at gb
    exact gb
  have hu := used_up ht s
  have : (byP qs s).1.length = totR qs := by
    refine of_decide_eq_true (hu ▸ ?_)
    rw [List.all_eq_true]
    intro t _
    refine decide_eq_true ?_
    rw [hb, er]
    show ((pairsOf (s :: p)).filter _).length = (((pairsOf (s :: p)).filter _).map _).length
    rw [List.length_map]
  unfold byL
  rw [if_pos this, hb]
/-! the defs -/
theorem cut_init (l : List D) : cutL l none (some (-1)) = l.dropLast := by
  unfold cutL
  rw [show HT.sIx l.length 0 none = 0 from HT.sIx_none _ _]
  have : HT.sIx l.length l.length (some (-1)) = l.length - 1 := by
    show (if (-1 : Int) < 0 then ((-1 : Int) + (l.length : Int)).toNat else min (-1 : Int).toNat l.length) = _
    rw [if_pos (by decide)]
    omega
  rw [this, List.drop_zero, Nat.sub_zero, List.dropLast_eq_take]
theorem drop_strD (row : List Str) : (strD row).dropLast = strD row.dropLast := by
  unfold strD
  rw [List.map_dropLast]
theorem seq_or {x : D} {l : List D} (h : seqD x = some l) : x = .tuple l ∨ x = .list l := by
  cases x <;> first | (cases h; first | exact .inl rfl | exact .inr rfl) | cases h
abbrev n_exits : List Str := ["journey", "place", "one", "other"]
def cs_exits : CS := cRet (cCB gTuple (cCons (cLc (cSeq (cCall sdStepsOf (cCons (cVar 0) (cNil)))) (stT (stCons (stN 2) (stCons (stN 3) (stNil)))) (cB (cOp eqD (cVar 2) (cVar 1))) (cVar 3) [2, 3]) (cNil)))
def sdExits : SpD := fun ds n k _ => ∃ (x : D) (row : List Str) (p : Str), ds = [x, .str p] ∧ seqD x = some (strD row) ∧ (∀ y ∈ row, GoodS y) ∧ GoodS p ∧ row.length ≤ 60 ∧ k (.tuple (strD (exS row p))) n
section
variable {e : EndsD}
theorem himp_exits (ds : List D) (n : Nat) (k : D → Nat → Prop) (ke : Xv → Nat → Prop) (h : sdExits ds n k ke) (he : e.rt = k) : cs_exits (startE n_exits ds) n e := by
  obtain ⟨x, row, p, rfl, hs, hg, gp, hl, q⟩ := h
  subst he
  have h5 : (1000 : Nat) ≤ lim := by decide
  refine ⟨x, row, rfl, seq_or hs, ?_⟩
  refine ⟨(pairsOf row).map tx, rfl, ?_⟩
  show cLcL _ _ _ _ ((pairsOf row).map tx) [some (.v x), some (.v (.str p)), none, none] n [] _
  have hpl := pairs_le row
  refine map_run tx (fun e => decide (e.1 = p)) (fun e => .str e.2) (pairsOf row) [] (fun e hm => ⟨[some (.v x), some (.v (.str p)), some (.v (.str e.1)), some (.v (.str e.2))], rfl, rfl, fun K1 hK => ⟨_, eqD_str (hg _ (pairs_mem hm).1) gp, _, rfl, hK⟩, fun K2 hK => hK⟩) (by rw [List.length_nil]; omega) ?_
  rw [List.nil_append]
  have e1 : (((pairsOf row).filter fun e => decide (e.1 = p)).map fun e => PyData.str e.2) = strD (exS row p) := by
    unfold exS strD
    rw [List.map_map]
    rfl
  rw [e1]
  exact ⟨_, ⟨_, _, rfl, rfl, rfl⟩, q⟩
end
abbrev n_exit_lists : List Str := ["journey", "place"]
def cs_exit_lists : CS := cRet (cCB gTuple (cCons (cLc (cSeq (cSortSetU (cSl (cVar 0) (cNo) (cPart (cNeg (cC (.int 1))))))) (stN 1) (cYes) (cTup (cCons (cVar 1) (cCons (cCall sdExits (cCons (cVar 0) (cCons (cVar 1) (cNil)))) (cNil)))) [1]) (cNil)))
def Asc (row ys : List Str) : Prop := ys.Nodup ∧ (∀ p, p ∈ ys ↔ p ∈ row.dropLast) ∧ sortedS ys = true
def sdExitLists : SpD := fun ds n k _ => ∃ (x : D) (row : List Str), ds = [x] ∧ seqD x = some (strD row) ∧ (∀ y ∈ row, GoodS y) ∧ row.length ≤ 60 ∧ ∀ ys, Asc row ys → k (.tuple ((exX row ys).map (prX false))) n
theorem Asc.len {row ys : List Str} (h : Asc row ys) : ys.length ≤ row.length := Nat.le_trans (nodup_short h.1 fun x hx => (h.2.1 x).mp hx) (by rw [List.length_dropLast]; omega)
theorem Asc.mem {row ys : List Str} (h : Asc row ys) {p : Str} (hp : p ∈ ys) : p ∈ row := List.dropLast_subset _ ((h.2.1 p).mp hp)
theorem Asc.one {row ys zs : List Str} (h : Asc row ys) (h2 : Asc row zs) : ys = zs := sorted_one (sorted_pw h.2.2) (sorted_pw h2.2.2) h.1 h2.1 fun p => (h.2.1 p).trans (h2.2.1 p).symm
section
variable {e : EndsD}
theorem himp_exit_lists (ds : List D) (n : Nat) (k : D → Nat → Prop) (ke : Xv → Nat → Prop) (h : sdExitLists ds n k ke) (he : e.rt = k) : cs_exit_lists (startE n_exit_lists ds) n e := by
  obtain ⟨x, row, rfl, hs, hg, hl, q⟩ := h
  subst he
  have h5 : (1000 : Nat) ≤ lim := by decide
  obtain ⟨z, hz1, hz2⟩ := slice_seq hs none (some (-1))
  rw [cut_init, drop_strD] at hz2
  refine ⟨1, rfl, -1, rfl, z, hz1, row.dropLast, hz2, by rw [List.length_dropLast]; omega, fun ys y1 y2 y3 => ?_⟩
  have A : Asc row ys := ⟨y1, y2, y3⟩
  have := A.len
  refine ⟨strD ys, rfl, ?_⟩
  show cLcL _ _ _ _ (ys.map PyData.str) [some (.v x), none] n [] _
  refine map_run PyData.str (fun _ => true) (fun p => prX false (p, exS row p)) ys [] (fun p hp => ⟨[some (.v x), some (.v (.str p))], rfl, rfl, fun K1 hK => hK, fun K2 hK => ⟨x, row, p, rfl, hs, hg, hg p (A.mem hp), hl, by show 2 ≤ lim; decide, hK⟩⟩) (by rw [List.length_nil]; omega) ?_
  rw [filter_true, List.nil_append]
  have e1 : (ys.map fun p => prX false (p, exS row p)) = (exX row ys).map (prX false) := by
    unfold exX
    rw [List.map_map]
    rfl
  rw [e1]
  exact ⟨_, ⟨_, _, rfl, rfl, rfl⟩, q ys A⟩
end
/-- the last of each list, but for the end's -/
def lastX (row ys : List Str) (z : Str) : List D := (ys.filter fun p => decide (p ≠ z)).map fun p => .tuple [.str p, .str ((exS row p).getLastD Str.empty)]
theorem lastX_at {l : List Str} (h : l ≠ []) : atD (.tuple (strD l)) (.int (-1)) = some (.str (l.getLastD Str.empty)) := by
  obtain ⟨f, z, rfl⟩ : ∃ f z, l = f ++ [z] := ⟨l.dropLast, l.getLast h, (List.dropLast_concat_getLast h).symm⟩
  show atI (strD (f ++ [z])) (-1) = _
  rw [atI_last, List.getLastD_concat]
abbrev n_last_steps : List Str := ["journey", "place", "row"]
def cs_last_steps : CS := cRet (cCB gTuple (cCons (cLc (cSeq (cCall sdExitLists (cCons (cVar 0) (cNil)))) (stT (stCons (stN 1) (stCons (stN 2) (stNil)))) (cB (cOp neD (cVar 1) (cOp atD (cVar 0) (cNeg (cC (.int 1)))))) (cTup (cCons (cVar 1) (cCons (cOp atD (cVar 2) (cNeg (cC (.int 1)))) (cNil)))) [1, 2]) (cNil)))
def sdLastSteps : SpD := fun ds n k _ => ∃ (x : D) (row f : List Str) (z : Str), ds = [x] ∧ seqD x = some (strD row) ∧ row = f ++ [z] ∧ (∀ y ∈ row, GoodS y) ∧ row.length ≤ 60 ∧ ∀ ys, Asc row ys → k (.tuple (lastX row ys z)) n
section
variable {e : EndsD}
theorem himp_last_steps (ds : List D) (n : Nat) (k : D → Nat → Prop) (ke : Xv → Nat → Prop) (h : sdLastSteps ds n k ke) (he : e.rt = k) : cs_last_steps (startE n_last_steps ds) n e := by
  obtain ⟨x, row, f, z, rfl, hs, hr, hg, hl, q⟩ := h
  subst he
  have h5 : (1000 : Nat) ≤ lim := by decide
  refine ⟨x, row, rfl, hs, hg, hl, fun ys A => ?_⟩
  have := A.len
  refine ⟨(exX row ys).map (prX false), rfl, ?_⟩
  have e0 : (exX row ys).map (prX false) = ys.map fun p => prX false (p, exS row p) := by
    unfold exX
    rw [List.map_map]
    rfl
  rw [e0]
  show cLcL _ _ _ _ (ys.map fun p => prX false (p, exS row p)) [some (.v x), none, none] n [] _
  have gz : GoodS z := hg z (by rw [hr]; exact List.mem_append_right _ (List.mem_singleton.mpr rfl))
  refine map_run (fun p => prX false (p, exS row p)) (fun p => decide (p ≠ z)) (fun p => .tuple [.str p, .str ((exS row p).getLastD Str.empty)]) ys [] (fun p hp => ⟨[some (.v x), some (.v (.str p)), some (.v (.tuple (strD (exS row p))))], rfl, rfl, fun K1 hK => ⟨1, rfl, .str z, ?_, _, neD_strS (hg p (A.mem hp)) gz, _, rfl, hK⟩, fun K2 hK => ⟨1, rfl, _, lastX_at (ex_some ((A.2.1 p).mp hp)), by show 2 ≤ lim; decide, hK⟩⟩) (by rw [List.length_nil]; omega) ?_
  · rw [atD_seq hs, hr]
    exact atI_last
  rw [List.nil_append]
  exact ⟨_, ⟨_, _, rfl, rfl, rfl⟩, q ys A⟩
end
end RM
namespace RM
open PySem PySem.Spec PyProof.Rows L2 CS RZ
/-! ### k20's turn -/
theorem pairs_range : ∀ row : List Str, pairsOf row = (List.range (row.length - 1)).map fun k => (row.getD k Str.empty, row.getD (k + 1) Str.empty)
  | [] => rfl
  | [_] => rfl
  | x :: y :: r => by
    have ih := pairs_range (y :: r)
    have e0 : pairsOf (x :: y :: r) = (x, y) :: pairsOf (y :: r) := rfl
    rw [e0, ih]
    have e1 : (x :: y :: r).length - 1 = (y :: r).length - 1 + 1 := rfl
    rw [e1, List.range_succ_eq_map, List.map_cons, List.map_map]
    rfl
abbrev n_exitsL : List Str := ["_law_trail", "_law_found", "_law_tag", "_law_k"]
def xl_b : CS := cDrop (cApp 1 (cTup (cCons (cVar 2) (cCons (cCB gTuple (cCons (cLc (cRange1 (cCons (cOp subD (cCB gLen (cCons (cVar 0) (cNil))) (cC (.int 1))) (cNil))) (stN 3) (cB (cOp eqD (cOp atD (cVar 0) (cVar 3)) (cVar 2))) (cOp atD (cVar 0) (cOp addD (cVar 3) (cC (.int 1)))) [3]) (cNil))) (cNil)))))
def cs_exitsL : CS := cSq (cOwn 1 (cLst (cNil))) (cSq (cFor (cSeq (cSortSetU (cSl (cVar 0) (cNo) (cPart (cNeg (cC (.int 1))))))) (stN 2) xl_b) (cRet (cCB gTuple (cCons (cVar 1) (cNil)))))
def sdExitsL : SpD := fun ds n k _ => ∃ (row : List Str), ds = [rowT row] ∧ row ≠ [] ∧ (∀ y ∈ row, GoodS y) ∧ row.length ≤ 60 ∧ ∀ ys, Asc row ys → k (.tuple ((exX row ys).map (prX false))) n
section
variable {e : EndsD} {n : Nat}
theorem xl_at {row : List Str} {i : Nat} (h : i < row.length) : atD (rowT row) (.int ((i : Nat) : Int)) = some (.str (row.getD i Str.empty)) := by
  refine atD_row ?_
  rw [List.getD_eq_getElem?_getD, List.getElem?_eq_getElem h]
  rfl
theorem xl_loop {row : List Str} (hne : row ≠ []) (hg : ∀ y ∈ row, GoodS y) (hl : row.length ≤ 60) : ∀ (ys acc : List Str), (∀ y ∈ ys, GoodS y) → acc.length + ys.length ≤ 1000 → ∀ t2, (∀ t2, e.nx [some (.v (rowT row)), some (.own (.list ((exX row (acc ++ ys)).map (prX false)))), t2, none] n) →
    cForL (stN 2) xl_b (strD ys) [some (.v (rowT row)), some (.own (.list ((exX row acc).map (prX false)))), t2, none] n e
  | [], acc, _, _, t2, q => by
    have := q t2
    rw [List.append_nil] at this
    exact this
  | y :: ys, acc, hgy, hla, t2, q => by
    have h5 : (10000 : Nat) ≤ lim := by decide
    have hll := len_strD row
    rw [List.length_cons] at hla
    have hpos := List.length_pos_iff.mpr hne
    have gd : ∀ k, k < row.length → GoodS (row.getD k Str.empty) := fun k hk => by
      rw [List.getD_eq_getElem?_getD, List.getElem?_eq_getElem hk]
      exact hg _ (List.getElem_mem _)
    refine ⟨[some (.v (rowT row)), some (.own (.list ((exX row acc).map (prX false)))), some (.v (.str y)), none], rfl, ?_⟩
    refine ⟨⟨_, rfl⟩, _, ⟨rowT row, _, rfl, rfl, rfl⟩, _, rfl, _, rfl, ⟨by rw [hll]; omega, by rw [hll]; omega⟩, ?_⟩
    have en : ((((strD row).length : Nat) : Int) - 1).toNat = row.length - 1 := by rw [hll]; omega
    rw [en]
    show cLcL _ _ _ _ ((List.range (row.length - 1)).map fun i : Nat => PyData.int (0 + ((i : Nat) : Int))) [some (.v (rowT row)), some (.own (.list ((exX row acc).map (prX false)))), some (.v (.str y)), none] n [] _
    refine map_run (fun i : Nat => PyData.int (0 + ((i : Nat) : Int))) (fun i => decide (row.getD i Str.empty = y)) (fun i => .str (row.getD (i + 1) Str.empty)) (List.range (row.length - 1)) [] (fun i hi => ⟨[some (.v (rowT row)), some (.own (.list ((exX row acc).map (prX false)))), some (.v (.str y)), some (.v (.int (0 + ((i : Nat) : Int))))], rfl, rfl, fun K1 hK => ?_, fun K2 hK => ?_⟩) (by rw [List.length_nil, List.length_range]; omega) ?_
    · have hi := List.mem_range.mp hi
      refine ⟨.str (row.getD i Str.empty), ?_, _, eqD_str (gd i (by omega)) (hgy y (List.mem_cons_self ..)), _, rfl, hK⟩
      rw [show (0 : Int) + ((i : Nat) : Int) = ((i : Nat) : Int) by omega]
      exact xl_at (by omega)
    · have hi := List.mem_range.mp hi
      refine ⟨_, rfl, .str (row.getD (i + 1) Str.empty), ?_, hK⟩
      rw [show (0 : Int) + ((i : Nat) : Int) + 1 = ((i + 1 : Nat) : Int) by omega]
      exact xl_at (by omega)
    · rw [List.nil_append]
      have e1 : (((List.range (row.length - 1)).filter fun i => decide (row.getD i Str.empty = y)).map fun i => PyData.str (row.getD (i + 1) Str.empty)) = strD (exS row y) := by
        unfold exS strD
        rw [pairs_range row, List.filter_map, List.map_map, List.map_map]
        rfl
      rw [e1]
      refine ⟨_, ⟨_, _, rfl, rfl, rfl⟩, by show 2 ≤ lim; decide, _, rfl, ?_, ?_⟩
      · unfold exX
        rw [List.length_map, List.length_map]
        omega
      have e2 : (exX row acc).map (prX false) ++ [PyData.tuple [.str y, .tuple (strD (exS row y))]] = (exX row (acc ++ [y])).map (prX false) := by
        unfold exX
        rw [List.map_append, List.map_append]
        rfl
      rw [e2]
      refine xl_loop hne hg hl ys (acc ++ [y]) (fun z hz => hgy z (List.mem_cons_of_mem _ hz)) (by rw [List.length_append, List.length_singleton]; omega) _ fun t2 => ?_
      have := q t2
      rw [show acc ++ [y] ++ ys = acc ++ y :: ys by rw [List.append_assoc]; rfl]
      exact this
theorem himp_exitsL (ds : List D) (n : Nat) (k : D → Nat → Prop) (ke : Xv → Nat → Prop) (h : sdExitsL ds n k ke) (he : e.rt = k) : cs_exitsL (startE n_exitsL ds) n e := by
  obtain ⟨row, rfl, hne, hg, hl, q⟩ := h
  subst he
  have h5 : (1000 : Nat) ≤ lim := by decide
  have hsl : sliceD (rowT row) none (some (-1)) = some (rowT row.dropLast) := by
    show some (PyData.tuple (cutL (strD row) none (some (-1)))) = _
    rw [cut_init, drop_strD]
    rfl
  refine ⟨by show 0 ≤ lim; decide, by show 1 < 4; decide, ?_⟩
  refine ⟨1, rfl, -1, rfl, _, hsl, row.dropLast, rfl, by rw [List.length_dropLast]; omega, fun ys y1 y2 y3 => ?_⟩
  have A : Asc row ys := ⟨y1, y2, y3⟩
  have := A.len
  refine ⟨strD ys, rfl, ?_⟩
  refine xl_loop hne hg hl ys [] (fun y hy => hg y (A.mem hy)) (by show 0 + _ ≤ _; omega) _ fun t2 => ?_
  exact ⟨_, ⟨_, _, rfl, rfl, rfl⟩, q ys A⟩
end
theorem by_len {ps : Xl} (hn : (tagsR ps).Nodup) (s : Str) : (byP ps s).1.length ≤ totR ps := by
  have h1 := go_sum hn (fun p => row_mem (ps := ps) p) (leftN (tagsR ps) (rowOf ps) u0 + 1) u0 s
  have h2 := go_le (rows := rowOf ps) (leftN (tagsR ps) (rowOf ps) u0 + 1) u0 s fun t => Nat.zero_le _
  have h3 : ((tagsR ps).map (byP ps s).2).sum ≤ ((tagsR ps).map fun t => (rowOf ps t).length).sum := by
    have : ∀ l : List Str, (l.map (byP ps s).2).sum ≤ (l.map fun t => (rowOf ps t).length).sum := fun l => by
      induction l with
      | nil => exact Nat.le_refl _
      | cons a l ih =>
        have : (byP ps s).2 a ≤ (rowOf ps a).length := h2 a
        rw [List.map_cons, List.map_cons, List.sum_cons, List.sum_cons]
        omega
    exact this _
  rw [tot_tags hn] at h3
  have h1 : ((tagsR ps).map (byP ps s).2).sum = ((tagsR ps).map u0).sum + (byP ps s).1.length := h1
  omega
theorem okS_byL {ps : Xl} (hn : (tagsR ps).Nodup) (ht : totR ps ≤ 999) (s : Str) (k : Nat) : okS (k + 2) (byL ps s) := by
  unfold byL
  split
  · refine okS_row k _ ?_
    have := by_len hn s
    rw [List.length_cons]
    omega
  · exact trivial
theorem tot_le {ps : Xl} {B : Nat} (h : ∀ y ∈ ps, y.2.length ≤ B) : totR ps ≤ ps.length * B := by
  unfold totR
  induction ps with
  | nil => simp
  | cons y ps ih =>
    have h1 := h y (List.mem_cons_self ..)
    have h2 := ih fun z hz => h z (List.mem_cons_of_mem _ hz)
    rw [List.map_cons, List.sum_cons, List.length_cons, Nat.add_mul]
    omega
theorem perm_pull {α β : Type} {f : α → β} : ∀ {ps : List α} {l : List β}, l.Perm (ps.map f) → ∃ qs : List α, qs.Perm ps ∧ l = qs.map f
  | [], l, h => ⟨[], .nil, by rw [List.map_nil] at h; exact h.eq_nil⟩
  | y :: ps, l, h => by
    have hm : f y ∈ l := h.mem_iff.mpr (List.mem_cons_self ..)
    obtain ⟨l1, l2, rfl⟩ := List.append_of_mem hm
    have h2 : (l1 ++ l2).Perm (ps.map f) := (List.Perm.cons_inv ((List.perm_middle.symm.trans h)))
    obtain ⟨qs, h3, h4⟩ := perm_pull h2
    obtain ⟨q1, q2, rfl, e1, e2⟩ := List.append_eq_map_iff.mp h4
    refine ⟨q1 ++ y :: q2, List.perm_middle.trans (h3.cons y), ?_⟩
    rw [List.map_append, List.map_cons, e1, e2]
def sdBent20 : SpD := fun ds n k _ => ∃ qs : Xl, ds = [boxD, .tuple (qs.map (prX false))] ∧ qs ≠ [] ∧ qs.length ≤ 30 ∧ (∀ y ∈ qs, 0 < y.2.length ∧ y.2.length ≤ 25) ∧ n ≤ 700000 ∧
  ∀ (qs' : Xl) (n' : Nat), tagsR qs' = tagsR qs → (∀ y ∈ qs', y.2.length ≤ 26) → n' ≤ n + 4 → k (.tuple (qs'.map (prX false))) n'
end RM
namespace RM
open PySem PySem.Spec PyProof.Rows L2 CS RZ
/-! ### k20's turns -/
def r20_1 : CS := cSet 2 (cCall sdTags (cCons (cVar 0) (cCons (cOp addD (cC (.int 2)) (cCall sdTake (cCons (cVar 0) (cCons (cC (.int 5)) (cNil))))) (cNil))))
def r20_2 : CS := cSet 3 (cCall sdWalkB (cCons (cVar 0) (cCons (cVar 2) (cCons (cC (.int 20)) (cNil)))))
def r20_3 : CS := cSet 4 (cCall sdExitsL (cCons (cVar 3) (cNil)))
def r20_4 : CS := cSet 5 (cCB gTuple (cCons (cLc (cSeq (cVar 4)) (stT (stCons (stN 12) (stCons (stN 13) (stNil)))) (cB (cOp neD (cVar 12) (cOp atD (cVar 3) (cNeg (cC (.int 1)))))) (cTup (cCons (cVar 12) (cCons (cOp atD (cVar 13) (cNeg (cC (.int 1)))) (cNil)))) [12, 13]) (cNil)))
def r20_5 : CS := cSet 6 (cLst (cCons (cCall sdExitLists (cCons (cVar 3) (cNil))) (cCons (cCall sdExitLists (cCons (cCF gList' (cCons (cVar 3) (cNil))) (cNil))) (cCons (cCall sdLastSteps (cCons (cVar 3) (cNil))) (cCons (cCall sdLastSteps (cCons (cCF gList' (cCons (cVar 3) (cNil))) (cNil))) (cNil))))))
def r20_6 : CS := cIfS (cNotT (cB (cCall sdSame6 (cCons (cVar 6) (cCons (cLst (cCons (cVar 4) (cCons (cVar 4) (cCons (cVar 5) (cCons (cVar 5) (cNil)))))) (cNil)))))) (cRet (cC (.bool false))) (cNext)
def r20_7 : CS := cSet 7 (cCB gTuple (cCons (cCall sdPick (cCons (cVar 0) (cCons (cVar 4) (cCons (cCB gLen (cCons (cVar 4) (cNil))) (cNil))))) (cNil)))
def r20_8 : CS := cSet 6 (cLst (cCons (cCall sdByLists (cCons (cOp atD (cVar 3) (cC (.int 0))) (cCons (cVar 7) (cNil)))) (cCons (cCall sdByLists (cCons (cOp atD (cVar 3) (cC (.int 0))) (cCons (cCall (sdLists 4) (cCons (cVar 7) (cNil))) (cNil)))) (cNil))))
def r20_9 : CS := cIfS (cNotT (cB (cCall sdSame6 (cCons (cVar 6) (cCons (cLst (cCons (cVar 3) (cCons (cVar 3) (cNil)))) (cNil)))))) (cRet (cC (.bool false))) (cNext)
def r20_i : CS := cIfS (cNotT (cB (cCall sdSame6 (cCons (cCall sdByLists (cCons (cVar 9) (cCons (cVar 10) (cNil)))) (cCons (cCall sdFollow (cCons (cVar 9) (cCons (cVar 10) (cNil)))) (cNil)))))) (cRet (cC (.bool false))) (cNext)
def r20_l : CS := cSq (cPar 10 11 (cCons (cCall sdBent20 (cCons (cVar 0) (cCons (cVar 7) (cNil)))) (cCons (cCall sdOf (cCons (cVar 0) (cCons (cVar 2) (cNil)))) (cNil)))) (cFor (cSeq (cTup (cCons (cOp atD (cVar 3) (cC (.int 0))) (cCons (cVar 11) (cNil))))) (stN 9) r20_i)
def r20_10 : CS := cFor (cRange1 (cCons (cOp mulD (cC (.int 3)) (cCB gInt (cCons (cOp neD (cVar 4) (cTup (cNil))) (cNil)))) (cNil))) (stN 8) r20_l
def r20_b : CS := cSq r20_1 (cSq r20_2 (cSq r20_3 (cSq r20_4 (cSq r20_5 (cSq r20_6 (cSq r20_7 (cSq r20_8 (cSq r20_9 r20_10))))))))
def cs_right20 : CS := cSq (cIfS (cNotT (cB (cCall sdByHand39 cNil))) (cRet (cC (.bool false))) (cNext)) (cSq (cFor (cRange1 (cCons (cC (.int 6)) (cNil))) (stN 1) r20_b) (cRet (cC (.bool true))))
abbrev n_right20 : List Str := ["_law_box_here", "_law_turn", "_law_tags_here", "_law_trail", "_law_lists_so", "_law_lasts_so", "_law_told", "_law_turned_so", "_law_lap", "_law_own", "_law_bent_so", "_law_start_so", "_law_tag", "_law_ends_so"]
abbrev v20 (t1 t2 t3 t4 t5 t6 t7 t8 t9 t10 t11 : Option Sl) : En := [some (.v boxD), t1, t2, t3, t4, t5, t6, t7, t8, t9, t10, t11, none, none]
structure T20 (s : Str) (p : List Str) : Prop where
  gd : ∀ y ∈ s :: p, GoodS y
  hl : (s :: p).length ≤ 21
theorem T20.pl {s : Str} {p : List Str} (T : T20 s p) : (pairsOf (s :: p)).length ≤ 20 := by
  have h := pairs_range (s :: p)
  have := congrArg List.length h
  rw [List.length_map, List.length_range] at this
  have := T.hl
  omega
theorem ex_le (row : List Str) (p : Str) : (exS row p).length ≤ (pairsOf row).length := by
  unfold exS
  rw [List.length_map]
  exact List.length_filter_le _ _
theorem lists_qs (qs : Xl) : listsD (.tuple (qs.map (prX false))) = .list (qs.map (prX true)) := by
  show PyData.list (listsDs (qs.map (prX false))) = _
  rw [listsDs_map, List.map_map]
  congr 1
  refine List.map_congr_left fun y _ => ?_
  show PyData.list (listsDs [PyData.str y.1, .tuple (strD y.2)]) = _
  show PyData.list [PyData.str y.1, listsD (rowT y.2)] = _
  rw [lists_row]
  rfl
theorem okS_prX (b : Bool) (y : Str × List Str) (h : y.2.length ≤ 1000) (k : Nat) : okS (k + 3) (prX b y) := by
  have h1 : okS (k + 2) (seqX b y.2) := by
    cases b
    · exact okS_row k y.2 h
    · have := okS_row k y.2 h
      exact this
  cases b
  · refine ⟨(show (2 : Nat) ≤ 1000 by decide), fun d hd => ?_⟩
    rcases List.mem_cons.mp hd with rfl | hd
    · exact trivial
    · rw [List.mem_singleton.mp hd]
      exact h1
  · refine ⟨(show (2 : Nat) ≤ 1000 by decide), fun d hd => ?_⟩
    rcases List.mem_cons.mp hd with rfl | hd
    · exact trivial
    · rw [List.mem_singleton.mp hd]
      exact h1
theorem okS_qs {qs : Xl} (hl : qs.length ≤ 1000) (h : ∀ y ∈ qs, y.2.length ≤ 1000) (k : Nat) : okS (k + 4) (.tuple (qs.map (prX false))) := by
  refine ⟨by rw [List.length_map]; exact hl, fun d hd => ?_⟩
  obtain ⟨y, hy, rfl⟩ := List.mem_map.mp hd
  exact okS_prX false y (h y hy) k
section
variable {e : EndsD} {n : Nat} {s : Str} {p ys ss : List Str} {qs : Xl} {t1 t2 t3 t4 t5 t6 t7 t8 t9 t10 t11 : Option Sl}
theorem r20_12_ok (hn : n ≤ 600000) (q : ∀ (ss : List Str) (s : Str) (p : List Str) (n' : Nat), T20 s p → 2 ≤ ss.length → ss.length ≤ 6 → n' ≤ n + 1300 → (∀ y ∈ ss, GoodS y) → e.nx (v20 t1 (some (.v (.list (strD ss)))) (some (.v (rowT (s :: p)))) t4 t5 t6 t7 t8 t9 t10 t11) n') : cSq r20_1 r20_2 (v20 t1 t2 t3 t4 t5 t6 t7 t8 t9 t10 t11) n e := by
  refine ⟨5, rfl, by omega, by decide, by decide, fun r r0 r1 => ⟨.int (2 + r), rfl, 2 + r, rfl, by omega, by omega, by omega, fun ss n1 h1 h2 h3 h4 => ?_⟩⟩
  refine ⟨ss, 20, rfl, h2, by omega, by omega, fun s hs => tag_good s (h3 s hs), by omega, by decide, by decide, fun a z row n2 w hl hn2 => ?_⟩
  have e9 : (20 : Int).toNat = 20 := rfl
  obtain ⟨p, rfl⟩ := w.hd
  exact q ss a p n2 ⟨fun y hy => tag_good y (h3 y (w.ins y hy)), by omega⟩ (by omega) (by omega) (by omega) fun y hy => tag_good y (h3 y hy)
theorem r20_36_ok (T : T20 s p) (q : ∀ (ys : List Str) (t5 t6 : Option Sl), Asc (s :: p) ys → e.nx (v20 t1 t2 (some (.v (rowT (s :: p)))) (some (.v (.tuple ((exX (s :: p) ys).map (prX false))))) t5 t6 t7 t8 t9 t10 t11) n) : cSq r20_3 (cSq r20_4 (cSq r20_5 r20_6)) (v20 t1 t2 (some (.v (rowT (s :: p)))) t4 t5 t6 t7 t8 t9 t10 t11) n e := by
  have h5 : (1000 : Nat) ≤ lim := by decide
  have hl := T.hl
  have hpl := T.pl
  refine ⟨s :: p, rfl, List.cons_ne_nil _ _, T.gd, by omega, fun ys A => ?_⟩
  have hyl := A.len
  obtain ⟨f, z, hf⟩ : ∃ f z, s :: p = f ++ [z] := ⟨(s :: p).dropLast, (s :: p).getLast (List.cons_ne_nil _ _), (List.dropLast_concat_getLast (List.cons_ne_nil _ _)).symm⟩
  have gz : GoodS z := T.gd z (by rw [hf]; exact List.mem_append_right _ (List.mem_singleton.mpr rfl))
  have e0 : (exX (s :: p) ys).map (prX false) = ys.map fun x => prX false (x, exS (s :: p) x) := by
    unfold exX
    rw [List.map_map]
    rfl
  refine ⟨(exX (s :: p) ys).map (prX false), rfl, ?_⟩
  show cLcL _ _ _ _ ((exX (s :: p) ys).map (prX false)) (v20 t1 t2 (some (.v (rowT (s :: p)))) (some (.v (.tuple ((exX (s :: p) ys).map (prX false))))) t5 t6 t7 t8 t9 t10 t11) n [] _
  refine map_run (prX false) (fun y => decide (y.1 ≠ z)) (fun y => .tuple [.str y.1, .str (y.2.getLastD Str.empty)]) (exX (s :: p) ys) [] (fun y hy => ⟨[some (.v boxD), t1, t2, some (.v (rowT (s :: p))), some (.v (.tuple ((exX (s :: p) ys).map (prX false)))), t5, t6, t7, t8, t9, t10, t11, some (.v (.str y.1)), some (.v (.tuple (strD y.2)))], rfl, rfl, fun K1 hK => ?_, fun K2 hK => ?_⟩) (by rw [List.length_nil]; unfold exX; rw [List.length_map]; omega) ?_
  · obtain ⟨x, hx, rfl⟩ := List.mem_map.mp hy
    refine ⟨1, rfl, .str z, ?_, _, neD_strS (T.gd x (A.mem hx)) gz, _, rfl, hK⟩
    rw [hf]
    exact atI_last
  · obtain ⟨x, hx, rfl⟩ := List.mem_map.mp hy
    exact ⟨1, rfl, _, lastX_at (ex_some ((A.2.1 x).mp hx)), by show 2 ≤ lim; decide, hK⟩
  rw [List.nil_append]
  have e1 : (((exX (s :: p) ys).filter fun y => decide (y.1 ≠ z)).map fun y => PyData.tuple [.str y.1, .str (y.2.getLastD Str.empty)]) = lastX (s :: p) ys z := by
    unfold exX lastX
    rw [List.filter_map, List.map_map]
    rfl
  rw [e1]
  refine ⟨_, ⟨_, _, rfl, rfl, rfl⟩, ?_⟩
  refine ⟨rowT (s :: p), s :: p, rfl, rfl, T.gd, by omega, fun y1 A1 => ?_⟩
  rw [A1.one A]
  refine ⟨strD (s :: p), .inl ⟨_, rfl, rfl⟩, .list (strD (s :: p)), s :: p, rfl, rfl, T.gd, by omega, fun y2 A2 => ?_⟩
  rw [A2.one A]
  refine ⟨rowT (s :: p), s :: p, f, z, rfl, rfl, hf, T.gd, by omega, fun y3 A3 => ?_⟩
  rw [A3.one A]
  refine ⟨strD (s :: p), .inl ⟨_, rfl, rfl⟩, .list (strD (s :: p)), s :: p, f, z, rfl, rfl, hf, T.gd, by omega, fun y4 A4 => ?_⟩
  rw [A4.one A]
  refine ⟨by show 4 ≤ lim; decide, ?_⟩
  refine ⟨by show 4 ≤ lim; decide, _, rfl, ⟨by show 4 ≤ 1000; decide, fun d hd => ?_⟩, true, rfl, q ys _ _ A⟩
  have o1 : okS 4 (.tuple ((exX (s :: p) ys).map (prX false))) := okS_qs (k := 0) (by unfold exX; rw [List.length_map]; omega) fun y hy => by
    obtain ⟨x, _, rfl⟩ := List.mem_map.mp hy
    have := ex_le (s :: p) x
    show (exS (s :: p) x).length ≤ 1000
    omega
  have o2 : okS 4 (.tuple (lastX (s :: p) ys z)) := by
    refine ⟨?_, fun d hd => ?_⟩
    · unfold lastX
      rw [List.length_map]
      have := List.length_filter_le (fun x => decide (x ≠ z)) ys
      omega
    · unfold lastX at hd
      obtain ⟨x, _, rfl⟩ := List.mem_map.mp hd
      exact okS_row 1 [x, (exS (s :: p) x).getLastD Str.empty] (show 2 ≤ 1000 by decide)
  simp only [List.mem_cons, List.not_mem_nil, or_false] at hd
  rcases hd with rfl | rfl | rfl | rfl
  · exact o1
  · exact o1
  · exact o2
  · exact o2
theorem r20_79_ok (T : T20 s p) (A : Asc (s :: p) ys) (hn : n ≤ 650000) (q : ∀ (qs : Xl) (t6 : Option Sl) (n' : Nat), qs.Perm (exX (s :: p) ys) → n' ≤ n + 1000 → e.nx (v20 t1 t2 (some (.v (rowT (s :: p)))) (some (.v (.tuple ((exX (s :: p) ys).map (prX false))))) t5 t6 (some (.v (.tuple (qs.map (prX false))))) t8 t9 t10 t11) n') :
    cSq r20_7 (cSq r20_8 r20_9) (v20 t1 t2 (some (.v (rowT (s :: p)))) (some (.v (.tuple ((exX (s :: p) ys).map (prX false))))) t5 t6 t7 t8 t9 t10 t11) n e := by
  have h5 : (1000 : Nat) ≤ lim := by decide
  have hl := T.hl
  have hpl := T.pl
  have hyl := A.len
  have xl : (exX (s :: p) ys).length = ys.length := by unfold exX; rw [List.length_map]
  have ml : ((exX (s :: p) ys).map (prX false)).length = ys.length := by rw [List.length_map, xl]
  refine ⟨_, ⟨_, _, rfl, rfl, rfl⟩, _, (exX (s :: p) ys).map (prX false), _, rfl, .inl ⟨_, rfl, rfl⟩, by omega, by omega, by rw [ml]; omega, by rw [ml]; omega, fun out rest n' hp ho hn' => ?_⟩
  rw [ml] at ho
  have hr : rest = [] := by
    have := hp.length_eq
    rw [List.length_append, ml] at this
    exact List.length_eq_zero_iff.mp (by omega)
  rw [hr, List.append_nil] at hp
  obtain ⟨qs, hq, rfl⟩ := perm_pull hp
  have tn := (tags_perm hq).nodup_iff.mpr A.1
  have ql : qs.length ≤ 21 := by rw [hq.length_eq, xl]; omega
  have qb : ∀ y ∈ qs, y.2.length ≤ 20 := fun y hy => by
    obtain ⟨x, _, rfl⟩ := List.mem_map.mp (hq.mem_iff.mp hy)
    exact Nat.le_trans (ex_le _ _) hpl
  have qt : totR qs ≤ 1000 := by
    have := tot_le qb
    have : qs.length * 20 ≤ 21 * 20 := Nat.mul_le_mul_right _ ql
    omega
  have qb2 : ∀ y ∈ qs, y.2.length ≤ 1000 := fun y hy => Nat.le_trans (qb y hy) (by decide)
  have bb := by_back hq A.1 A.2.1
  refine ⟨_, ⟨_, _, rfl, rfl, rfl⟩, ?_⟩
  refine ⟨.str s, atI_zero _ _, s, _, qs, false, rfl, rfl, tn, by omega, qt, qb2, ?_⟩
  rw [bb]
  refine ⟨.str s, atI_zero _ _, .tuple (qs.map (prX false)), rfl, okS_qs (k := 0) (by omega) qb2, ?_⟩
  rw [lists_qs]
  refine ⟨s, _, qs, true, rfl, rfl, tn, by omega, qt, qb2, ?_⟩
  rw [bb]
  refine ⟨by show 2 ≤ lim; decide, ?_⟩
  refine ⟨by show 2 ≤ lim; decide, _, rfl, ⟨by show 2 ≤ 1000; decide, fun d hd => ?_⟩, true, rfl, q qs _ n' hq (by omega)⟩
  have o : okS 4 (rowT (s :: p)) := okS_row 2 _ (by omega)
  simp only [List.mem_cons, List.not_mem_nil, or_false] at hd
  rcases hd with rfl | rfl
  · exact o
  · exact o
theorem r20_i_ok {o : Str} (tn : (tagsR qs).Nodup) (ql : qs.length ≤ 30) (qb : ∀ y ∈ qs, y.2.length ≤ 26) (q : e.nx (v20 t1 t2 t3 t4 t5 t6 t7 t8 (some (.v (.str o))) (some (.v (.tuple (qs.map (prX false))))) t11) n) : r20_i (v20 t1 t2 t3 t4 t5 t6 t7 t8 (some (.v (.str o))) (some (.v (.tuple (qs.map (prX false))))) t11) n e := by
  have qt : totR qs ≤ 999 := by
    have := tot_le qb
    have : qs.length * 26 ≤ 30 * 26 := Nat.mul_le_mul_right _ ql
    omega
  have qb2 : ∀ y ∈ qs, y.2.length ≤ 1000 := fun y hy => Nat.le_trans (qb y hy) (by decide)
  refine ⟨o, _, qs, false, rfl, rfl, tn, by omega, by omega, qb2, ?_⟩
  refine ⟨o, qs, rfl, tn, by omega, by omega, qb2, ?_⟩
  exact ⟨_, rfl, okS_byL tn qt o 3, true, rfl, q⟩
end
end RM
namespace RM
open PySem PySem.Spec PyProof.Rows L2 CS RZ
/-! ### k20: the laps, the turns -/
theorem okN_prX {y : Str × List Str} (h1 : GoodS y.1) (h2 : ∀ x ∈ y.2, GoodS x) : OkN 2 (prX false y) := OkN.tuple fun d hd => by
  rcases List.mem_cons.mp hd with rfl | hd
  · exact OkN.str _ h1
  · rw [List.mem_singleton.mp hd]
    exact OkN.strs h2
theorem neD_qs {qs : Xl} (h : ∀ y ∈ qs, GoodS y.1 ∧ ∀ x ∈ y.2, GoodS x) : neD (.tuple (qs.map (prX false))) (.tuple []) = some (.bool (!qs.isEmpty)) := by
  unfold neD
  have e1 : okE (.tuple (qs.map (prX false))) = true := (OkN.tuple (k := 2) fun d hd => by
    obtain ⟨y, hy, rfl⟩ := List.mem_map.mp hd
    exact okN_prX (h y hy).1 (h y hy).2).ok (by decide)
  have e2 : okE (.tuple []) = true := (OkN.tuple (k := 0) (ds := []) fun d hd => by cases hd).ok (by decide)
  rw [e1, e2, if_pos (show (true && true) = true from rfl)]
  cases qs <;> simp [PyData.eqv, PyData.eqvAll]
theorem ex_mem {row : List Str} {p x : Str} (h : x ∈ exS row p) : x ∈ row := by
  unfold exS at h
  obtain ⟨e, he, rfl⟩ := List.mem_map.mp h
  exact (pairs_mem (List.mem_filter.mp he).1).2
theorem mul_sm {i j : Int} (h : -(2 ^ 64) < i ∧ i < 2 ^ 64) : mulD (.int i) (.int j) = some (.int (i * j)) := if_pos (.inl h)
theorem sqA2 {a b c : CS} {ρ : En} {n : Nat} {e : EndsD} (h : cSq a b ρ n { e with nx := fun ρ n => c ρ n e }) : cSq a (cSq b c) ρ n e := h
theorem sqA3 {a b c f : CS} {ρ : En} {n : Nat} {e : EndsD} (h : cSq a (cSq b c) ρ n { e with nx := fun ρ n => f ρ n e }) : cSq a (cSq b (cSq c f)) ρ n e := h
theorem sqA4 {a b c d f : CS} {ρ : En} {n : Nat} {e : EndsD} (h : cSq a (cSq b (cSq c d)) ρ n { e with nx := fun ρ n => f ρ n e }) : cSq a (cSq b (cSq c (cSq d f))) ρ n e := h
section
variable {e : EndsD} {n : Nat} {s : Str} {p ys ss : List Str} {qs : Xl} {t1 t2 t3 t4 t5 t6 t7 t8 t9 t10 t11 : Option Sl}
abbrev w20 (ss : List Str) (s : Str) (p ys : List Str) (qs : Xl) (t1 t5 t6 t8 t9 t10 t11 : Option Sl) : En := v20 t1 (some (.v (.list (strD ss)))) (some (.v (rowT (s :: p)))) (some (.v (.tuple ((exX (s :: p) ys).map (prX false))))) t5 t6 (some (.v (.tuple (qs.map (prX false))))) t8 t9 t10 t11
theorem r20_l_ok (T : T20 s p) (A : Asc (s :: p) ys) (hq : qs.Perm (exX (s :: p) ys)) (hne : ys ≠ []) (s2 : 2 ≤ ss.length) (s3 : ss.length ≤ 6) (hn : n ≤ 690000) (q : ∀ (t9 t10 t11 : Option Sl) (n' : Nat), n' ≤ n + 5 → e.nx (w20 ss s p ys qs t1 t5 t6 t8 t9 t10 t11) n') :
    r20_l (w20 ss s p ys qs t1 t5 t6 t8 t9 t10 t11) n e := by
  have hl := T.hl
  have hpl := T.pl
  have hyl := A.len
  have hdl : ys.length ≤ 20 := by
    have := nodup_short A.1 fun x hx => (A.2.1 x).mp hx
    rw [List.length_dropLast] at this
    omega
  have xl : (exX (s :: p) ys).length = ys.length := by unfold exX; rw [List.length_map]
  have tn := (tags_perm hq).nodup_iff.mpr A.1
  have ql : qs.length ≤ 21 := by rw [hq.length_eq, xl]; omega
  have qne : qs ≠ [] := fun z => by
    rw [z] at hq
    have := hq.length_eq
    rw [xl] at this
    exact hne (List.length_eq_zero_iff.mp this.symm)
  have qb : ∀ y ∈ qs, 0 < y.2.length ∧ y.2.length ≤ 25 := fun y hy => by
    obtain ⟨x, hx, rfl⟩ := List.mem_map.mp (hq.mem_iff.mp hy)
    have := ex_le (s :: p) x
    exact ⟨List.length_pos_iff.mpr (ex_some ((A.2.1 x).mp hx)), by show (exS (s :: p) x).length ≤ 25; omega⟩
  refine ⟨qs, rfl, qne, by omega, qb, by omega, fun qs' n1 ht hb hn1 => ?_⟩
  have tn' : (tagsR qs').Nodup := by rw [ht]; exact tn
  have ql' : qs'.length ≤ 30 := by
    have := congrArg List.length ht
    unfold tagsR at this
    rw [List.length_map, List.length_map] at this
    omega
  have hsl := len_strD ss
  refine ⟨.list (strD ss), strD ss, rfl, rfl, by omega, by omega, by omega, fun d hd => ?_⟩
  obtain ⟨o, _, rfl⟩ := List.mem_map.mp hd
  refine ⟨_, _, rfl, ?_⟩
  refine ⟨.str s, atI_zero _ _, by show 2 ≤ lim; decide, _, rfl, ?_⟩
  show cForL (stN 9) r20_i [.str s, .str o] (w20 ss s p ys qs t1 t5 t6 t8 t9 (some (.v (.tuple (qs'.map (prX false))))) (some (.v (.str o)))) (n1 + 1) _
  refine ⟨w20 ss s p ys qs t1 t5 t6 t8 (some (.v (.str s))) (some (.v (.tuple (qs'.map (prX false))))) (some (.v (.str o))), rfl, ?_⟩
  refine r20_i_ok tn' ql' hb ?_
  refine ⟨w20 ss s p ys qs t1 t5 t6 t8 (some (.v (.str o))) (some (.v (.tuple (qs'.map (prX false))))) (some (.v (.str o))), rfl, ?_⟩
  exact r20_i_ok tn' ql' hb (q _ _ _ _ (by omega))
theorem r20_laps (T : T20 s p) (A : Asc (s :: p) ys) (hq : qs.Perm (exX (s :: p) ys)) (hne : ys ≠ []) (s2 : 2 ≤ ss.length) (s3 : ss.length ≤ 6) : ∀ (laps : List D) (n : Nat) (t8 t9 t10 t11 : Option Sl), n + 5 * laps.length ≤ 690000 → (∀ (t8 t9 t10 t11 : Option Sl) (n' : Nat), n' ≤ n + 5 * laps.length → e.nx (w20 ss s p ys qs t1 t5 t6 t8 t9 t10 t11) n') →
    cForL (stN 8) r20_l laps (w20 ss s p ys qs t1 t5 t6 t8 t9 t10 t11) n e
  | [], n, t8, t9, t10, t11, _, q => q _ _ _ _ n (by omega)
  | d :: laps, n, t8, t9, t10, t11, hn, q => by
    rw [List.length_cons] at hn q
    refine ⟨w20 ss s p ys qs t1 t5 t6 (some (.v d)) t9 t10 t11, rfl, ?_⟩
    refine r20_l_ok T A hq hne s2 s3 (by omega) fun t9 t10 t11 n' hn' => ?_
    exact r20_laps T A hq hne s2 s3 laps n' _ _ _ _ (by omega) fun t8 t9 t10 t11 n2 h2 => q _ _ _ _ n2 (by omega)
theorem r20_turn (hn : n ≤ 600000) (q : ∀ (ρ : En) (n' : Nat), (∃ t2 t3 t4 t5 t6 t7 t8 t9 t10 t11, ρ = v20 t1 t2 t3 t4 t5 t6 t7 t8 t9 t10 t11) → n' ≤ n + 2400 → e.nx ρ n') : r20_b (v20 t1 t2 t3 t4 t5 t6 t7 t8 t9 t10 t11) n e := by
  refine sqA2 ?_
  refine r20_12_ok hn fun ss s p n1 T s2 s3 hn1 gss => ?_
  show cSq r20_3 (cSq r20_4 (cSq r20_5 (cSq r20_6 (cSq r20_7 (cSq r20_8 (cSq r20_9 r20_10)))))) (v20 t1 (some (.v (.list (strD ss)))) (some (.v (rowT (s :: p)))) t4 t5 t6 t7 t8 t9 t10 t11) n1 e
  refine sqA4 ?_
  refine r20_36_ok T fun ys t5 t6 A => ?_
  show cSq r20_7 (cSq r20_8 (cSq r20_9 r20_10)) (v20 t1 (some (.v (.list (strD ss)))) (some (.v (rowT (s :: p)))) (some (.v (.tuple ((exX (s :: p) ys).map (prX false))))) t5 t6 t7 t8 t9 t10 t11) n1 e
  refine sqA3 ?_
  refine r20_79_ok T A (by omega) fun qs t6 n2 hq hn2 => ?_
  have g : ∀ y ∈ exX (s :: p) ys, GoodS y.1 ∧ ∀ x ∈ y.2, GoodS x := fun y hy => by
    obtain ⟨x, hx, rfl⟩ := List.mem_map.mp hy
    exact ⟨T.gd x (A.mem hx), fun z hz => T.gd z (ex_mem hz)⟩
  refine ⟨by show 0 ≤ lim; decide, .bool (!(exX (s :: p) ys).isEmpty), neD_qs g, ?_⟩
  by_cases c : ys = []
  · have e1 : (exX (s :: p) ys).isEmpty = true := by rw [c]; rfl
    rw [e1]
    refine ⟨.int 0, .inr ⟨false, rfl, rfl⟩, .int 0, mul_sm ⟨by decide, by decide⟩, 0, rfl, ⟨by decide, by decide⟩, ?_⟩
    exact q _ n2 ⟨_, _, _, _, _, _, _, _, _, _, rfl⟩ (by omega)
  · have e1 : (exX (s :: p) ys).isEmpty = false := by
      cases hh : ys with
      | nil => exact absurd hh c
      | cons a l => rfl
    rw [e1]
    refine ⟨.int 1, .inr ⟨true, rfl, rfl⟩, .int 3, mul_sm ⟨by decide, by decide⟩, 3, rfl, ⟨by decide, by decide⟩, ?_⟩
    have e3 : (rangeD 0 (3 : Int).toNat).length = 3 := rfl
    refine r20_laps T A hq c s2 s3 _ n2 _ _ _ _ (by rw [e3]; omega) fun t8 t9 t10 t11 n3 h3 => ?_
    rw [e3] at h3
    exact q _ n3 ⟨_, _, _, _, _, _, _, _, _, _, rfl⟩ (by omega)
theorem turns20 : ∀ (turns : List D) (t1 t2 t3 t4 t5 t6 t7 t8 t9 t10 t11 : Option Sl) (n : Nat), n + 2400 * turns.length ≤ 600000 → (∀ (ρ : En) (n' : Nat), n' ≤ n + 2400 * turns.length → e.nx ρ n') → cForL (stN 1) r20_b turns (v20 t1 t2 t3 t4 t5 t6 t7 t8 t9 t10 t11) n e
  | [], _, _, _, _, _, _, _, _, _, _, _, n, _, q => q _ n (by omega)
  | d :: turns, t1, t2, t3, t4, t5, t6, t7, t8, t9, t10, t11, n, h, q => by
    rw [List.length_cons] at h q
    refine ⟨v20 (some (.v d)) t2 t3 t4 t5 t6 t7 t8 t9 t10 t11, rfl, ?_⟩
    refine r20_turn (by omega) fun ρ n' hρ hn' => ?_
    obtain ⟨t2, t3, t4, t5, t6, t7, t8, t9, t10, t11, rfl⟩ := hρ
    exact turns20 turns _ _ _ _ _ _ _ _ _ _ _ n' (by omega) fun ρ n2 h2 => q ρ n2 (by omega)
theorem himp_right20 (ds : List D) (n : Nat) (k : D → Nat → Prop) (ke : Xv → Nat → Prop) (h : sdRight11 ds n k ke) (he : e.rt = k) : cs_right20 (startE n_right20 ds) n e := by
  obtain ⟨rfl, rfl, q⟩ := h
  subst he
  refine ⟨rfl, true, rfl, ?_⟩
  refine ⟨6, rfl, ⟨by decide, by decide⟩, ?_⟩
  have e5 : (rangeD 0 (6 : Int).toNat).length = 6 := rfl
  exact turns20 _ none none none none none none none none none none none 0 (by rw [e5]; omega) fun ρ n' hn' => q n'
end
end RM
set_option maxHeartbeats 4000000
namespace RM
open PySem PySem.Spec PyProof.Rows L2 CS RZ
/-! ### tuple(a text) -/
theorem meets_tuple_txt (x : Str) (t : Tok) (hsz : x.cps.size ≤ sizeLine) : Meets (Builtin.«tuple.__new__» ⟨[.type "tuple", .str x t], []⟩)
    (fun A R s => A.handled = none ∧ ∀ (s' : Shared) (acc : Array Value), (∀ b o, s.heap.get? b = some o → s'.heap.get? b = some o) → s'.gens = s.gens → s'.drawn = s.drawn → s'.os = s.os → ItemsOf (SignAt x) acc x.cps.size →
      R (.ok (.ret (.ref s'.heap.objs.size))) { s' with heap := s'.heap.push { cls := .type "tuple", data := .seq acc } }) :=
  .of_wp fun prog w A R s h => by
    obtain ⟨hp, g, d, tk, os⟩ := s; obtain ⟨hh, h⟩ := h
    have hsub := sub_tuple_self
    have hinit := init_tuple_lookup
    have hmh := madeHere_tuple
    have hT : Shared.TypeIs ⟨hp, g, d, tk, os⟩ (.str x t) "str" := rfl
    have hh1 : A.in1.handled = none := by simp [hh]
    wp_walk using wpAny_typeOf hT, wpAny_collect_str (hn := hsz) hh1 x t
    intro s' acc hk h2 h3 h4 hit
    show wpAny _ _ (Builtin.Tuple.tupleExact acc.toList.toArray >>= fun v => ret v) _ _ _
    unfold Builtin.Tuple.tupleExact
    have e : acc.toList.toArray = acc := by simp
    rw [e]
    refine wpAny_bind (wpAny_newObj_type ?_ (by show acc.size ≤ sizeLine; rw [hit.1]; exact hsz))
    refine wpAny_pure ⟨_, rfl, ?_⟩
    exact h s' acc hk h2 h3 h4 hit
section
variable {X : Cx}
def gTupleS (ds : List D) (z : D) : Prop := ∃ x : Str, ds = [.str x] ∧ x.cps.size ≤ lim ∧ z = .tuple (charsD x)
theorem call_tuple_txt (hc : X.calm = true) : CallR X (.type "tuple") (fun xs H Q => ∃ z : Str, xs = [.str z] ∧ z.cps.size ≤ lim ∧ ∀ l, H l = none → Q (.ref l) (upd H l (.tup ((signs z).map V.str)))) := by
  intro pins s σ H xs us Q I r h
  obtain ⟨z, rfl, hz, q⟩ := h
  obtain ⟨u, rfl, rx⟩ := vals1 r
  obtain ⟨t, rfl⟩ := rx
  have hfit : z.cps.size ≤ sizeLine := lim_le hz
  refine callType_new F.called_tuple (by decide) (F.typeCall_tuple_1 _) (F.newCall_tuple_1 _) (fun obj => F.args_object_init_2 obj _) F.entry_tuple_new (meets_tuple_txt z t hfit) ⟨by simp [I.ok.hd hc], fun s' acc hk hg hdr ho it => ⟨⟨_, Heap.get?_push_size _ rfl, rfl⟩, ?_⟩⟩
  have rv : Vals ((signs z).map V.str) acc.toList := by
    unfold signs
    rw [List.map_map]
    refine vals_signs z.cps.toList acc.toList (by rw [Array.length_toList, Array.length_toList]; exact it.1) fun j u e => ?_
    rw [Array.getElem?_toList] at e
    obtain ⟨c, u', e1, e2⟩ := it.2 j u e
    exact ⟨c, u', by rw [Array.getElem?_toList]; exact e1, e2⟩
  obtain ⟨h', g', d', tk', os'⟩ := s'
  cases hg
  cases hdr
  cases ho
  have I1 : Inv X pins σ H { s with heap := h', toks := tk' } := I.kept (t' := tk') hk
  have I2 : Inv X pins σ (upd H h'.objs.size (.tup ((signs z).map V.str))) { s with heap := h'.push { cls := .type "tuple", data := .seq acc }, toks := tk' } :=
    I1.laid (t' := tk') (fun b o e => Heap.get?_push_of_some _ e) (Nat.le_refl _) (show ObjOk X.prog X.w _ _ _ (.tup _) from ⟨by
      unfold signs
      rw [List.length_map, List.length_map, Array.length_toList]
      exact hfit, acc.toList, rv, IsTup.new _ _⟩)
  exact ⟨.ref h'.objs.size, _, I2, rfl, q _ (I1.hok.fresh (Nat.le_refl _))⟩
theorem cd_tupleS (hc : X.calm = true) : CallD X (.type "tuple") gTupleS := by
  refine ⟨_, call_tuple_txt hc, fun T Hh H vs ds z Q hK s il hg q => ?_⟩
  obtain ⟨x, rfl, hl, rfl⟩ := hg
  obtain ⟨v, rfl, iv⟩ := il.one
  rw [iv.str']
  refine ⟨x, rfl, hl, newT q ?_⟩
  have : charsD x = (signs x).map PyData.str := by
    unfold charsD signs
    rw [List.map_map]
    rfl
  rw [this]
  exact isL_strs _
end
end RM
namespace RM
open PySem PySem.Spec PyProof.Rows L2 CS RZ
/-! ### by hand (k20) -/
def h20_1 : CS := cOwn 0 (cLst (cCons (cCall sdLastSteps (cCons (cCB gTupleS (cCons (cC (.str "abacab")) (cNil))) (cNil))) (cCons (cCallK 1 sdLastSteps (cCons (cCF gList' (cCons (cC (.str "abcbac")) (cNil))) cNil)) (cCons (cCall sdLastSteps (cCons (cTup (cCons (cC (.str "q")) (cNil))) (cNil))) (cNil)))))
def h20_2 : CS := cIfS (cNotT (cB (cCall sdSame6 (cCons (cVar 0) (cCons (cLst (cCons (cTup (cCons (cTup (cCons (cC (.str "a")) (cCons (cC (.str "b")) (cNil)))) (cCons (cTup (cCons (cC (.str "c")) (cCons (cC (.str "a")) (cNil)))) (cNil)))) (cCons (cTup (cCons (cTup (cCons (cC (.str "a")) (cCons (cC (.str "c")) (cNil)))) (cCons (cTup (cCons (cC (.str "b")) (cCons (cC (.str "a")) (cNil)))) (cNil)))) (cCons (cTup (cNil)) (cNil))))) (cNil)))))) (cRet (cC (.bool false))) (cNext)
def h20_3 : CS := cOwn 0 (cLst (cCons (cCallK 1 sdExitLists (cCons (cLst (cCons (cC (.str "a")) (cCons (cC (.str "b")) (cCons (cC (.str "a")) (cCons (cC (.str "c")) (cNil)))))) cNil)) (cCons (cCall sdExitLists (cCons (cTup (cCons (cC (.str "q")) (cNil))) (cNil))) (cCons (cCall sdByLists (cCons (cC (.str "q")) (cCons (cTup (cNil)) (cNil)))) (cNil)))))
def h20_4 : CS := cDrop (cApp 0 (cCall sdByLists (cCons (cC (.str "q")) (cCons (cTup (cCons (cTup (cCons (cC (.str "q")) (cCons (cTup (cNil)) (cNil)))) (cNil))) (cNil)))))
def h20_5 : CS := cDrop (cApp 0 (cCallP 2 [1, 0] sdByLists (cCons (cLst (cCons (cLst (cCons (cC (.str "b")) (cCons (cLst (cCons (cC (.str "a")) (cNil))) (cNil)))) (cCons (cLst (cCons (cC (.str "a")) (cCons (cLst (cCons (cC (.str "b")) (cCons (cC (.str "c")) (cNil)))) (cNil)))) (cNil)))) (cCons (cC (.str "a")) (cNil)))))
def h20_6 : CS := cDrop (cApp 0 (cCall sdByLists (cCons (cC (.str "b")) (cCons (cTup (cCons (cTup (cCons (cC (.str "a")) (cCons (cTup (cCons (cC (.str "b")) (cNil))) (cNil)))) (cNil))) (cNil)))))
def h20_7 : CS := cSet 0 (cOp addD (cVar 0) (cLst (cCons (cCall sdByLists (cCons (cC (.str "a")) (cCons (cTup (cCons (cTup (cCons (cC (.str "a")) (cCons (cTup (cCons (cC (.str "c")) (cCons (cC (.str "b")) (cNil)))) (cNil)))) (cCons (cTup (cCons (cC (.str "b")) (cCons (cTup (cCons (cC (.str "a")) (cNil))) (cNil)))) (cNil)))) (cNil)))) (cCons (cCall sdByLists (cCons (cC (.str "a")) (cCons (cTup (cCons (cTup (cCons (cC (.str "a")) (cCons (cTup (cCons (cC (.str "b")) (cNil))) (cNil)))) (cCons (cTup (cCons (cC (.str "b")) (cCons (cTup (cNil)) (cNil)))) (cNil)))) (cNil)))) (cNil)))))
def h20_8 : CS := cSet 0 (cOp addD (cVar 0) (cLst (cCons (cCall sdByLists (cCons (cC (.str "a")) (cCons (cTup (cCons (cTup (cCons (cC (.str "a")) (cCons (cTup (cCons (cC (.str "b")) (cCons (cC (.str "b")) (cNil)))) (cNil)))) (cCons (cTup (cCons (cC (.str "b")) (cCons (cTup (cCons (cC (.str "a")) (cCons (cC (.str "a")) (cNil)))) (cNil)))) (cNil)))) (cNil)))) (cCons (cCall sdByLists (cCons (cC (.str "d")) (cCons (cTup (cCons (cTup (cCons (cC (.str "a")) (cCons (cTup (cNil)) (cNil)))) (cNil))) (cNil)))) (cNil)))))
def h20_9 : CS := cSet 1 (cLst (cCons (cTup (cCons (cTup (cCons (cC (.str "a")) (cCons (cTup (cCons (cC (.str "b")) (cCons (cC (.str "c")) (cNil)))) (cNil)))) (cCons (cTup (cCons (cC (.str "b")) (cCons (cTup (cCons (cC (.str "a")) (cNil))) (cNil)))) (cNil)))) (cCons (cTup (cNil)) (cCons (cTup (cCons (cC (.str "q")) (cNil))) (cCons (cTup (cCons (cC (.str "q")) (cNil))) (cCons (cTup (cCons (cC (.str "a")) (cCons (cC (.str "b")) (cCons (cC (.str "a")) (cCons (cC (.str "c")) (cNil)))))) (cCons (cC .none) (cCons (cC .none) (cCons (cTup (cCons (cC (.str "a")) (cCons (cC (.str "b")) (cNil)))) (cNil))))))))))
def h20_10 : CS := cRet (cCall sdSame6 (cCons (cVar 0) (cCons (cOp addD (cVar 1) (cLst (cCons (cTup (cCons (cC (.str "a")) (cCons (cC (.str "b")) (cCons (cC (.str "a")) (cCons (cC (.str "b")) (cCons (cC (.str "a")) (cNil))))))) (cCons (cTup (cCons (cC (.str "d")) (cNil))) (cNil))))) (cNil))))
def cs_by_hand20 : CS := cSq h20_1 (cSq h20_2 (cSq h20_3 (cSq h20_4 (cSq h20_5 (cSq h20_6 (cSq h20_7 (cSq h20_8 (cSq h20_9 (h20_10)))))))))
abbrev n_by_hand20 : List Str := ["_law_told", "_law_due"]
def pairT (a b : Str) : D := .tuple [.str a, .str b]
def LS : List D := [.tuple [pairT "a" "b", pairT "c" "a"], .tuple [pairT "a" "c", pairT "b" "a"], .tuple []]
def exABAC : D := .tuple [.tuple [.str "a", .tuple [.str "b", .str "c"]], .tuple [.str "b", .tuple [.str "a"]]]
def Lb3 : List D := [exABAC, .tuple [], rowT ["q"]]
def Lb4 : List D := Lb3 ++ [rowT ["q"]]
def Lb5 : List D := Lb4 ++ [rowT ["a", "b", "a", "c"]]
def Lb6 : List D := Lb5 ++ [.none]
def Lb7 : List D := Lb6 ++ [.none, rowT ["a", "b"]]
def Lb8 : List D := Lb7 ++ [rowT ["a", "b", "a", "b", "a"], rowT ["d"]]
theorem good_in {l : List Str} (h : (l.all fun z => (PyData.str z).canLay0) = true) : ∀ y ∈ l, GoodS y := fun y hy => (List.all_eq_true.mp h y hy : _)
theorem asc_by {row ys zs : List Str} (h : Asc row zs) (h1 : ys.Nodup) (h2 : (ys.all fun p => decide (p ∈ row.dropLast)) = true) (h3 : (row.dropLast.all fun p => decide (p ∈ ys)) = true) (h4 : sortedS ys = true) : zs = ys :=
  h.one ⟨h1, fun p => ⟨fun hp => of_decide_eq_true (List.all_eq_true.mp h2 p hp), fun hp => of_decide_eq_true (List.all_eq_true.mp h3 p hp)⟩, h4⟩
theorem by_none {ps : Xl} {s : Str} (h : decide ((byP ps s).1.length = totR ps) = false) : byL ps s = .none := if_neg (of_decide_eq_false h)
theorem by_some {ps : Xl} {s : Str} {p : List Str} (h : (byP ps s).1 = p) (h2 : p.length = totR ps) : byL ps s = rowT (s :: p) := by
  unfold byL
  rw [h, if_pos h2]
theorem okS_Lb8 : okS 5 (.list Lb8) := by
  refine ⟨by decide, fun d hd => ?_⟩
  have e1 : okS 4 exABAC := okS_qs (k := 0) (qs := [("a", ["b", "c"]), ("b", ["a"])]) (by decide) (fun y hy => by
    simp only [List.mem_cons, List.not_mem_nil, or_false] at hy
    rcases hy with rfl | rfl <;> decide)
  have e2 : okS 4 (.tuple []) := okS_row 2 [] (by decide)
  unfold Lb8 Lb7 Lb6 Lb5 Lb4 Lb3 at hd
  simp only [List.mem_append, List.mem_cons, List.not_mem_nil, or_false] at hd
  rcases hd with (((((rfl | rfl | rfl) | rfl) | rfl) | rfl) | (rfl | rfl)) | (rfl | rfl) <;> first | exact e1 | exact e2 | exact trivial | exact okS_row 2 _ (by decide)
theorem okS_LS : okS 5 (.list LS) := by
  refine ⟨by decide, fun d hd => ?_⟩
  have p : ∀ a b : Str, okS 3 (pairT a b) := fun a b => okS_row 1 [a, b] (show 2 ≤ 1000 by decide)
  have pp : ∀ a b c d : Str, okS 4 (.tuple [pairT a b, pairT c d]) := fun a b c d => ⟨(show 2 ≤ 1000 by decide), fun x hx => by
    rcases List.mem_cons.mp hx with rfl | hx
    · exact p _ _
    · rw [List.mem_singleton.mp hx]
      exact p _ _⟩
  unfold LS at hd
  simp only [List.mem_cons, List.not_mem_nil, or_false] at hd
  rcases hd with rfl | rfl | rfl
  · exact pp _ _ _ _
  · exact pp _ _ _ _
  · exact okS_row 2 [] (by decide)
section
variable {e : EndsD} {n : Nat} {t0 t1 : Option Sl}
theorem h20_1_ok (q : e.nx [some (.own (.list LS)), t1] n) : h20_1 [t0, t1] n e := by
  refine ⟨_, ⟨"abacab", rfl, by decide, rfl⟩, .tuple (charsD "abacab"), ["a", "b", "a", "c", "a", "b"], ["a", "b", "a", "c", "a"], "b", rfl, rfl, rfl, good_in (by decide +kernel), by decide, fun ys A => ?_⟩
  rw [asc_by A (ys := ["a", "b", "c"]) (by decide) (by decide +kernel) (by decide +kernel) (by decide +kernel), show lastX ["a", "b", "a", "c", "a", "b"] ["a", "b", "c"] "b" = [pairT "a" "b", pairT "c" "a"] by rfl]
  refine ⟨_, .inr ⟨"abcbac", rfl, by decide, rfl⟩, rfl, .list (charsD "abcbac"), ["a", "b", "c", "b", "a", "c"], ["a", "b", "c", "b", "a"], "c", rfl, rfl, rfl, good_in (by decide +kernel), by decide, fun ys A => ?_⟩
  rw [asc_by A (ys := ["a", "b", "c"]) (by decide) (by decide +kernel) (by decide +kernel) (by decide +kernel), show lastX ["a", "b", "c", "b", "a", "c"] ["a", "b", "c"] "c" = [pairT "a" "c", pairT "b" "a"] by rfl]
  refine ⟨by show 1 ≤ lim; decide, .tuple [.str "q"], ["q"], [], "q", rfl, rfl, rfl, good_in (by decide +kernel), by decide, fun ys A => ?_⟩
  rw [asc_by A (ys := []) (by decide) (by decide +kernel) (by decide +kernel) (by decide +kernel)]
  exact ⟨by show 3 ≤ lim; decide, by show 0 < 2; decide, q⟩
theorem h20_2_ok (q : e.nx [some (.v (.list LS)), t1] n) : h20_2 [some (.own (.list LS)), t1] n e := by
  refine ?_
  repeat (refine ⟨(by decide : _ ≤ lim), ?_⟩)
  exact ⟨.list LS, rfl, okS_LS, true, rfl, q⟩
theorem h20_3_ok (q : e.nx [some (.own (.list Lb3)), t1] n) : h20_3 [t0, t1] n e := by
  refine ⟨by show 4 ≤ lim; decide, rfl, .list [.str "a", .str "b", .str "a", .str "c"], ["a", "b", "a", "c"], rfl, rfl, good_in (by decide +kernel), by decide, fun ys A => ?_⟩
  rw [asc_by A (ys := ["a", "b"]) (by decide) (by decide +kernel) (by decide +kernel) (by decide +kernel), show PyData.tuple ((exX ["a", "b", "a", "c"] ["a", "b"]).map (prX false)) = exABAC by rfl]
  refine ⟨by show 1 ≤ lim; decide, .tuple [.str "q"], ["q"], rfl, rfl, good_in (by decide +kernel), by decide, fun ys A => ?_⟩
  rw [asc_by A (ys := []) (by decide) (by decide +kernel) (by decide +kernel) (by decide +kernel)]
  refine ⟨by show 0 ≤ lim; decide, "q", .tuple [], [], false, rfl, rfl, by decide, by decide, by decide, fun y hy => absurd hy List.not_mem_nil, ?_⟩
  rw [by_some (ps := []) (s := "q") (p := []) (by decide +kernel) (by decide)]
  exact ⟨by show 3 ≤ lim; decide, by show 0 < 2; decide, q⟩
theorem h20_4_ok (q : e.nx [some (.own (.list Lb4)), t1] n) : h20_4 [some (.own (.list Lb3)), t1] n e := by
  refine ⟨⟨_, rfl⟩, ?_⟩
  repeat (refine ⟨(by decide : _ ≤ lim), ?_⟩)
  refine ⟨"q", .tuple [.tuple [.str "q", .tuple []]], [("q", [])], false, rfl, rfl, by decide, by decide, by decide, by decide, ?_⟩
  rw [by_some (ps := [("q", [])]) (s := "q") (p := []) (by decide +kernel) (by decide)]
  exact ⟨_, rfl, by decide, q⟩
theorem h20_5_ok (q : e.nx [some (.own (.list Lb5)), t1] n) : h20_5 [some (.own (.list Lb4)), t1] n e := by
  refine ⟨⟨_, rfl⟩, ?_⟩
  repeat (refine ⟨(by decide : _ ≤ lim), ?_⟩)
  refine ⟨rfl, "a", .list [.list [.str "b", .list [.str "a"]], .list [.str "a", .list [.str "b", .str "c"]]], [("b", ["a"]), ("a", ["b", "c"])], true, rfl, rfl, by decide, by decide, by decide, by decide, ?_⟩
  rw [by_some (ps := [("b", ["a"]), ("a", ["b", "c"])]) (s := "a") (p := ["b", "a", "c"]) (by decide +kernel) (by decide)]
  exact ⟨_, rfl, by decide, q⟩
theorem h20_6_ok (q : e.nx [some (.own (.list Lb6)), t1] n) : h20_6 [some (.own (.list Lb5)), t1] n e := by
  refine ⟨⟨_, rfl⟩, ?_⟩
  repeat (refine ⟨(by decide : _ ≤ lim), ?_⟩)
  refine ⟨"b", .tuple [.tuple [.str "a", .tuple [.str "b"]]], [("a", ["b"])], false, rfl, rfl, by decide, by decide, by decide, by decide, ?_⟩
  rw [by_none (ps := [("a", ["b"])]) (s := "b") (by decide +kernel)]
  exact ⟨_, rfl, by decide, q⟩
theorem h20_7_ok (q : e.nx [some (.v (.list Lb7)), t1] n) : h20_7 [some (.own (.list Lb6)), t1] n e := by
  refine ?_
  repeat (refine ⟨(by decide : _ ≤ lim), ?_⟩)
  refine ⟨"a", .tuple [.tuple [.str "a", .tuple [.str "c", .str "b"]], .tuple [.str "b", .tuple [.str "a"]]], [("a", ["c", "b"]), ("b", ["a"])], false, rfl, rfl, by decide, by decide, by decide, by decide, ?_⟩
  rw [by_none (ps := [("a", ["c", "b"]), ("b", ["a"])]) (s := "a") (by decide +kernel)]
  refine ?_
  repeat (refine ⟨(by decide : _ ≤ lim), ?_⟩)
  refine ⟨"a", .tuple [.tuple [.str "a", .tuple [.str "b"]], .tuple [.str "b", .tuple []]], [("a", ["b"]), ("b", [])], false, rfl, rfl, by decide, by decide, by decide, by decide, ?_⟩
  rw [by_some (ps := [("a", ["b"]), ("b", [])]) (s := "a") (p := ["b"]) (by decide +kernel) (by decide)]
  exact ⟨by show 2 ≤ lim; decide, _, cat_fit rfl, q⟩
theorem h20_8_ok (q : e.nx [some (.v (.list Lb8)), t1] n) : h20_8 [some (.v (.list Lb7)), t1] n e := by
  refine ?_
  repeat (refine ⟨(by decide : _ ≤ lim), ?_⟩)
  refine ⟨"a", .tuple [.tuple [.str "a", .tuple [.str "b", .str "b"]], .tuple [.str "b", .tuple [.str "a", .str "a"]]], [("a", ["b", "b"]), ("b", ["a", "a"])], false, rfl, rfl, by decide, by decide, by decide, by decide, ?_⟩
  rw [by_some (ps := [("a", ["b", "b"]), ("b", ["a", "a"])]) (s := "a") (p := ["b", "a", "b", "a"]) (by decide +kernel) (by decide)]
  refine ?_
  repeat (refine ⟨(by decide : _ ≤ lim), ?_⟩)
  refine ⟨"d", .tuple [.tuple [.str "a", .tuple []]], [("a", [])], false, rfl, rfl, by decide, by decide, by decide, by decide, ?_⟩
  rw [by_some (ps := [("a", [])]) (s := "d") (p := []) (by decide +kernel) (by decide)]
  exact ⟨by show 2 ≤ lim; decide, _, cat_fit rfl, q⟩
theorem h20_9_ok (q : e.nx [t0, some (.v (.list Lb7))] n) : h20_9 [t0, t1] n e := by
  refine ?_
  repeat (refine ⟨(by decide : _ ≤ lim), ?_⟩)
  exact q
theorem h20_10_ok (q : e.rt (.bool true) n) : h20_10 [some (.v (.list Lb8)), some (.v (.list Lb7))] n e := by
  refine ?_
  repeat (refine ⟨(by decide : _ ≤ lim), ?_⟩)
  exact ⟨_, cat_fit rfl, .list Lb8, rfl, okS_Lb8, q⟩
theorem himp_by_hand20 (ds : List D) (n : Nat) (k : D → Nat → Prop) (ke : Xv → Nat → Prop) (h : sdByHand39 ds n k ke) (he : e.rt = k) : cs_by_hand20 (startE n_by_hand20 ds) n e := by
  obtain ⟨rfl, q⟩ := h
  subst he
  refine h20_1_ok ?_
  refine h20_2_ok ?_
  refine h20_3_ok ?_
  refine h20_4_ok ?_
  refine h20_5_ok ?_
  refine h20_6_ok ?_
  refine h20_7_ok ?_
  refine h20_8_ok ?_
  refine h20_9_ok ?_
  exact h20_10_ok q
end
end RM
namespace L2
open PySem PySem.Spec PyProof.Rows
section
variable {X : Cx}
/-- y = {k: v for ..} : stored before the block is left -/
theorem ps_setDcP {i : Nat} {y : Str} {py : Pos} {kx vx tg iter : Expr} {ifs : List Expr} {scope : Scope} {own : List (Str × Nat)} {pos spos : Pos} {o0 : HO} {wi : TI} {g : TG} {tt : TT} {tk tv : TE} (v0 : Void o0) (hu : X.A.units + 1 < cLine) (hc : X.calm = true) (hN : X.N.Nodup) (hy : X.N[i]? = some y) (hyl : X.env.scope.names.lookup y = some .local)
    (hsw : swapsWith (.DictComp kx vx [⟨tg, iter, ifs, 0⟩] scope pos) (some (.Name y py)) spos.line X.env = pure true) (hi : PI X tg iter wi) (ok : BlkOk X.N X.env.scope scope own)
    (hg : ∀ (s : Shared) (H : Hp) (C : Addr) (cl : List (Str × Addr)) (fp : List Addr), PG (X.blk s H scope (compEnvC scope cl C X.env) fp) tg g) (ht : ∀ (s : Shared) (H : Hp) (C : Addr) (cl : List (Str × Addr)) (fp : List Addr), PTs (X.blk s H scope (compEnvC scope cl C X.env) fp) ifs tt)
    (hk : ∀ (s : Shared) (H : Hp) (C : Addr) (cl : List (Str × Addr)) (fp : List Addr), PE (X.blk s H scope (compEnvC scope cl C X.env) fp) kx tk) (hv : ∀ (s : Shared) (H : Hp) (C : Addr) (cl : List (Str × Addr)) (fp : List Addr), PE (X.blk s H scope (compEnvC scope cl C X.env) fp) vx tv)
    (hs : ∀ x, foldedSetIterable iter X.env x = pure x := by intro _; rfl) :
    PS X (.Assign [.Name y py] (.DictComp kx vx [⟨tg, iter, ifs, 0⟩] scope pos) spos) (tAsg (tDcP o0 wi g tt tk tv (own.map (·.2))) (gName i)) := by
  refine ⟨fun pins s σ H D I h => ?_⟩
  rw [exec_Assign_Name_used _ _ _ _ hsw]
  refine wpAny_bind (wpAny_standAt (wpAny_bind ?_))
  show wpAny _ X.A (do let _ ← comprehension (.DictComp kx vx [⟨tg, iter, ifs, 0⟩] scope pos) scope X.env (firstIterPos [⟨tg, iter, ifs, 0⟩] pos) newDict false (eval iter X.env) (some (assign (.Name y py) X.env))) _ _ s
  have h : tDcP o0 wi g tt tk tv (own.map (·.2)) σ H (fun x H1 => gName i x σ H1 D.nx) := h
  refine wpAny_bind (thn (dcP_core (Qf := fun _ s' => SP X pins D .next s') v0 hu hc hN I hi ok hg ht hk hv hs h fun L C s' m H' I' q hn f => ?_) fun _ s' hq => wpAny_pure (wpAny_pure hq))
  show wpAny _ _ (assign (.Name y py) X.env (.ref L)) _ _ _
  refine wpAny_assign_Name (store_ok2 (v := V.ref L) I' hN hy (.inl hyl) rfl (fun s2 I2 ⟨a, sb, ha⟩ => ?_) (.inr hyl))
  obtain ⟨f0, f1, f2, f3, f4, f5⟩ := f
  have haC : C ≠ a := by
    rcases ha with z | z
    · rw [z]; exact f1
    · exact fun e => f4 y a z e.symm
  refine ⟨m, hn.sameBut sb haC, fun h3 sb3 => ?_⟩
  exact ⟨_, H', I2.turned (t' := s2.toks) (fun b o hb e => (sb3.2 b hb).trans e) f0 f1 f3 f4 f5, q⟩
end
end L2
namespace RM
open PySem PySem.Spec PyProof.Rows L2 CS RZ
section
variable {X : Cx} {g : Glob} {xk : WX}
theorem pds_ownDc (b0 : Bool) {i : Nat} {y : Str} {py : Pos} {kx vx tg iter : Expr} {ifs : List Expr} {scope : Scope} {own : List (Str × Nat)} {pos spos : Pos} {ci : CA} {cg : CG} {js : List Nat} {tt : CT} {tk tv : CE} (hu : X.A.units + 1 < cLine) (hc : X.calm = true) (hN : X.N.Nodup) (hy : X.N[i]? = some y) (hyl : X.env.scope.names.lookup y = some .local) (hi : PDI X g xk tg iter ci) (ok : BlkOk X.N X.env.scope scope own)
    (hg : ∀ (s : Shared) (H : Hp) (C : Addr) (cl : List (Str × Addr)) (fp : List Addr), PDG (X.blk s H scope (compEnvC scope cl C X.env) fp) g js tg cg) (ht : ∀ (s : Shared) (H : Hp) (C : Addr) (cl : List (Str × Addr)) (fp : List Addr), PDTs (X.blk s H scope (compEnvC scope cl C X.env) fp) g xF ifs tt)
    (hk : ∀ (s : Shared) (H : Hp) (C : Addr) (cl : List (Str × Addr)) (fp : List Addr), PDK (X.blk s H scope (compEnvC scope cl C X.env) fp) g xF kx tk) (hv : ∀ (s : Shared) (H : Hp) (C : Addr) (cl : List (Str × Addr)) (fp : List Addr), PD (X.blk s H scope (compEnvC scope cl C X.env) fp) g xF vx tv)
    (hsw : swapsWith (.DictComp kx vx [⟨tg, iter, ifs, 0⟩] scope pos) (some (.Name y py)) spos.line X.env = pure true := by rfl) (hj : ∀ j ∈ js, j ∈ own.map (·.2) := by decide) (hs : ∀ x, foldedSetIterable iter X.env x = pure x := by intro _; rfl) :
    PDS X g xk (.Assign [.Name y py] (.DictComp kx vx [⟨tg, iter, ifs, 0⟩] scope pos) spos) (cOwn i (cDc b0 ci cg tt tk tv (own.map (·.2)))) :=
  ⟨ps_imp (ps_setDcP (void_is b0) hu hc hN hy hyl hsw hi.pi ok (fun s H C cl fp => (hg s H C cl fp).pg) (fun s H C cl fp => (ht s H C cl fp).pts) (fun s H C cl fp => (hk s H C cl fp).pe) (fun s H C cl fp => (hv s H C cl fp).pe) hs) fun D σ H h => dc_use hj (own_use h)⟩
end
end RM
set_option maxHeartbeats 4000000
namespace K20
open PySem PySem.Spec PyProof.Rows L2 CS
abbrev sBent : Stmt := top 19
structure Laid (H : Hp) (D : Addr) (m : Nat) (P Qa : Nat → Addr) (T : Nat → Str) (E : Nat → List Str) : Prop where
  top : H D = some (.lst ((List.range m).map fun i => V.ref (P i)))
  row : ∀ i, i < m → H (P i) = some (.lst [.str (T i), .ref (Qa i)])
  lst : ∀ i, i < m → H (Qa i) = some (.lst ((E i).map V.str))
  pp : ∀ i j, i < m → j < m → P i = P j → i = j
  qq : ∀ i j, i < m → j < m → Qa i = Qa j → i = j
  pq : ∀ i j, i < m → j < m → P i ≠ Qa j
  dp : ∀ i, i < m → D ≠ P i
  dq : ∀ i, i < m → D ≠ Qa i
section
variable {H H' : Hp} {D : Addr} {m : Nat} {P Qa : Nat → Addr} {T : Nat → Str} {E : Nat → List Str}
theorem Laid.same (L : Laid H D m P Qa T E) (s : Same H H') : Laid H' D m P Qa T E :=
  ⟨s _ _ L.top, fun i h => s _ _ (L.row i h), fun i h => s _ _ (L.lst i h), L.pp, L.qq, L.pq, L.dp, L.dq⟩
theorem Laid.keep {b : Addr} (L : Laid H D m P Qa T E) (k : Keep b H H') (h1 : D ≠ b) (h2 : ∀ i, i < m → P i ≠ b) (h3 : ∀ i, i < m → Qa i ≠ b) : Laid H' D m P Qa T E :=
  ⟨k _ _ h1 L.top, fun i h => k _ _ (h2 i h) (L.row i h), fun i h => k _ _ (h3 i h) (L.lst i h), L.pp, L.qq, L.pq, L.dp, L.dq⟩
/-- a list is changed where it lies -/
theorem Laid.setQ (L : Laid H D m P Qa T E) {i : Nat} (hi : i < m) (es : List Str) : Laid (upd H (Qa i) (.lst (es.map V.str))) D m P Qa T (fun j => if j = i then es else E j) := by
  refine ⟨?_, fun j hj => ?_, fun j hj => ?_, L.pp, L.qq, L.pq, L.dp, L.dq⟩
  · rw [upd_ne (L.dq i hi)]
    exact L.top
  · rw [upd_ne (L.pq j i hj hi)]
    exact L.row j hj
  · by_cases c : j = i
    · subst c
      rw [upd_same, if_pos rfl]
    · rw [upd_ne fun z => c (L.qq j i hj hi z), if_neg c]
      exact L.lst j hj
/-- a new list in the place of one -/
theorem Laid.setP (L : Laid H D m P Qa T E) {i : Nat} (hi : i < m) {q : Addr} {es : List Str} (hq : H q = some (.lst (es.map V.str))) (n1 : q ≠ D) (n2 : ∀ j, j < m → q ≠ P j) (n3 : ∀ j, j < m → q ≠ Qa j) :
    Laid (upd H (P i) (.lst [.str (T i), .ref q])) D m P (fun j => if j = i then q else Qa j) T (fun j => if j = i then es else E j) := by
  refine ⟨?_, fun j hj => ?_, fun j hj => ?_, L.pp, fun j k hj hk e => ?_, fun j k hj hk => ?_, L.dp, fun j hj => ?_⟩
  · rw [upd_ne (L.dp i hi)]
    exact L.top
  · by_cases c : j = i
    · subst c
      rw [upd_same, if_pos rfl]
    · rw [upd_ne fun z => c (L.pp j i hj hi z), if_neg c]
      exact L.row j hj
  · by_cases c : j = i
    · subst c
      simp only [if_true]
      rw [upd_ne (n2 j hj)]
      exact hq
    · simp only [if_neg c]
      rw [upd_ne fun z => L.pq i j hi hj z.symm]
      exact L.lst j hj
  · by_cases c : j = i
    · by_cases c2 : k = i
      · rw [c, c2]
      · simp only [if_pos c, if_neg c2] at e
        exact absurd e (n3 k hk)
    · by_cases c2 : k = i
      · simp only [if_neg c, if_pos c2] at e
        exact absurd e.symm (n3 j hj)
      · simp only [if_neg c, if_neg c2] at e
        exact L.qq j k hj hk e
  · by_cases c : k = i
    · simp only [if_pos c]
      exact fun z => n2 j hj z.symm
    · simp only [if_neg c]
      exact L.pq j k hj hk
  · by_cases c : j = i
    · simp only [if_pos c]
      exact fun z => n1 z.symm
    · simp only [if_neg c]
      exact L.dq j hj
/-- one more -/
theorem Laid.more (L : Laid H D m P Qa T E) {p q : Addr} (hp : H p = none) (hq : H q = none) (hpq : p ≠ q) :
    Laid (upd (upd (upd H q (.lst ((E m).map V.str))) p (.lst [.str (T m), .ref q])) D (.lst (((List.range m).map fun i => V.ref (P i)) ++ [.ref p]))) D (m + 1) (fun j => if j = m then p else P j) (fun j => if j = m then q else Qa j) T E := by
  have dp : D ≠ p := fun z => by rw [← z, L.top] at hp; cases hp
  have dq : D ≠ q := fun z => by rw [← z, L.top] at hq; cases hq
  have np : ∀ i, i < m → P i ≠ p ∧ P i ≠ q := fun i hi => ⟨fun z => (by rw [← z, L.row i hi] at hp; cases hp), fun z => (by rw [← z, L.row i hi] at hq; cases hq)⟩
  have nq : ∀ i, i < m → Qa i ≠ p ∧ Qa i ≠ q := fun i hi => ⟨fun z => (by rw [← z, L.lst i hi] at hp; cases hp), fun z => (by rw [← z, L.lst i hi] at hq; cases hq)⟩
  have lt : ∀ {j}, j < m + 1 → j ≠ m → j < m := fun h c => by omega
  refine ⟨?_, fun j hj => ?_, fun j hj => ?_, fun j k hj hk e => ?_, fun j k hj hk e => ?_, fun j k hj hk => ?_, fun j hj => ?_, fun j hj => ?_⟩
  · rw [upd_same, List.range_succ, List.map_append]
    congr 2
    have : (List.range m).map (fun i => V.ref (if i = m then p else P i)) = (List.range m).map fun i => V.ref (P i) := List.map_congr_left fun i hi => by
      have := List.mem_range.mp hi
      rw [if_neg (by omega)]
    rw [this]
    show _ = _ ++ [V.ref (if m = m then p else P m)]
    rw [if_pos rfl]
  · by_cases c : j = m
    · subst c
      simp only [if_true]
      rw [upd_ne dp.symm, upd_same]
    · have h := lt hj c
      simp only [if_neg c]
      rw [upd_ne (L.dp j h).symm, upd_ne (np j h).1, upd_ne (np j h).2]
      exact L.row j h
  · by_cases c : j = m
    · subst c
      simp only [if_true]
      rw [upd_ne dq.symm, upd_ne hpq.symm, upd_same]
    · have h := lt hj c
      simp only [if_neg c]
      rw [upd_ne (L.dq j h).symm, upd_ne (nq j h).1, upd_ne (nq j h).2]
      exact L.lst j h
  · by_cases c : j = m
    · by_cases c2 : k = m
      · rw [c, c2]
      · simp only [if_pos c, if_neg c2] at e
        exact absurd e.symm (np k (lt hk c2)).1
    · by_cases c2 : k = m
      · simp only [if_neg c, if_pos c2] at e
        exact absurd e (np j (lt hj c)).1
      · simp only [if_neg c, if_neg c2] at e
        exact L.pp j k (lt hj c) (lt hk c2) e
  · by_cases c : j = m
    · by_cases c2 : k = m
      · rw [c, c2]
      · simp only [if_pos c, if_neg c2] at e
        exact absurd e.symm (nq k (lt hk c2)).2
    · by_cases c2 : k = m
      · simp only [if_neg c, if_pos c2] at e
        exact absurd e (nq j (lt hj c)).2
      · simp only [if_neg c, if_neg c2] at e
        exact L.qq j k (lt hj c) (lt hk c2) e
  · by_cases c : j = m
    · by_cases c2 : k = m
      · simp only [if_pos c, if_pos c2]
        exact hpq
      · simp only [if_pos c, if_neg c2]
        exact fun z => (nq k (lt hk c2)).1 z.symm
    · by_cases c2 : k = m
      · simp only [if_neg c, if_pos c2]
        exact (np j (lt hj c)).2
      · simp only [if_neg c, if_neg c2]
        exact L.pq j k (lt hj c) (lt hk c2)
  · by_cases c : j = m
    · simp only [if_pos c]
      exact dp
    · simp only [if_neg c]
      exact L.dp j (lt hj c)
  · by_cases c : j = m
    · simp only [if_pos c]
      exact dq
    · simp only [if_neg c]
      exact L.dq j (lt hj c)
end
end K20
set_option maxHeartbeats 4000000
namespace K20
open PySem PySem.Spec PyProof.Rows L2 CS
abbrev nBent : List Str := ["_law_box_here", "_law_pairs_so", "_law_bits", "_law_own", "_law_spot", "_law_far", "_law_style", "_law_tag", "_law_ends_so"]
theorem scBent : FnScope nBent ["_law_box_here", "_law_pairs_so"] (defScope sBent) := ⟨rfl, rfl, rfl, by decide +kernel, rfl, by decide +kernel, by decide +kernel⟩
def tgE (qs : RM.Xl) (i : Nat) : Str := ((qs[i]?).map Prod.fst).getD Str.empty
def enE (qs : RM.Xl) (i : Nat) : List Str := ((qs[i]?).map Prod.snd).getD []
def rowsB (m : Nat) (T : Nat → Str) (E : Nat → List Str) : RM.Xl := (List.range m).map fun j => (T j, E j)
def spBent (K : PySem.W.Frag) : Sp := fun vs H Q _ => ∃ (b : Addr) (n : Nat) (v : V) (qs : RM.Xl), vs = [.ref b, v] ∧ BoxAt H b n ∧ n ≤ 900000 ∧ Dp K H v (.tuple (qs.map (RM.prX false))) ∧ qs ≠ [] ∧ qs.length ≤ 30 ∧ (∀ y ∈ qs, 0 < y.2.length ∧ y.2.length ≤ 25) ∧
  ∀ (H' : Hp) (l : Addr) (A B : Nat → Addr) (m : Nat) (T : Nat → Str) (E : Nat → List Str) (n' : Nat), Keep b H H' → BoxAt H' b n' → n' ≤ n + 4 → RM.tagsR (rowsB m T E) = RM.tagsR qs → (∀ y ∈ rowsB m T E, y.2.length ≤ 26) → H' l = some (.tup ((List.range m).map fun j => V.ref (A j))) →
    (∀ j, j < m → H' (A j) = some (.tup [.str (T j), .ref (B j)]) ∧ H' (B j) = some (.tup ((E j).map V.str))) → Q (.ref l) H'
def rTupOf (K : PySem.W.Frag) : List V → Hp → VK → Prop := fun xs H Q => ∃ p ys, xs = [.ref p] ∧ ((SqL K H p ys ∧ ∀ l, H l = none → Q (.ref l) (upd H l (.tup ys))) ∨ (SqT K H p ys ∧ Q (.ref p) H))
def rLstOf (K : PySem.W.Frag) : List V → Hp → VK → Prop := fun xs H Q => ∃ p ys, xs = [.ref p] ∧ (SqL K H p ys ∨ SqT K H p ys) ∧ ∀ l, H l = none → Q (.ref l) (upd H l (.lst ys))
def tEndB (K : PySem.W.Frag) : TE := tLc (iList K (tVar 2)) (gLst K 2 (gCons (gName 7) (gCons (gName 8) gNil))) tYes (tTup (tCons (tVar 7) (tCons (tCB (rTupOf K) (tCons (tVar 8) tNil)) tNil))) [7, 8]
theorem end_ok {K : PySem.W.Frag} {Hx : Hp} {D : Addr} {m : Nat} {P Qa : Nat → Addr} {T : Nat → Str} {E : Nat → List Str} {t0 t1 t3 t4 t5 t6 : Option V} {Q : VK} (hm : m ≤ 30) (L : Laid Hx D m P Qa T E)
    (q : ∀ (Hy : Hp) (l : Addr) (A B : Nat → Addr), Same Hx Hy → Hy l = some (.tup ((List.range m).map fun j => V.ref (A j))) → (∀ j, j < m → Hy (A j) = some (.tup [.str (T j), .ref (B j)]) ∧ Hy (B j) = some (.tup ((E j).map V.str))) → Q (.ref l) Hy) :
    tCB (rTupOf K) (tCons (tEndB K) tNil) [t0, t1, some (.ref D), t3, t4, t5, t6, none, none] Hx Q := by
  have hml : ((List.range m).map fun j => V.ref (P j)).length = m := by rw [List.length_map, List.length_range]
  refine ⟨.ref D, rfl, D, rfl, ⟨_, SqL.of L.top⟩, fun Z nZ => ?_⟩
  refine ⟨fun i mm H1 => i ≤ m ∧ mm = m - i ∧ Same Hx H1 ∧ ∃ A B : Nat → Addr, H1 Z = some (.lst ((List.range i).map fun j => V.ref (A j))) ∧ ∀ j, j < i → H1 (A j) = some (.tup [.str (T j), .ref (B j)]) ∧ H1 (B j) = some (.tup ((E j).map V.str)), ⟨m, Nat.zero_le _, rfl, same_upd nZ, fun _ => 0, fun _ => 0, upd_same, fun _ h => absurd h (Nat.not_lt_zero _)⟩, fun i mm H1 hW => ?_⟩
  obtain ⟨hi, hmm, s1, A, B, hZ, hAB⟩ := hW
  have L1 := L.same s1
  by_cases hlt : i < m
  rotate_left
  · obtain rfl : i = m := by omega
    refine .inl ⟨⟨_, SqL.of L1.top, by rw [hml]; exact Nat.le_refl _⟩, ?_⟩
    refine ⟨Z, _, rfl, .inl ⟨SqL.of hZ, fun l nl => ?_⟩⟩
    refine q _ l A B (fun c o hc => ?_) upd_same (fun j hj => ?_)
    · have h1 := s1 c o hc
      rw [upd_ne (ne_of_none h1 nl)]
      exact h1
    · have h1 := hAB j hj
      exact ⟨by rw [upd_ne (ne_of_none h1.1 nl)]; exact h1.1, by rw [upd_ne (ne_of_none h1.2 nl)]; exact h1.2⟩
  · refine .inr ⟨⟨_, .ref (P i), SqL.of L1.top, by rw [List.getElem?_map, List.getElem?_range hlt]; rfl⟩, fun H2 => ∃ m', m' < mm ∧ (i + 1 ≤ m ∧ m' = m - (i + 1) ∧ Same Hx H2 ∧ ∃ A B : Nat → Addr, H2 Z = some (.lst ((List.range (i + 1)).map fun j => V.ref (A j))) ∧ ∀ j, j < i + 1 → H2 (A j) = some (.tup [.str (T j), .ref (B j)]) ∧ H2 (B j) = some (.tup ((E j).map V.str))), fun _ h => h, fun x H2 hyl => ?_⟩
    obtain ⟨rfl, hxx⟩ := hyl
    have := hxx _ (SqL.of L1.top)
    rw [List.getElem?_map, List.getElem?_range hlt] at this
    obtain rfl := (Option.some.inj this)
    refine ⟨P i, _, rfl, SqL.of (L1.row i hlt), rfl, _, _, rfl, _, _, rfl, rfl, ?_⟩
    refine ⟨rfl, ?_⟩
    unfold tYes
    refine ite2 (fun _ => ?_) (fun z => absurd rfl z)
    refine ⟨.str (T i), rfl, .ref (Qa i), rfl, Qa i, _, rfl, .inl ⟨SqL.of (L1.lst i hlt), fun l nl => ⟨(show (2 : Nat) ≤ sizeLine by decide), fun p np => ?_⟩⟩⟩
    have hpl : p ≠ l := fun z => by rw [z, upd_same] at np; cases np
    rw [upd_ne hpl] at np
    have zp : Z ≠ p := fun z => by rw [← z, hZ] at np; cases np
    have zl : Z ≠ l := fun z => by rw [← z, hZ] at nl; cases nl
    refine ⟨_, (by rw [upd_ne zp, upd_ne zl]; exact hZ), ?_, m - (i + 1), by omega, by omega, rfl, fun c o hc => ?_, fun j => if j = i then p else A j, fun j => if j = i then l else B j, ?_, fun j hj => ?_⟩
    · rw [List.length_map, List.length_range]
      exact Nat.lt_of_lt_of_le (show i < 1000 by omega) (by decide)
    · have h1 := s1 c o hc
      have hcz : c ≠ Z := ne_of_none hc nZ
      rw [upd_ne hcz, upd_ne (ne_of_none h1 np), upd_ne (ne_of_none h1 nl)]
      exact h1
    · rw [upd_same, List.range_succ, List.map_append]
      congr 2
      have : (List.range i).map (fun j => V.ref (if j = i then p else A j)) = (List.range i).map fun j => V.ref (A j) := List.map_congr_left fun j hj => by
        have := List.mem_range.mp hj
        rw [if_neg (by omega)]
      rw [this]
      show _ = _ ++ [V.ref (if i = i then p else A i)]
      rw [if_pos rfl]
    · by_cases cj : j = i
      · subst cj
        simp only [if_true]
        refine ⟨?_, ?_⟩
        · rw [upd_ne zp.symm, upd_same]
        · rw [upd_ne zl.symm, upd_ne hpl.symm, upd_same]
      · simp only [if_neg cj]
        have h1 := hAB j (by omega)
        have a1 : A j ≠ Z := fun z => by rw [z, hZ] at h1; cases h1.1
        have b1 : B j ≠ Z := fun z => by rw [z, hZ] at h1; cases h1.2
        refine ⟨?_, ?_⟩
        · rw [upd_ne a1, upd_ne (ne_of_none h1.1 np), upd_ne (ne_of_none h1.1 nl)]
          exact h1.1
        · rw [upd_ne b1, upd_ne (ne_of_none h1.2 np), upd_ne (ne_of_none h1.2 nl)]
          exact h1.2
theorem dpall_at {K : PySem.W.Frag} {H : Hp} : ∀ {xs : List V} {ds : List PyData}, DpAll K H xs ds → xs.length = ds.length ∧ ∀ (i : Nat) (d : PyData), ds[i]? = some d → ∃ v, xs[i]? = some v ∧ Dp K H v d
  | [], [], .nil => ⟨rfl, fun i d h => by cases h⟩
  | x :: xs, d :: ds, .cons h t => by
    obtain ⟨e1, e2⟩ := dpall_at t
    refine ⟨by rw [List.length_cons, List.length_cons, e1], fun i d' hd => ?_⟩
    cases i with
    | zero =>
      cases hd
      exact ⟨x, rfl, h⟩
    | succ i => exact e2 i d' hd
theorem dpall_strs {K : PySem.W.Frag} {H : Hp} : ∀ {xs : List V} {l : List Str}, DpAll K H xs (RM.strD l) → xs = l.map V.str
  | [], [], .nil => rfl
  | x :: xs, s :: l, .cons h t => by
    cases h
    rw [List.map_cons, dpall_strs (l := l) t]
theorem dp_pair {K : PySem.W.Frag} {H : Hp} {v : V} {y : Str × List Str} (h : Dp K H v (RM.prX false y)) : ∃ a e, v = .ref a ∧ SqT K H a [.str y.1, .ref e] ∧ SqT K H e (y.2.map V.str) := by
  cases h with
  | @tup a xs _ hT hA =>
    cases hA with
    | cons h1 t =>
      cases h1
      cases t with
      | cons h2 t =>
        cases t
        cases h2 with
        | @tup e us _ hT2 hA2 =>
          rw [dpall_strs hA2] at hT2
          exact ⟨a, e, rfl, hT, hT2⟩
section
variable {P : Program} {w : World} {K : PySem.W.Frag} {mg : Str → Option Value} {base : Heap}
theorem ok_bent {f gt go : Addr} {fd dt do_ : FuncData} {k : Nat} (F : Fun K "_law_bent" "_law_bent" sBent f fd)
    (Gt : FnOk P w K mg base CX0 k gt dt ["_law_box_here", "_law_below"] spTake) (bT : Binds K dt ["_law_box_here", "_law_below"] []) (kT : PySem.W.keepIn K (.ref gt) = true) (mT : mg "_law_take" = some (.ref gt))
    (Go : FnOk P w K mg base CX0 k go do_ ["_law_box_here", "_law_some"] (spOf K)) (bO : Binds K do_ ["_law_box_here", "_law_some"] []) (kO : PySem.W.keepIn K (.ref go) = true) (mO : mg "_law_of" = some (.ref go))
    (ml : mg "len" = none) (mL : mg "list" = none) (mU : mg "tuple" = none) : FnOk P w K mg base CX0 (k + 1) f fd ["_law_box_here", "_law_pairs_so"] (spBent K) := by
  refine F.ok scBent (fun vs H Q E h => ?_) (fun cdv A outer s H vs Q E hr h => ?_)
  · obtain ⟨b, n, v, qs, rfl, _⟩ := h
    rfl
  · obtain ⟨b, n, v, qs, rfl, hb, hn, hd, hne, hl, hq, q⟩ := h
    refine ⟨_, pss_cons (ps_setLc (i := 2) (g := gTup K 2 (gCons (gName 7) (gCons (gName 8) gNil))) (own := [("_law_tag", 7), ("_law_ends_so", 8)]) rfl scBent.nd rfl rfl (by rfl) (RM.pi_seqV (pv 1)) (blkOk_by (own := [("_law_tag", 7), ("_law_ends_so", 8)]) (N := nBent) (sc := defScope sBent) (by decide +kernel))
        (fun _ _ _ _ _ => pg_tup rfl (pgs_cons (pg_name (i := 7) scBent.nd rfl (Or.inl rfl) (.inr rfl)) (pgs_cons (pg_name (i := 8) scBent.nd rfl (Or.inl rfl) (.inr rfl)) pgs_nil))) (fun _ _ _ _ _ => pts_nil)
        (fun _ _ _ _ _ => pe_lst (pa_cons (pv 7) (pa_cons (pe_callTy (T := "list") (r := rLstOf K) call_list_of (by rfl) mL (by decide +kernel) (pa_cons (pv 8) pa_nil)) pa_nil))))
      (pss_cons (ps_set (i := 3) scBent.nd rfl (.inl rfl) (pe_call Go hr (by rfl) mO kO bO .nil pass0 (pa_cons (pv 0) (pa_cons (pv 2) pa_nil))))
      (pss_cons (ps_par3 (i := 4) (j := 5) (l := 6) rfl scBent.nd rfl rfl rfl (by decide) (by decide) (by decide) rfl rfl rfl (pa_cons (pe_call Gt hr (by rfl) mT kT bT .nil pass0 (pa_cons (pv 0) (pa_cons (pe_callB call_len_seq (by rfl) ml PySem.boot_len (pa_cons (pe_ix ix_list (pv 3) pe_int (fun _ _ => rfl)) pa_nil)) pa_nil)))
          (pa_cons (pe_call Gt hr (by rfl) mT kT bT .nil pass0 (pa_cons (pv 0) (pa_cons (pe_callB call_len_seq (by rfl) ml PySem.boot_len (pa_cons (pe_ix ix_list (pv 3) pe_int (fun _ _ => rfl)) pa_nil)) pa_nil)))
          (pa_cons (pe_call Gt hr (by rfl) mT kT bT .nil pass0 (pa_cons (pv 0) (pa_cons pe_int pa_nil))) pa_nil))) rfl rfl)
      (pss_cons (ps_if (pt_cmpR op_lt (pv 6) pe_int (nomark _))
          (pss_one (ps_asg (pe_tup (pa_cons (pe_ix ix_list (pe_ix ix_list (pv 3) pe_int (fun _ _ => rfl)) (pv 5) (fun _ _ => rfl)) (pa_cons (pe_ix ix_list (pe_ix ix_list (pv 3) pe_int (fun _ _ => rfl)) (pv 4) (fun _ _ => rfl)) pa_nil)))
            (pg_tup rfl (pgs_cons (pg_sub (pe_ix ix_list (pv 3) pe_int (fun _ _ => rfl)) (pv 4) set_list) (pgs_cons (pg_sub (pe_ix ix_list (pv 3) pe_int (fun _ _ => rfl)) (pv 5) set_list) pgs_nil)))))
          (pss_one (ps_if (pt_cmpR op_eq (pv 6) pe_int (nomark _))
            (pss_one (ps_asg (pe_slice sl_list (pe_ix ix_list (pv 3) pe_int (fun _ _ => rfl)) po_none (po_some (pv 4))) (pg_sub (pv 3) pe_int set_list)))
            (pss_one (ps_if (pt_cmpR op_eq (pv 6) pe_int (nomark _))
              (pss_one (ps_asg (pe_op op_cat (pe_ix ix_list (pv 3) pe_int (fun _ _ => rfl)) (pe_lst (pa_cons (pe_ix ix_list (pe_ix ix_list (pv 3) pe_int (fun _ _ => rfl)) (pv 4) (fun _ _ => rfl)) pa_nil))) (pg_sub (pv 3) pe_int set_list)))
              (pss_one (ps_asg (pe_op op_cat (pe_slice sl_list (pe_ix ix_list (pv 3) pe_int (fun _ _ => rfl)) (po_some pe_int) po_none) (pe_slice sl_list (pe_ix ix_list (pv 3) pe_int (fun _ _ => rfl)) po_none (po_some pe_int))) (pg_sub (pv 3) pe_int set_list))))))))
      (pss_one (ps_ret (pe_callTy (T := "tuple") (r := rTupOf K) call_tuple_of (by rfl) mU (by decide +kernel) (pa_cons (pe_lc (g := gLst K 2 (gCons (gName 7) (gCons (gName 8) gNil))) (own := [("_law_tag", 7), ("_law_ends_so", 8)]) (by rfl) scBent.nd (pi_list (pv 2)) (blkOk_by (own := [("_law_tag", 7), ("_law_ends_so", 8)]) (N := nBent) (sc := defScope sBent) (by decide +kernel))
        (fun _ _ _ _ _ => pg_lst rfl (pgs_cons (pg_name (i := 7) scBent.nd rfl (Or.inl rfl) (.inr rfl)) (pgs_cons (pg_name (i := 8) scBent.nd rfl (Or.inl rfl) (.inr rfl)) pgs_nil))) (fun _ _ _ _ _ => pts_nil)
        (fun _ _ _ _ _ => pe_tup (pa_cons (pv 7) (pa_cons (pe_callTy (T := "tuple") (r := rTupOf K) call_tuple_of (by rfl) mU (by decide +kernel) (pa_cons (pv 8) pa_nil)) pa_nil)))) pa_nil))))))), ?_⟩
    -- the rows are copied
    cases hd with
    | @tup pa xs _ hT hA =>
    have hx := dpall_at hA
    have hxl : xs.length = qs.length := by rw [hx.1, List.length_map]
    refine ⟨.ref pa, rfl, pa, rfl, .inr ⟨⟨xs, hT⟩, fun D nD => ?_⟩⟩
    have D2 : ∀ H1 : Hp, Same H H1 → SqT K H1 pa xs := fun H1 s1 => RM.sqt_same s1 hT
    refine ⟨fun i m H1 => i ≤ qs.length ∧ m = qs.length - i ∧ Same H H1 ∧ ∃ P Qa, (∀ j, j < i → H (P j) = none ∧ H (Qa j) = none) ∧ Laid H1 D i P Qa (tgE qs) (enE qs), ⟨qs.length, Nat.zero_le _, rfl, same_upd nD, fun _ => 0, fun _ => 0, fun _ h => absurd h (Nat.not_lt_zero _), ⟨upd_same, fun _ h => absurd h (Nat.not_lt_zero _), fun _ h => absurd h (Nat.not_lt_zero _), fun _ _ h => absurd h (Nat.not_lt_zero _), fun _ _ h => absurd h (Nat.not_lt_zero _), fun _ _ h => absurd h (Nat.not_lt_zero _), fun _ h => absurd h (Nat.not_lt_zero _), fun _ h => absurd h (Nat.not_lt_zero _)⟩⟩, fun i m H1 hW => ?_⟩
    obtain ⟨hi, hm, s1, P, Qa, fr, L⟩ := hW
    by_cases hlt : i < qs.length
    rotate_left
    · refine .inl ⟨⟨xs, D2 _ s1, by omega⟩, ?_⟩
      obtain rfl : i = qs.length := by omega
      have hb1 := hb.same s1
      have nDb : D ≠ b := fun z => by
        obtain ⟨A, B, C, e, _⟩ := hb
        rw [← z, nD] at e
        cases e
      have nP : ∀ j, j < qs.length → P j ≠ b := fun j hj z => by
        obtain ⟨A, B, C, e, _⟩ := hb1
        rw [← z, L.row j hj] at e
        cases e
      have nQ : ∀ j, j < qs.length → Qa j ≠ b := fun j hj z => by
        obtain ⟨A, B, C, e, _⟩ := hb1
        rw [← z, L.lst j hj] at e
        cases hh : enE qs j with
        | nil => rw [hh] at e; cases e
        | cons c l => rw [hh] at e; cases e
      have hpos : 0 < qs.length := List.length_pos_iff.mpr hne
      have hml : ((List.range qs.length).map fun j => V.ref (P j)).length = qs.length := by rw [List.length_map, List.length_range]
      refine ⟨.ref b, rfl, .ref D, rfl, b, D, n, _, rfl, hb1, by omega, nDb, SqL.of L.top, by rw [hml]; exact hpos, by rw [hml]; omega, fun H2 i x k2 b2 hxi => ?_⟩
      have hi : i < qs.length := by
        have := (List.getElem?_eq_some_iff.mp hxi).1
        rwa [hml] at this
      have hxp : x = .ref (P i) := by
        rw [List.getElem?_map, List.getElem?_range hi] at hxi
        exact (Option.some.inj hxi).symm
      subst hxp
      have L2 := L.keep k2 nDb nP nQ
      have q0 : 0 < (enE qs i).length ∧ (enE qs i).length ≤ 25 := by
        have h1 := hq qs[i] (List.getElem_mem hi)
        have h2 : enE qs i = qs[i].2 := by unfold enE; rw [List.getElem?_eq_getElem hi]; rfl
        rw [h2]
        exact h1
      have ev : ((enE qs i).map V.str).length = (enE qs i).length := List.length_map _
      refine ⟨.ref b, rfl, .ref (P i), rfl, P i, _, 1, .ref (Qa i), rfl, rfl, SqL.of (L2.row i hi), rfl, Qa i, _, rfl, .inl (SqL.of (L2.lst i hi)), ?_⟩
      refine ⟨b, n + 1, _, rfl, b2, by omega, by rw [ev]; omega, by rw [ev]; omega, fun H3 r1 k3 b3 l1 u1 => ?_⟩
      rw [ev] at u1
      have L3 := L2.keep k3 nDb nP nQ
      refine ⟨.ref b, rfl, .ref (P i), rfl, P i, _, 1, .ref (Qa i), rfl, rfl, SqL.of (L3.row i hi), rfl, Qa i, _, rfl, .inl (SqL.of (L3.lst i hi)), ?_⟩
      refine ⟨b, n + 2, _, rfl, b3, by omega, by rw [ev]; omega, by rw [ev]; omega, fun H4 r2 k4 b4 l2 u2 => ?_⟩
      rw [ev] at u2
      have L4 := L3.keep k4 nDb nP nQ
      refine ⟨.ref b, rfl, b, n + 3, _, rfl, b4, by omega, by decide, by decide, fun H5 r3 k5 b5 l3 u3 => ?_⟩
      have L5 := L4.keep k5 nDb nP nQ
      have kk : Keep b H H5 := (((Keep.of_same s1).trans k2).trans (k3.trans k4)).trans k5
      refine ⟨_, _, _, rfl, ?_⟩
      refine ⟨.int r3, rfl, _, _, rfl, rfl, _, rfl, ?_⟩
      have xi : ∀ {r : Int}, 0 ≤ r → r < ((enE qs i).length : Int) → ∃ x, (enE qs i)[r.toNat]? = some x ∧ atI ((enE qs i).map V.str) r = some (.str x) ∧ ixN ((enE qs i).map V.str).length r = some r.toNat := fun {r} h0 h1 => by
        have hlt : r.toNat < (enE qs i).length := by omega
        refine ⟨(enE qs i)[r.toNat], List.getElem?_eq_getElem hlt, ?_, ?_⟩
        · have := atI_nat (j := r.toNat) (v := V.str (enE qs i)[r.toNat]) (show ((enE qs i).map V.str)[r.toNat]? = _ by rw [List.getElem?_map, List.getElem?_eq_getElem hlt]; rfl)
          rwa [show ((r.toNat : Nat) : Int) = r by omega] at this
        · unfold ixN
          rw [if_pos h0, if_pos (by rw [ev]; omega)]
      have q5 : ∀ j, j < qs.length → (enE qs j).length ≤ 25 := fun j hj => by
        have h2 : enE qs j = qs[j].2 := by unfold enE; rw [List.getElem?_eq_getElem hj]; rfl
        rw [h2]
        exact (hq qs[j] (List.getElem_mem hj)).2
      -- what is left
      have fin : ∀ (Hx : Hp) (Qb : Nat → Addr) (E' : Nat → List Str), Laid Hx D qs.length P Qb (tgE qs) E' → (∀ c o, c ≠ P i → c ≠ Qa i → H5 c = some o → Hx c = some o) → (∀ j, j < qs.length → (E' j).length ≤ 26) →
          tCB (rTupOf K) (tCons (tEndB K) tNil) [some (.ref b), some (.ref pa), some (.ref D), some (.ref (P i)), some (.int r1), some (.int r2), some (.int r3), none, none] Hx Q := by
        intro Hx Qb E' Lx kx hE
        refine end_ok hl Lx fun Hy l A B sy dy dz => ?_
        refine q Hy l A B qs.length (tgE qs) E' (n + 4) (fun c o hcb hc => ?_) ?_ (Nat.le_refl _) ?_ (fun y hy => ?_) dy dz
        · exact sy _ _ (kx c o (fun z => by rw [z, (fr i hi).1] at hc; cases hc) (fun z => by rw [z, (fr i hi).2] at hc; cases hc) (kk c o hcb hc))
        · obtain ⟨A, B, C, e1, e2⟩ := b5
          exact ⟨A, B, C, sy _ _ (kx b _ (fun z => nP i hi z.symm) (fun z => nQ i hi z.symm) e1), e2⟩
        · unfold RM.tagsR rowsB
          rw [List.map_map]
          refine List.ext_getElem? fun j => ?_
          rw [List.getElem?_map, List.getElem?_map]
          by_cases hj : j < qs.length
          · rw [List.getElem?_range hj, List.getElem?_eq_getElem hj]
            show some (tgE qs j) = some qs[j].1
            unfold tgE
            rw [List.getElem?_eq_getElem hj]
            rfl
          · rw [List.getElem?_eq_none (by rw [List.length_range]; omega), List.getElem?_eq_none (by omega)]
            rfl
        · unfold rowsB at hy
          obtain ⟨j, hj, rfl⟩ := List.mem_map.mp hy
          exact hE j (List.mem_range.mp hj)
      have row5 := L5.row i hi
      have lst5 := L5.lst i hi
      have own1 : ∀ {Hz : Hp} {R : VK}, Hz (P i) = some (.lst [.str (tgE qs i), .ref (Qa i)]) → R (.ref (Qa i)) Hz → tOp (rIxL K) (tVar 3) (tC (.int 1)) [some (.ref b), some (.ref pa), some (.ref D), some (.ref (P i)), some (.int r1), some (.int r2), some (.int r3), none, none] Hz R := fun e r => ⟨.ref (P i), rfl, P i, _, 1, .ref (Qa i), rfl, rfl, SqL.of e, rfl, r⟩
      -- a new list in its place
      have newL : ∀ (Hz : Hp) (l : Addr) (es : List Str), Same H5 Hz → H5 l = none → Hz l = some (.lst (es.map V.str)) → es.length ≤ 26 → gSub (tVar 3) (tC (.int 1)) rSetL (.ref l) [some (.ref b), some (.ref pa), some (.ref D), some (.ref (P i)), some (.int r1), some (.int r2), some (.int r3), none, none] Hz (fun σ' H' => tCB (rTupOf K) (tCons (tEndB K) tNil) σ' H' Q) := by
        intro Hz l es sz nl hl2 hes
        have Lz := L5.same sz
        refine ⟨.ref (P i), rfl, P i, _, 1, 1, rfl, rfl, Lz.row i hi, rfl, ?_⟩
        have L7 := Lz.setP hi hl2 (fun z => by rw [z, L5.top] at nl; cases nl) (fun j hj z => by rw [z, L5.row j hj] at nl; cases nl) (fun j hj z => by rw [z, L5.lst j hj] at nl; cases nl)
        refine fin _ _ _ L7 (fun c o c1 c2 hc => ?_) fun j hj => ?_
        · rw [upd_ne c1]
          exact sz c o hc
        · by_cases cj : j = i
          · simp only [if_pos cj]
            exact hes
          · simp only [if_neg cj]
            exact Nat.le_trans (q5 j hj) (by decide)
      have cutm : ∀ lo hi : Option Int, ∃ es : List Str, cutV ((enE qs i).map V.str) lo hi = es.map V.str ∧ es.length ≤ 25 := fun lo hi2 => by
        unfold cutV
        refine ⟨_, by rw [← List.map_drop, ← List.map_take], ?_⟩
        rw [List.length_take, List.length_drop]
        omega
      refine ite2 (fun _ => ?_) (fun _ => ?_)
      · -- two members exchanged
        obtain ⟨x1, e1, a1, i1⟩ := xi l1 u1
        obtain ⟨x2, e2, a2, i2⟩ := xi l2 u2
        refine own1 row5 ⟨.int r2, rfl, Qa i, _, r2, _, rfl, rfl, SqL.of lst5, a2, ?_⟩
        refine own1 row5 ⟨.int r1, rfl, Qa i, _, r1, _, rfl, rfl, SqL.of lst5, a1, ?_⟩
        refine ⟨(show (2 : Nat) ≤ sizeLine by decide), fun t nt => ?_⟩
        have L6 := L5.same (same_upd (o := HO.tup [V.str x2, V.str x1]) nt)
        refine ⟨t, _, rfl, SqT.of upd_same, rfl, _, _, rfl, ?_⟩
        refine own1 (L6.row i hi) ⟨.int r1, rfl, Qa i, _, r1, r1.toNat, rfl, rfl, L6.lst i hi, i1, _, _, rfl, ?_⟩
        have m1 : ((enE qs i).map V.str).set r1.toNat (.str x2) = ((enE qs i).set r1.toNat x2).map V.str := (List.map_set ..).symm
        rw [m1]
        have L7 := L6.setQ hi ((enE qs i).set r1.toNat x2)
        have w7 := L7.lst i hi
        simp only [if_true] at w7
        refine own1 (L7.row i hi) ⟨.int r2, rfl, Qa i, _, r2, r2.toNat, rfl, rfl, w7, by rw [List.length_map, List.length_set, ← List.length_map (f := V.str)]; exact i2, rfl, ?_⟩
        have m2 : (((enE qs i).set r1.toNat x2).map V.str).set r2.toNat (.str x1) = (((enE qs i).set r1.toNat x2).set r2.toNat x1).map V.str := (List.map_set ..).symm
        rw [m2]
        have L8 := L7.setQ hi (((enE qs i).set r1.toNat x2).set r2.toNat x1)
        refine fin _ _ _ L8 (fun c o c1 c2 hc => ?_) fun j hj => ?_
        · rw [upd_ne c2, upd_ne c2, upd_ne (ne_of_none hc nt)]
          exact hc
        · by_cases cj : j = i
          · simp only [if_pos cj, List.length_set]
            exact Nat.le_trans q0.2 (by decide)
          · simp only [if_neg cj]
            exact Nat.le_trans (q5 j hj) (by decide)
      refine ⟨.int r3, rfl, rfl, _, rfl, ?_⟩
      refine ite2 (fun _ => ?_) (fun _ => ?_)
      · -- cut short
        obtain ⟨es, c1, c2⟩ := cutm none (some r1)
        refine own1 row5 ⟨.int r1, rfl, _, rfl, Qa i, _, rfl, SqL.of lst5, fun l nl => ?_⟩
        rw [c1]
        exact newL _ l es (same_upd nl) nl upd_same (by omega)
      refine ⟨.int r3, rfl, rfl, _, rfl, ?_⟩
      have szb : 100 ≤ sizeLine := by decide
      refine ite2 (fun _ => ?_) (fun _ => ?_)
      · -- grown
        obtain ⟨x1, e1, a1, i1⟩ := xi l1 u1
        refine own1 row5 (own1 row5 ⟨.int r1, rfl, Qa i, _, r1, _, rfl, rfl, SqL.of lst5, a1, (show (1 : Nat) ≤ sizeLine by decide), fun l nl => ?_⟩)
        refine ⟨Qa i, l, _, _, rfl, rfl, by rw [upd_ne (ne_of_none lst5 nl)]; exact lst5, upd_same, by rw [ev]; show _ + 1 ≤ _; omega, fun p np => ?_⟩
        have pl : p ≠ l := fun z => by rw [z, upd_same] at np; cases np
        have n5 : H5 p = none := by rwa [upd_ne pl] at np
        have em : (enE qs i).map V.str ++ [V.str x1] = (enE qs i ++ [x1]).map V.str := by rw [List.map_append]; rfl
        rw [em]
        exact newL _ p _ ((same_upd nl).trans (same_upd np)) n5 upd_same (by rw [List.length_append, List.length_singleton]; omega)
      · -- turned
        obtain ⟨es1, c1, d1⟩ := cutm (some 1) none
        obtain ⟨es2, c2, d2⟩ := cutm none (some 1)
        have d3 : es2.length ≤ 1 := by
          have := congrArg List.length c2
          rw [List.length_map] at this
          rw [← this]
          unfold cutV
          rw [List.length_take]
          have h1 : HT.sIx ((enE qs i).map V.str).length ((enE qs i).map V.str).length (some 1) = min 1 ((enE qs i).map V.str).length := HT.sIx_nat _ _ 1
          rw [h1]
          omega
        refine own1 row5 ⟨1, rfl, Qa i, _, rfl, SqL.of lst5, fun l nl => ?_⟩
        rw [c1]
        refine own1 (by rw [upd_ne (ne_of_none row5 nl)]; exact row5) ⟨1, rfl, Qa i, _, rfl, SqL.of (by rw [upd_ne (ne_of_none lst5 nl)]; exact lst5), fun l2 nl2 => ?_⟩
        rw [c2]
        have ll : l ≠ l2 := fun z => by rw [← z, upd_same] at nl2; cases nl2
        refine ⟨l, l2, _, _, rfl, rfl, by rw [upd_ne ll, upd_same], upd_same, by rw [List.length_map, List.length_map]; omega, fun p np => ?_⟩
        have p2 : p ≠ l2 := fun z => by rw [z, upd_same] at np; cases np
        have n4 : upd H5 l (.lst (es1.map V.str)) p = none := by rwa [upd_ne p2] at np
        have p1 : p ≠ l := fun z => by rw [z, upd_same] at n4; cases n4
        have n5 : H5 p = none := by rwa [upd_ne p1] at n4
        have em : es1.map V.str ++ es2.map V.str = (es1 ++ es2).map V.str := by rw [List.map_append]
        rw [em]
        exact newL _ p _ (((same_upd nl).trans (same_upd nl2)).trans (same_upd np)) n5 upd_same (by rw [List.length_append]; omega)
    · obtain ⟨y, hy⟩ : ∃ y, qs[i]? = some y := ⟨_, List.getElem?_eq_getElem hlt⟩
      obtain ⟨v, hv, hdv⟩ := hx.2 i (RM.prX false y) (by rw [List.getElem?_map, hy]; rfl)
      obtain ⟨a, e, rfl, ha, he⟩ := dp_pair hdv
      refine .inr ⟨⟨xs, _, D2 _ s1, hv⟩, fun H2 => ∃ m', m' < m ∧ (i + 1 ≤ qs.length ∧ m' = qs.length - (i + 1) ∧ Same H H2 ∧ ∃ P Qa, (∀ j, j < i + 1 → H (P j) = none ∧ H (Qa j) = none) ∧ Laid H2 D (i + 1) P Qa (tgE qs) (enE qs)), fun _ h => h, fun x H2 hyl => ?_⟩
      obtain ⟨rfl, hxx⟩ := hyl
      have := hxx xs (D2 _ s1)
      rw [hv] at this
      obtain rfl := Option.some.inj this
      refine ⟨a, _, rfl, RM.sqt_same s1 ha, rfl, _, _, rfl, _, _, rfl, rfl, ?_⟩
      refine ⟨rfl, ?_⟩
      unfold tYes
      refine ite2 (fun _ => ?_) (fun z => absurd rfl z)
      refine ⟨.str y.1, rfl, .ref e, rfl, e, _, rfl, .inr (RM.sqt_same s1 he), fun l nl => ⟨(show (2 : Nat) ≤ sizeLine by decide), fun p np => ?_⟩⟩
      have hpl : p ≠ l := fun z => by rw [z, upd_same] at np; cases np
      rw [upd_ne hpl] at np
      have t1 : tgE qs i = y.1 := by unfold tgE; rw [hy]; rfl
      have t2 : enE qs i = y.2 := by unfold enE; rw [hy]; rfl
      have L2 := L.more np nl hpl
      rw [t1, t2] at L2
      have dD : D ≠ p := fun z => by rw [← z, L.top] at np; cases np
      have dl : D ≠ l := fun z => by rw [← z, L.top] at nl; cases nl
      refine ⟨_, (by rw [upd_ne dD, upd_ne dl]; exact L.top), ?_, qs.length - (i + 1), by omega, by omega, rfl, fun c o hc => ?_, _, _, fun j hj => ?_, L2⟩
      · rw [List.length_map, List.length_range]
        exact Nat.lt_of_lt_of_le (show i < 1000 by omega) (by decide)
      · have h1 := s1 c o hc
        rw [upd_ne (ne_of_none hc nD), upd_ne (ne_of_none h1 np), upd_ne (ne_of_none h1 nl)]
        exact h1
      · have back : ∀ c, H2 c = none → H c = none := fun c hc => by
          cases hh : H c with
          | none => rfl
          | some o => rw [s1 c o hh] at hc; cases hc
        by_cases cj : j = i
        · simp only [if_pos cj]
          exact ⟨back _ np, back _ nl⟩
        · simp only [if_neg cj]
          exact fr j (by omega)
end
end K20
set_option maxHeartbeats 4000000
namespace K20
open PySem PySem.Spec PyProof.Rows L2 CS RM
theorem bent_imp {g : Glob} {vs : List V} {H : Hp} {Q : VK} {E : XK} (h : spD g sdBent20 vs H Q E) : spBent g.K vs H Q E := by
  obtain ⟨C, ds, n, k, ke, hK, e0, E0, i, ⟨qs, rfl, hne, hl, hq, hn, s⟩, q, _⟩ := h
  obtain ⟨v, u, rfl, iv, iu⟩ := i.two
  obtain ⟨b, rfl, hb⟩ := iv.box'
  have pl : plain (.tuple (qs.map (prX false))) = true := by
    show plains (qs.map (prX false)) = true
    have ps : ∀ l : List Str, plains (strD l) = true := fun l => by
      induction l with
      | nil => rfl
      | cons x l ih => exact ih
    clear iu i q s hq hl hne
    induction qs with
    | nil => rfl
    | cons y qs ih =>
      show (plain (prX false y) && plains (qs.map (prX false))) = true
      rw [ih]
      show ((true && (plains (strD y.2) && true)) && true) = true
      rw [ps]
      rfl
  refine ⟨b, n, u, qs, rfl, (E0.box b hb).2, by omega, hK.1 ▸ (iu.same hid_le).dp pl, hne, hl, hq, fun H' l A B m T E' n' kp bx hn' ht hle hL hAB => ?_⟩
  have vis : ∀ a xs, H' a = some (.tup xs) → SqT C.T.K (hid C now H') a xs := fun a xs ha => .inl (.inl (hid_of ha (fun z => by
    obtain ⟨o, ho⟩ := E0.zs a z
    have ho2 := ho
    rw [e0] at ho
    by_cases c : a = b
    · obtain ⟨x, y, w, e, _⟩ := bx
      rw [c, e] at ha
      cases ha
    · have := kp a o c ho
      rw [ha] at this
      cases this
      exact E0.zt a xs z ho2) fun i => by intro z; cases z))
  have strs' : ∀ l : List Str, IsL C.T (hid C now H') (l.map V.str) (strD l) := fun l => isL_strs l
  refine q _ _ (.ref l) H' (s (rowsB m T E') n' ht hle hn') ⟨fun a o h nb => kp a o (fun z => nb (z ▸ hb)) (e0 ▸ h), fun b' hb' => ?_⟩ (.tup (vis _ _ hL) ?_)
  · rw [hb] at hb'
    cases hb'
    exact bx
  · unfold rowsB
    have : ∀ L : List Nat, (∀ j ∈ L, j < m) → IsL C.T (hid C now H') (L.map fun j => V.ref (A j)) ((L.map fun j => (T j, E' j)).map (prX false)) := fun L => by
      induction L with
      | nil => intro _; exact .nil
      | cons j L ih =>
        intro hj
        have h1 := hAB j (hj j (List.mem_cons_self ..))
        exact .cons (.tup (vis _ _ h1.1) (.cons (.str _) (.cons (.tup (vis _ _ h1.2) (strs' _)) .nil))) (ih fun k hk => hj k (List.mem_cons_of_mem _ hk))
    exact this _ fun j hj => List.mem_range.mp hj
end K20
set_option maxHeartbeats 8000000
namespace K20
open PySem PySem.Spec PyProof.Rows L2 CS RM
def mem (i j : Nat) : Stmt := (clsBody (top i)).getD j (.Pass ⟨0, 0, 0, 0⟩)
section
variable {P : Program} {w : World} {K : PySem.W.Frag} {mg : Str → Option Value} {base : Heap} {g : Glob} {m : Nat}
abbrev n_law_of : List Str := ["_law_box_here", "_law_some"]
theorem sc_law_of : FnScope n_law_of ["_law_box_here", "_law_some"] (defScope (top 11)) := ⟨rfl, rfl, rfl, by decide +kernel, rfl, by decide +kernel, by decide +kernel⟩
theorem ok_law_of {f : Addr} {fd : FuncData} {k : Nat} (F : Fun K "_law_of" "_law_of" (top 11) f fd) (B : Bl mg) (hK : g.K = K) (h_law_take : HasF P w K mg base CX0 g k "_law_take" ["_law_box_here", "_law_below"] sdTake) : FnOk P w K mg base CX0 (k + 1) f fd ["_law_box_here", "_law_some"] (spD g sdOf) :=
  fnD (cs := cs_of) F sc_law_of (fun ds _ _ _ h => by obtain ⟨_, _, rfl, _⟩ := h; rfl) (fun cdv A outer s H E hr => pdss_one (pds_ret (pd_ix ix_at ⟨hK⟩ (pd_var 1) (pd_fun h_law_take hr (Nat.le_refl _) rfl (fun _ => pa0) (pda_cons (pd_var 0) (pda_cons (pd_callB cd_len ⟨hK⟩ rfl B.len (by decide +kernel) (pda_cons (pd_var 1) (pda_nil))) (pda_nil)))) (fun _ _ => rfl)))) (fun ds n k ke h => himp_of ds n k ke h rfl)
abbrev n_law_pick : List Str := ["_law_box_here", "_law_pool_so", "_law_many_so", "_law_turn", "_law_rest", "_law_found"]
theorem sc_law_pick : FnScope n_law_pick ["_law_box_here", "_law_pool_so", "_law_many_so"] (defScope (top 12)) := ⟨rfl, rfl, rfl, by decide +kernel, rfl, by decide +kernel, by decide +kernel⟩
theorem ok_law_pick {f : Addr} {fd : FuncData} {k : Nat} (F : Fun K "_law_pick" "_law_pick" (top 12) f fd) (B : Bl mg) (hK : g.K = K) (h_law_take : HasF P w K mg base CX0 g k "_law_take" ["_law_box_here", "_law_below"] sdTake) : FnOk P w K mg base CX0 (k + 1) f fd ["_law_box_here", "_law_pool_so", "_law_many_so"] (spD g sdPick) :=
  fnD (cs := cs_pick) F sc_law_pick (fun ds _ _ _ h => by obtain ⟨_, _, _, rfl, _⟩ := h; rfl) (fun cdv A outer s H E hr => pdss_cons (pds_par0 (i := 4) (j := 5) rfl sc_law_pick.nd rfl rfl (by decide) rfl rfl (pf_callTy (cf_list' rfl) ⟨hK⟩ rfl B.list (by decide +kernel) (pda_cons (pd_var 1) (pda_nil)))) (pdss_cons (pds_for PassesOwn.never rfl (pdi_range1 rfl B.range (pda_cons (pd_callB (cd_min rfl) ⟨hK⟩ rfl B.min (by decide +kernel) (pda_cons (pd_var 2) (pda_cons (pd_callBQ cd_len ⟨hK⟩ rfl B.len (by decide +kernel) (pdq_nm 4)) (pda_nil)))) (pda_nil))) (pdg_name (i := 3) sc_law_pick.nd rfl (by first | exact Or.inl rfl | exact Or.inr rfl)) (pdss_one (pds_expr (pd_append 5 (pd_mut 4 PySem.F.slot_list_pop PySem.F.type_list_pop mt_popAt mu_popAt (pda_cons (pd_fun h_law_take hr (Nat.le_refl _) rfl (fun _ => pa0) (pda_cons (pd_var 0) (pda_cons (pd_callBQ cd_len ⟨hK⟩ rfl B.len (by decide +kernel) (pdq_nm 4)) (pda_nil)))) (pda_nil))))))) (pdss_one (pds_ret (pd_var 5))))) (fun ds n k ke h => himp_pick ds n k ke h rfl)
abbrev n_law_tags : List Str := ["_law_box_here", "_law_many_so", "_law_kind_so"]
theorem sc_law_tags : FnScope n_law_tags ["_law_box_here", "_law_many_so"] (defScope (top 15)) := ⟨rfl, rfl, rfl, by decide +kernel, rfl, by decide +kernel, by decide +kernel⟩
theorem ok_law_tags {f : Addr} {fd : FuncData} {k : Nat} (F : Fun K "_law_tags" "_law_tags" (top 15) f fd) (B : Bl mg) (hK : g.K = K) (h_law_take : HasF P w K mg base CX0 g k "_law_take" ["_law_box_here", "_law_below"] sdTake) (h_law_pick : HasF P w K mg base CX0 g k "_law_pick" ["_law_box_here", "_law_pool_so", "_law_many_so"] sdPick) : FnOk P w K mg base CX0 (k + 1) f fd ["_law_box_here", "_law_many_so"] (spD g sdTags) :=
  fnD (cs := cs_tags) F sc_law_tags (fun ds _ _ _ h => by obtain ⟨_, rfl, _⟩ := h; rfl) (fun cdv A outer s H E hr => pdss_cons (pds_set (i := 2) sc_law_tags.nd rfl (by first | exact Or.inl rfl | exact Or.inr rfl) (pd_fun h_law_take hr (Nat.le_refl _) rfl (fun _ => pa0) (pda_cons (pd_var 0) (pda_cons (pd_int) (pda_nil))))) (pdss_cons (pds_if (pdt_cmp (od_eq (hu64 hr)) ⟨hK⟩ (pd_var 2) (pd_int) (by first | exact nomark _ | rfl)) (pdss_one (pds_ret (pd_fun h_law_pick hr (Nat.le_refl _) rfl (fun _ => pa0) (pda_cons (pd_var 0) (pda_cons (pd_str) (pda_cons (pd_var 1) (pda_nil))))))) (pdss_nil)) (pdss_cons (pds_if (pdt_cmp (od_eq (hu64 hr)) ⟨hK⟩ (pd_var 2) (pd_int) (by first | exact nomark _ | rfl)) (pdss_one (pds_ret (pd_fun h_law_pick hr (Nat.le_refl _) rfl (fun _ => pa0) (pda_cons (pd_var 0) (pda_cons (PDF.pd (pf_lst (pda_cons (pd_str) (pda_cons (pd_str) (pda_cons (pd_str) (pda_cons (pd_str) (pda_cons (pd_str) (pda_cons (pd_str) (pda_cons (pd_str) (pda_cons (pd_str) (pda_nil))))))))))) (pda_cons (pd_var 1) (pda_nil))))))) (pdss_nil)) (pdss_one (pds_ret (pd_fun h_law_pick hr (Nat.le_refl _) rfl (fun _ => pa0) (pda_cons (pd_var 0) (pda_cons (PDF.pd (pf_lst (pda_cons (pd_str) (pda_cons (pd_str) (pda_cons (pd_str) (pda_cons (pd_str) (pda_cons (pd_str) (pda_cons (pd_str) (pda_cons (pd_str) (pda_cons (pd_str) (pda_nil))))))))))) (pda_cons (pd_var 1) (pda_nil)))))))))) (fun ds n k ke h => himp_tags ds n k ke h rfl)
abbrev n_law_walk : List Str := ["_law_box_here", "_law_tags_here", "_law_most_so", "_law_row_so", "_law_turn", "_law_near", "_law_back_so", "_law_tag"]
theorem sc_law_walk : FnScope n_law_walk ["_law_box_here", "_law_tags_here", "_law_most_so"] (defScope (top 16)) := ⟨rfl, rfl, rfl, by decide +kernel, rfl, by decide +kernel, by decide +kernel⟩
theorem ok_law_walk {f : Addr} {fd : FuncData} {k : Nat} (F : Fun K "_law_walk" "_law_walk" (top 16) f fd) (B : Bl mg) (hK : g.K = K) (h_law_of : HasF P w K mg base CX0 g k "_law_of" ["_law_box_here", "_law_some"] sdOf) (h_law_take : HasF P w K mg base CX0 g k "_law_take" ["_law_box_here", "_law_below"] sdTake) : FnOk P w K mg base CX0 (k + 1) f fd ["_law_box_here", "_law_tags_here", "_law_most_so"] (spD g sdWalkB) :=
  fnD (cs := cs_walk) F sc_law_walk (fun ds _ _ _ h => by obtain ⟨_, _, rfl, _⟩ := h; rfl) (fun cdv A outer s H E hr => pdss_cons (pds_own (i := 3) sc_law_walk.nd rfl (by first | exact Or.inl rfl | exact Or.inr rfl) (pf_lst (pda_cons (pd_fun h_law_of hr (Nat.le_refl _) rfl (fun _ => pa0) (pda_cons (pd_var 0) (pda_cons (pd_var 1) (pda_nil)))) (pda_nil)))) (pdss_cons (pds_for PassesOwn.never rfl (pdi_range1 rfl B.range (pda_cons (pd_fun h_law_take hr (Nat.le_refl _) rfl (fun _ => pa0) (pda_cons (pd_var 0) (pda_cons (pd_op od_add ⟨hK⟩ (pd_var 2) (pd_int)) (pda_nil)))) (pda_nil))) (pdg_name (i := 4) sc_law_walk.nd rfl (by first | exact Or.inl rfl | exact Or.inr rfl)) (pdss_cons (pds_ownLc (i := 5) (own := [("_law_tag", 7)]) rfl sc_law_walk.nd rfl rfl (pdi_seq ⟨hK⟩ (pd_var 1)) (blkOk_by (own := [("_law_tag", 7)]) (N := n_law_walk) (sc := defScope (top 16)) (by decide +kernel)) (fun _ _ _ _ _ => pdg_name (i := 7) sc_law_walk.nd rfl (by first | exact Or.inl rfl | exact Or.inr rfl)) (fun _ _ _ _ _ => pdts_one (pdt_cmp (od_ne (hu64 hr)) ⟨hK⟩ (pd_var 7) (pd_ixQ ⟨hK⟩ (pdq_nm 3) (pd_neg (pd_int)) (fun _ _ => rfl)) (by first | exact nomark _ | rfl))) (fun _ _ _ _ _ => pd_var 7)) (pdss_cons (pds_set (i := 6) sc_law_walk.nd rfl (by first | exact Or.inl rfl | exact Or.inr rfl) (pd_and (pd_cmp od_gt ⟨hK⟩ (pd_callBQ cd_len ⟨hK⟩ rfl B.len (by decide +kernel) (pdq_nm 3)) (pd_int) (by first | exact nomark _ | rfl)) (pd_one (pd_cmp (od_eq (hu64 hr)) ⟨hK⟩ (pd_fun h_law_take hr (Nat.le_refl _) rfl (fun _ => pa0) (pda_cons (pd_var 0) (pda_cons (pd_int) (pda_nil)))) (pd_int) (by first | exact nomark _ | rfl))))) (pdss_one (pds_expr (pd_append 3 (pd_if (pdt_val (pd_var 6)) (pd_ixQ ⟨hK⟩ (pdq_nm 3) (pd_neg (pd_int)) (fun _ _ => rfl)) (pd_fun h_law_of hr (Nat.le_refl _) rfl (fun _ => pa0) (pda_cons (pd_var 0) (pda_cons (pd_var 5) (pda_nil))))))))))) (pdss_cons (pds_if (PDW.pdt (pdw_and (pdt_cmp (od_ne (hu64 hr)) ⟨hK⟩ (pd_ixQ ⟨hK⟩ (pdq_nm 3) (pd_neg (pd_int)) (fun _ _ => rfl)) (pd_ixQ ⟨hK⟩ (pdq_nm 3) (pd_int) (fun _ _ => rfl)) (by first | exact nomark _ | rfl)) (pdw_and (pdt_cmp od_le ⟨hK⟩ (pd_callBQ cd_len ⟨hK⟩ rfl B.len (by decide +kernel) (pdq_nm 3)) (pd_var 2) (by first | exact nomark _ | rfl)) (pdw_and1 (pdt_cmp (od_eq (hu64 hr)) ⟨hK⟩ (pd_fun h_law_take hr (Nat.le_refl _) rfl (fun _ => pa0) (pda_cons (pd_var 0) (pda_cons (pd_int) (pda_nil)))) (pd_int) (by first | exact nomark _ | rfl)))))) (pdss_one (pds_expr (pd_append 3 (pd_ixQ ⟨hK⟩ (pdq_nm 3) (pd_int) (fun _ _ => rfl))))) (pdss_nil)) (pdss_one (pds_ret (pd_callTy cd_tuple ⟨hK⟩ rfl B.tuple (by decide +kernel) (pda_cons (pd_var 3) (pda_nil)))))))) (fun ds n k ke h => himp_walkB ds n k ke h rfl)
abbrev n_steps_of : List Str := ["journey"]
theorem sc_steps_of : FnScope n_steps_of ["journey"] (defScope (top 1)) := ⟨rfl, rfl, rfl, by decide +kernel, rfl, by decide +kernel, by decide +kernel⟩
theorem ok_steps_of {f : Addr} {fd : FuncData} {k : Nat} (F : Fun K "steps_of" "steps_of" (top 1) f fd) (B : Bl mg) (hK : g.K = K)  : FnOk P w K mg base CX0 (k + 1) f fd ["journey"] (spD g sdStepsOf) :=
  fnD (cs := cs_steps_of) F sc_steps_of (fun ds _ _ _ h => by obtain ⟨_, _, rfl, _⟩ := h; rfl) (fun cdv A outer s H E hr => pdss_one (pds_ret (pd_tupZip ⟨hK⟩ (by rfl) B.tuple (by rfl) B.zip (pda_cons (pd_var 0) (pda_cons (pd_slice ⟨hK⟩ (pd_var 0) (pdo_some (pd_int)) (pdo_none)) (pda_nil)))))) (fun ds n k ke h => himp_steps_of ds n k ke h rfl)
abbrev n_exits : List Str := ["journey", "place", "one", "other"]
theorem sc_exits : FnScope n_exits ["journey", "place"] (defScope (top 2)) := ⟨rfl, rfl, rfl, by decide +kernel, rfl, by decide +kernel, by decide +kernel⟩
theorem ok_exits {f : Addr} {fd : FuncData} {k : Nat} (F : Fun K "exits" "exits" (top 2) f fd) (B : Bl mg) (hK : g.K = K) (h_steps_of : HasF P w K mg base CX0 g k "steps_of" ["journey"] sdStepsOf) : FnOk P w K mg base CX0 (k + 1) f fd ["journey", "place"] (spD g sdExits) :=
  fnD (cs := cs_exits) F sc_exits (fun ds _ _ _ h => by obtain ⟨_, _, _, rfl, _⟩ := h; rfl) (fun cdv A outer s H E hr => pdss_one (pds_ret (pd_callTy cd_tuple ⟨hK⟩ rfl B.tuple (by decide +kernel) (pda_cons (PDF.pd (pf_lc (own := [("one", 2), ("other", 3)]) rfl sc_exits.nd (pdi_seq ⟨hK⟩ (pd_fun h_steps_of hr (Nat.le_refl _) rfl (fun _ => pa0) (pda_cons (pd_var 0) (pda_nil)))) (blkOk_by (own := [("one", 2), ("other", 3)]) (N := n_exits) (sc := defScope (top 2)) (by decide +kernel)) (fun _ _ _ _ _ => pdg_tup rfl ⟨hK⟩ (pdgs_cons (pdg_name (i := 2) sc_exits.nd rfl (by first | exact Or.inl rfl | exact Or.inr rfl)) (pdgs_cons (pdg_name (i := 3) sc_exits.nd rfl (by first | exact Or.inl rfl | exact Or.inr rfl)) (pdgs_nil))) (stCons_len (stCons_len stNil_len))) (fun _ _ _ _ _ => pdts_one (pdt_cmp (od_eq (hu64 hr)) ⟨hK⟩ (pd_var 2) (pd_var 1) (by first | exact nomark _ | rfl))) (fun _ _ _ _ _ => pd_var 3))) (pda_nil))))) (fun ds n k ke h => himp_exits ds n k ke h rfl)
abbrev n_exit_lists : List Str := ["journey", "place"]
theorem sc_exit_lists : FnScope n_exit_lists ["journey"] (defScope (top 5)) := ⟨rfl, rfl, rfl, by decide +kernel, rfl, by decide +kernel, by decide +kernel⟩
theorem ok_exit_lists {f : Addr} {fd : FuncData} {k : Nat} (F : Fun K "exit_lists" "exit_lists" (top 5) f fd) (B : Bl mg) (hK : g.K = K) (h_exits : HasF P w K mg base CX0 g k "exits" ["journey", "place"] sdExits) : FnOk P w K mg base CX0 (k + 1) f fd ["journey"] (spD g sdExitLists) :=
  fnD (cs := cs_exit_lists) F sc_exit_lists (fun ds _ _ _ h => by obtain ⟨_, _, rfl, _⟩ := h; rfl) (fun cdv A outer s H E hr => pdss_one (pds_ret (pd_callTy cd_tuple ⟨hK⟩ rfl B.tuple (by decide +kernel) (pda_cons (PDF.pd (pf_lc (own := [("place", 1)]) rfl sc_exit_lists.nd (pdi_seq ⟨hK⟩ (PDF.pd (pf_sortSetU rfl (hu64 hr) ⟨hK⟩ rfl B.sorted rfl B.set (pd_slice ⟨hK⟩ (pd_var 0) (pdo_none) (pdo_some (pd_neg (pd_int))))))) (blkOk_by (own := [("place", 1)]) (N := n_exit_lists) (sc := defScope (top 5)) (by decide +kernel)) (fun _ _ _ _ _ => pdg_name (i := 1) sc_exit_lists.nd rfl (by first | exact Or.inl rfl | exact Or.inr rfl)) (fun _ _ _ _ _ => pdts_nil) (fun _ _ _ _ _ => pd_tup (pda_cons (pd_var 1) (pda_cons (pd_fun h_exits hr (Nat.le_refl _) rfl (fun _ => pa0) (pda_cons (pd_var 0) (pda_cons (pd_var 1) (pda_nil)))) (pda_nil)))))) (pda_nil))))) (fun ds n k ke h => himp_exit_lists ds n k ke h rfl)
abbrev n_last_steps : List Str := ["journey", "place", "row"]
theorem sc_last_steps : FnScope n_last_steps ["journey"] (defScope (top 4)) := ⟨rfl, rfl, rfl, by decide +kernel, rfl, by decide +kernel, by decide +kernel⟩
theorem ok_last_steps {f : Addr} {fd : FuncData} {k : Nat} (F : Fun K "last_steps" "last_steps" (top 4) f fd) (B : Bl mg) (hK : g.K = K) (h_exit_lists : HasF P w K mg base CX0 g k "exit_lists" ["journey"] sdExitLists) : FnOk P w K mg base CX0 (k + 1) f fd ["journey"] (spD g sdLastSteps) :=
  fnD (cs := cs_last_steps) F sc_last_steps (fun ds _ _ _ h => by obtain ⟨_, _, _, _, rfl, _⟩ := h; rfl) (fun cdv A outer s H E hr => pdss_one (pds_ret (pd_callTy cd_tuple ⟨hK⟩ rfl B.tuple (by decide +kernel) (pda_cons (PDF.pd (pf_lc (own := [("place", 1), ("row", 2)]) rfl sc_last_steps.nd (pdi_seq ⟨hK⟩ (pd_fun h_exit_lists hr (Nat.le_refl _) rfl (fun _ => pa0) (pda_cons (pd_var 0) (pda_nil)))) (blkOk_by (own := [("place", 1), ("row", 2)]) (N := n_last_steps) (sc := defScope (top 4)) (by decide +kernel)) (fun _ _ _ _ _ => pdg_tup rfl ⟨hK⟩ (pdgs_cons (pdg_name (i := 1) sc_last_steps.nd rfl (by first | exact Or.inl rfl | exact Or.inr rfl)) (pdgs_cons (pdg_name (i := 2) sc_last_steps.nd rfl (by first | exact Or.inl rfl | exact Or.inr rfl)) (pdgs_nil))) (stCons_len (stCons_len stNil_len))) (fun _ _ _ _ _ => pdts_one (pdt_cmp (od_ne (hu64 hr)) ⟨hK⟩ (pd_var 1) (pd_ix ix_at ⟨hK⟩ (pd_var 0) (pd_neg (pd_int)) (fun _ _ => rfl)) (by first | exact nomark _ | rfl))) (fun _ _ _ _ _ => pd_tup (pda_cons (pd_var 1) (pda_cons (pd_ix ix_at ⟨hK⟩ (pd_var 2) (pd_neg (pd_int)) (fun _ _ => rfl)) (pda_nil)))))) (pda_nil))))) (fun ds n k ke h => himp_last_steps ds n k ke h rfl)
abbrev n_by_lists : List Str := ["start", "lists", "rows", "used", "path", "here", "place", "row", "_"]
theorem sc_by_lists : FnScope n_by_lists ["start", "lists"] (defScope (top 6)) := ⟨rfl, rfl, rfl, by decide +kernel, rfl, by decide +kernel, by decide +kernel⟩
theorem ok_by_lists {f : Addr} {fd : FuncData} {k : Nat} (F : Fun K "by_lists" "by_lists" (top 6) f fd) (B : Bl mg) (hK : g.K = K)  : FnOk P w K mg base CX0 (k + 1) f fd ["start", "lists"] (spD g sdByLists) :=
  fnD (cs := cs_by_lists) F sc_by_lists (fun ds _ _ _ h => by obtain ⟨_, _, _, _, rfl, _⟩ := h; rfl) (fun cdv A outer s H E hr => pdss_cons (pds_ownDc false (own := [("place", 6), ("row", 7)]) (i := 2) (hu1 hr) rfl sc_by_lists.nd rfl rfl (pdi_seq ⟨hK⟩ (pd_var 1)) (blkOk_by (own := [("place", 6), ("row", 7)]) (N := n_by_lists) (sc := defScope (top 6)) (by decide +kernel)) (fun _ _ _ _ _ => pdg_tup rfl ⟨hK⟩ (pdgs_cons (pdg_name (i := 6) sc_by_lists.nd rfl (by first | exact Or.inl rfl | exact Or.inr rfl)) (pdgs_cons (pdg_name (i := 7) sc_by_lists.nd rfl (by first | exact Or.inl rfl | exact Or.inr rfl)) (pdgs_nil))) (stCons_len (stCons_len stNil_len))) (fun _ _ _ _ _ => pdts_nil) (fun _ _ _ _ _ => pk_val (pd_var 6)) (fun _ _ _ _ _ => pd_var 7)) (pdss_cons (pds_own (i := 3) sc_by_lists.nd rfl (by first | exact Or.inl rfl | exact Or.inr rfl) pf_dnewK) (pdss_cons (pds_own (i := 4) sc_by_lists.nd rfl (by first | exact Or.inl rfl | exact Or.inr rfl) (pf_lst (pda_cons (pd_var 0) (pda_nil)))) (pdss_cons (pds_while PassesOwn.never (pdt_cmp od_lt ⟨hK⟩ (pd_dget2 (hu1 hr) (pdq_nm 3) (pk_val (pd_ixQ ⟨hK⟩ (pdq_nm 4) (pd_neg (pd_int)) (fun _ _ => rfl))) (pd_int) ⟨rfl, rfl, rfl, rfl⟩) (pd_callB cd_len ⟨hK⟩ rfl B.len (by decide +kernel) (pda_cons (pd_dget2 (hu1 hr) (pdq_nm 2) (pk_val (pd_ixQ ⟨hK⟩ (pdq_nm 4) (pd_neg (pd_int)) (fun _ _ => rfl))) (pd_tup (pda_nil)) ⟨rfl, rfl, rfl, rfl⟩) (pda_nil))) (by first | exact nomark _ | rfl)) (pdss_cons (pds_set (i := 5) sc_by_lists.nd rfl (by first | exact Or.inl rfl | exact Or.inr rfl) (pd_ixQ ⟨hK⟩ (pdq_nm 4) (pd_neg (pd_int)) (fun _ _ => rfl))) (pdss_cons (pds_expr (pd_append 4 (pd_ix ix_at ⟨hK⟩ (pd_dget (hu1 hr) (pdq_nm 2) (pk_val (pd_var 5)) (fun _ _ => rfl)) (pd_dget2 (hu1 hr) (pdq_nm 3) (pk_val (pd_var 5)) (pd_int) ⟨rfl, rfl, rfl, rfl⟩) (fun _ _ => rfl)))) (pdss_one (pds_dput 3 (hu1 hr) (pk_val (pd_var 5)) (pd_op od_add ⟨hK⟩ (pd_dget2 (hu1 hr) (pdq_nm 3) (pk_val (pd_var 5)) (pd_int) ⟨rfl, rfl, rfl, rfl⟩) (pd_int))))))) (pdss_one (pds_ret (pd_if (pdt_cmp (od_eq (hu64 hr)) ⟨hK⟩ (pd_callBQ cd_len ⟨hK⟩ rfl B.len (by decide +kernel) (pdq_nm 4)) (pd_op od_add ⟨hK⟩ (pd_int) (pd_callB (cd_sum rfl) ⟨hK⟩ rfl B.sum (by decide +kernel) (pda_cons (PDF.pd (pf_lc (own := [("_", 8), ("row", 7)]) rfl sc_by_lists.nd (pdi_seq ⟨hK⟩ (pd_var 1)) (blkOk_by (own := [("_", 8), ("row", 7)]) (N := n_by_lists) (sc := defScope (top 6)) (by decide +kernel)) (fun _ _ _ _ _ => pdg_tup rfl ⟨hK⟩ (pdgs_cons (pdg_name (i := 8) sc_by_lists.nd rfl (by first | exact Or.inl rfl | exact Or.inr rfl)) (pdgs_cons (pdg_name (i := 7) sc_by_lists.nd rfl (by first | exact Or.inl rfl | exact Or.inr rfl)) (pdgs_nil))) (stCons_len (stCons_len stNil_len))) (fun _ _ _ _ _ => pdts_nil) (fun _ _ _ _ _ => pd_callB cd_len ⟨hK⟩ rfl B.len (by decide +kernel) (pda_cons (pd_var 7) (pda_nil))))) (pda_nil)))) (by first | exact nomark _ | rfl)) (pd_callTy cd_tuple ⟨hK⟩ rfl B.tuple (by decide +kernel) (pda_cons (pd_var 4) (pda_nil))) (pd_non)))))))) (fun ds n k ke h => himp_by_lists ds n k ke h rfl)
abbrev n_law_lists : List Str := ["_law_matter", "_law_bit"]
theorem sc_law_lists : FnScope n_law_lists ["_law_matter"] (defScope (top 13)) := ⟨rfl, rfl, rfl, by decide +kernel, rfl, by decide +kernel, by decide +kernel⟩
theorem ok_law_lists {f : Addr} {fd : FuncData} {k : Nat} (F : Fun K "_law_lists" "_law_lists" (top 13) f fd) (B : Bl mg) (hK : g.K = K) (h_law_lists : HasF P w K mg base CX0 g k "_law_lists" ["_law_matter"] (sdLists m)) : FnOk P w K mg base CX0 (k + 1) f fd ["_law_matter"] (spD g (sdLists (m + 1))) :=
  fnD (cs := (cs_lists m)) F sc_law_lists (fun ds _ _ _ h => by obtain ⟨_, rfl, _⟩ := h; rfl) (fun cdv A outer s H E hr => pdss_one (pds_ret (pd_if (pdt_val (pd_isK ⟨hK⟩ (by decide +kernel) (pdq_nm 0) rfl B.list (by decide +kernel) rfl B.tuple (by decide +kernel) rfl B.isinstance)) (PDF.pd (pf_lc (own := [("_law_bit", 1)]) rfl sc_law_lists.nd (pdi_seq ⟨hK⟩ (pd_var 0)) (blkOk_by (own := [("_law_bit", 1)]) (N := n_law_lists) (sc := defScope (top 13)) (by decide +kernel)) (fun _ _ _ _ _ => pdg_name (i := 1) sc_law_lists.nd rfl (by first | exact Or.inl rfl | exact Or.inr rfl)) (fun _ _ _ _ _ => pdts_nil) (fun _ _ _ _ _ => pd_fun h_law_lists hr (Nat.le_refl _) rfl (fun _ => pa0) (pda_cons (pd_var 1) (pda_nil))))) (pd_var 0)))) (fun ds n k ke h => himp_lists m ds n k ke h rfl)
abbrev n_law_exits : List Str := ["_law_trail", "_law_found", "_law_tag", "_law_k"]
theorem sc_law_exits : FnScope n_law_exits ["_law_trail"] (defScope (top 17)) := ⟨rfl, rfl, rfl, by decide +kernel, rfl, by decide +kernel, by decide +kernel⟩
theorem ok_law_exits {f : Addr} {fd : FuncData} {k : Nat} (F : Fun K "_law_exits" "_law_exits" (top 17) f fd) (B : Bl mg) (hK : g.K = K)  : FnOk P w K mg base CX0 (k + 1) f fd ["_law_trail"] (spD g sdExitsL) :=
  fnD (cs := cs_exitsL) F sc_law_exits (fun ds _ _ _ h => by obtain ⟨_, rfl, _⟩ := h; rfl) (fun cdv A outer s H E hr => pdss_cons (pds_own (i := 1) sc_law_exits.nd rfl (by first | exact Or.inl rfl | exact Or.inr rfl) (pf_lst (pda_nil))) (pdss_cons (pds_for PassesOwn.never rfl (pdi_seq ⟨hK⟩ (PDF.pd (pf_sortSetU rfl (hu64 hr) ⟨hK⟩ rfl B.sorted rfl B.set (pd_slice ⟨hK⟩ (pd_var 0) (pdo_none) (pdo_some (pd_neg (pd_int))))))) (pdg_name (i := 2) sc_law_exits.nd rfl (by first | exact Or.inl rfl | exact Or.inr rfl)) (pdss_one (pds_expr (pd_append 1 (pd_tup (pda_cons (pd_var 2) (pda_cons (pd_callTy cd_tuple ⟨hK⟩ rfl B.tuple (by decide +kernel) (pda_cons (PDF.pd (pf_lc (own := [("_law_k", 3)]) rfl sc_law_exits.nd (pdi_range1 rfl B.range (pda_cons (pd_op od_sub ⟨hK⟩ (pd_callB cd_len ⟨hK⟩ rfl B.len (by decide +kernel) (pda_cons (pd_var 0) (pda_nil))) (pd_int)) (pda_nil))) (blkOk_by (own := [("_law_k", 3)]) (N := n_law_exits) (sc := defScope (top 17)) (by decide +kernel)) (fun _ _ _ _ _ => pdg_name (i := 3) sc_law_exits.nd rfl (by first | exact Or.inl rfl | exact Or.inr rfl)) (fun _ _ _ _ _ => pdts_one (pdt_cmp (od_eq (hu64 hr)) ⟨hK⟩ (pd_ix ix_at ⟨hK⟩ (pd_var 0) (pd_var 3) (fun _ _ => rfl)) (pd_var 2) (by first | exact nomark _ | rfl))) (fun _ _ _ _ _ => pd_ix ix_at ⟨hK⟩ (pd_var 0) (pd_op od_add ⟨hK⟩ (pd_var 3) (pd_int)) (fun _ _ => rfl)))) (pda_nil))) (pda_nil)))))))) (pdss_one (pds_ret (pd_callTy cd_tuple ⟨hK⟩ rfl B.tuple (by decide +kernel) (pda_cons (pd_var 1) (pda_nil))))))) (fun ds n k ke h => himp_exitsL ds n k ke h rfl)
abbrev n_law_follow : List Str := ["_law_start_so", "_law_pairs_so", "_law_where", "_law_fine", "_law_trail", "_law_used", "_law_here", "_law_tag", "_law_ends_so"]
theorem sc_law_follow : FnScope n_law_follow ["_law_start_so", "_law_pairs_so"] (defScope (top 18)) := ⟨rfl, rfl, rfl, by decide +kernel, rfl, by decide +kernel, by decide +kernel⟩
theorem ok_law_follow {f : Addr} {fd : FuncData} {k : Nat} (F : Fun K "_law_follow" "_law_follow" (top 18) f fd) (B : Bl mg) (hK : g.K = K)  : FnOk P w K mg base CX0 (k + 1) f fd ["_law_start_so", "_law_pairs_so"] (spD g sdFollow) :=
  fnD (cs := cs_follow) F sc_law_follow (fun ds _ _ _ h => by obtain ⟨_, _, rfl, _⟩ := h; rfl) (fun cdv A outer s H E hr => pdss_cons (pds_parLDc (i := 4) (j := 5) rfl sc_law_follow.nd rfl rfl (by first | exact Or.inl rfl | exact Or.inr rfl) (by first | exact Or.inl rfl | exact Or.inr rfl) (pd_var 0) (pf_dictS rfl ⟨hK⟩ rfl B.dict (PDF.pd (pf_lc (own := [("_law_tag", 7), ("_law_ends_so", 8)]) rfl sc_law_follow.nd (pdi_seq ⟨hK⟩ (pd_var 1)) (blkOk_by (own := [("_law_tag", 7), ("_law_ends_so", 8)]) (N := n_law_follow) (sc := defScope (top 18)) (by decide +kernel)) (fun _ _ _ _ _ => pdg_tup rfl ⟨hK⟩ (pdgs_cons (pdg_name (i := 7) sc_law_follow.nd rfl (by first | exact Or.inl rfl | exact Or.inr rfl)) (pdgs_cons (pdg_name (i := 8) sc_law_follow.nd rfl (by first | exact Or.inl rfl | exact Or.inr rfl)) (pdgs_nil))) (stCons_len (stCons_len stNil_len))) (fun _ _ _ _ _ => pdts_nil) (fun _ _ _ _ _ => pd_tup (pda_cons (pd_var 7) (pda_cons (pd_int) (pda_nil)))))))) (pdss_cons (pds_set (i := 2) sc_law_follow.nd rfl (by first | exact Or.inl rfl | exact Or.inr rfl) (pd_callTy (cd_dictS rfl) ⟨hK⟩ rfl B.dict (by decide +kernel) (pda_cons (PDF.pd (pf_lc (own := [("_law_tag", 7), ("_law_ends_so", 8)]) rfl sc_law_follow.nd (pdi_seq ⟨hK⟩ (pd_var 1)) (blkOk_by (own := [("_law_tag", 7), ("_law_ends_so", 8)]) (N := n_law_follow) (sc := defScope (top 18)) (by decide +kernel)) (fun _ _ _ _ _ => pdg_tup rfl ⟨hK⟩ (pdgs_cons (pdg_name (i := 7) sc_law_follow.nd rfl (by first | exact Or.inl rfl | exact Or.inr rfl)) (pdgs_cons (pdg_name (i := 8) sc_law_follow.nd rfl (by first | exact Or.inl rfl | exact Or.inr rfl)) (pdgs_nil))) (stCons_len (stCons_len stNil_len))) (fun _ _ _ _ _ => pdts_nil) (fun _ _ _ _ _ => pd_tup (pda_cons (pd_var 7) (pda_cons (PDF.pd (pf_callTy (cf_list' rfl) ⟨hK⟩ rfl B.list (by decide +kernel) (pda_cons (pd_var 8) (pda_nil)))) (pda_nil)))))) (pda_nil)))) (pdss_cons (pds_while PassesOwn.never (PDW.pdt (pdw_and (pdt_din (hu1 hr) (pk_val (pd_ixQ ⟨hK⟩ (pdq_nm 4) (pd_neg (pd_int)) (fun _ _ => rfl))) (pdq_nm 5) (by first | exact nomark _ | rfl)) (pdw_and1 (pdt_cmp od_lt ⟨hK⟩ (pd_dget (hu1 hr) (pdq_nm 5) (pk_val (pd_ixQ ⟨hK⟩ (pdq_nm 4) (pd_neg (pd_int)) (fun _ _ => rfl))) (fun _ _ => rfl)) (pd_callB cd_len ⟨hK⟩ rfl B.len (by decide +kernel) (pda_cons (pd_dget (hu1 hr) (pdq_nm 2) (pk_val (pd_ixQ ⟨hK⟩ (pdq_nm 4) (pd_neg (pd_int)) (fun _ _ => rfl))) (fun _ _ => rfl)) (pda_nil))) (by first | exact nomark _ | rfl))))) (pdss_cons (pds_set (i := 6) sc_law_follow.nd rfl (by first | exact Or.inl rfl | exact Or.inr rfl) (pd_ixQ ⟨hK⟩ (pdq_nm 4) (pd_neg (pd_int)) (fun _ _ => rfl))) (pdss_cons (pds_expr (pd_append 4 (pd_ix ix_at ⟨hK⟩ (pd_dget (hu1 hr) (pdq_nm 2) (pk_val (pd_var 6)) (fun _ _ => rfl)) (pd_dget (hu1 hr) (pdq_nm 5) (pk_val (pd_var 6)) (fun _ _ => rfl)) (fun _ _ => rfl)))) (pdss_one (pds_dput 5 (hu1 hr) (pk_val (pd_var 6)) (pd_op od_add ⟨hK⟩ (pd_dget (hu1 hr) (pdq_nm 5) (pk_val (pd_var 6)) (fun _ _ => rfl)) (pd_int))))))) (pdss_cons (pds_set (i := 3) sc_law_follow.nd rfl (by first | exact Or.inl rfl | exact Or.inr rfl) (pd_callB (cd_all rfl) ⟨hK⟩ rfl B.all (by decide +kernel) (pda_cons (PDF.pd (pf_lcK 5 (own := [("_law_tag", 7)]) rfl sc_law_follow.nd (blkOk_by (own := [("_law_tag", 7)]) (N := n_law_follow) (sc := defScope (top 18)) (by decide +kernel)) (fun _ _ _ _ _ => pdg_name (i := 7) sc_law_follow.nd rfl (by first | exact Or.inl rfl | exact Or.inr rfl)) (fun _ _ _ _ _ => pdts_nil) (fun _ _ _ _ _ => pd_cmp (od_eq (hu64 hr)) ⟨hK⟩ (pd_dget (hu1 hr) (pdq_nm 5) (pk_val (pd_var 7)) (fun _ _ => rfl)) (pd_callB cd_len ⟨hK⟩ rfl B.len (by decide +kernel) (pda_cons (pd_dget (hu1 hr) (pdq_nm 2) (pk_val (pd_var 7)) (fun _ _ => rfl)) (pda_nil))) (by first | exact nomark _ | rfl)))) (pda_nil)))) (pdss_one (pds_ret (pd_if (pdt_val (pd_var 3)) (pd_callTy cd_tuple ⟨hK⟩ rfl B.tuple (by decide +kernel) (pda_cons (pd_var 4) (pda_nil))) (pd_non)))))))) (fun ds n k ke h => himp_follow ds n k ke h rfl)
abbrev n_law_by_hand_right : List Str := ["_law_told", "_law_due"]
theorem sc_law_by_hand_right : FnScope n_law_by_hand_right [] (defScope (top 20)) := ⟨rfl, rfl, rfl, by decide +kernel, rfl, by decide +kernel, by decide +kernel⟩
theorem ok_law_by_hand_right {f : Addr} {fd : FuncData} {k : Nat} (F : Fun K "_law_by_hand_right" "_law_by_hand_right" (top 20) f fd) (B : Bl mg) (hK : g.K = K) (h_last_steps : HasF P w K mg base CX0 g k "last_steps" ["journey"] sdLastSteps) (hFK_last_steps : HasFK P w K mg base CX0 g k "last_steps" ["journey"] ["journey"] sdLastSteps) (h_law_same : HasF P w K mg base CX0 g k "_law_same" ["_law_got", "_law_due"] sdSame6) (hFK_exit_lists : HasFK P w K mg base CX0 g k "exit_lists" ["journey"] ["journey"] sdExitLists) (h_exit_lists : HasF P w K mg base CX0 g k "exit_lists" ["journey"] sdExitLists) (h_by_lists : HasF P w K mg base CX0 g k "by_lists" ["start", "lists"] sdByLists) (hFP_by_lists_1_0 : HasFP P w K mg base CX0 g k "by_lists" ["start", "lists"] ["lists", "start"] [1, 0] sdByLists) : FnOk P w K mg base CX0 (k + 1) f fd [] (spD g sdByHand39) :=
  fnD (cs := cs_by_hand20) F sc_law_by_hand_right (fun ds _ _ _ h => by obtain ⟨rfl, _⟩ := h; rfl) (fun cdv A outer s H E hr => pdss_cons (pds_own (i := 0) sc_law_by_hand_right.nd rfl (by first | exact Or.inl rfl | exact Or.inr rfl) (pf_lst (pda_cons (pd_fun h_last_steps hr (Nat.le_refl _) rfl (fun _ => pa0) (pda_cons (pd_callTy (cd_tupleS rfl) ⟨hK⟩ rfl B.tuple (by decide +kernel) (pda_cons (pd_str) (pda_nil))) (pda_nil))) (pda_cons (pd_funK (ks := ["journey"]) hFK_last_steps hr (Nat.le_refl _) (by rfl) (fun _ => pa0) (pdk_cons (PDF.pd (pf_callTy (cf_list' rfl) ⟨hK⟩ rfl B.list (by decide +kernel) (pda_cons (pd_str) (pda_nil)))) pdk_nil)) (pda_cons (pd_fun h_last_steps hr (Nat.le_refl _) rfl (fun _ => pa0) (pda_cons (pd_tup (pda_cons (pd_str) (pda_nil))) (pda_nil))) (pda_nil)))))) (pdss_cons (pds_if (pdt_not (pdt_val (pd_fun h_law_same hr (Nat.le_refl _) rfl (fun _ => pa0) (pda_cons (pd_var 0) (pda_cons (PDF.pd (pf_lst (pda_cons (pd_tup (pda_cons (pd_tup (pda_cons (pd_str) (pda_cons (pd_str) (pda_nil)))) (pda_cons (pd_tup (pda_cons (pd_str) (pda_cons (pd_str) (pda_nil)))) (pda_nil)))) (pda_cons (pd_tup (pda_cons (pd_tup (pda_cons (pd_str) (pda_cons (pd_str) (pda_nil)))) (pda_cons (pd_tup (pda_cons (pd_str) (pda_cons (pd_str) (pda_nil)))) (pda_nil)))) (pda_cons (pd_tup (pda_nil)) (pda_nil)))))) (pda_nil)))))) (pdss_one (pds_ret (pd_bl))) (pdss_nil)) (pdss_cons (pds_own (i := 0) sc_law_by_hand_right.nd rfl (by first | exact Or.inl rfl | exact Or.inr rfl) (pf_lst (pda_cons (pd_funK (ks := ["journey"]) hFK_exit_lists hr (Nat.le_refl _) (by rfl) (fun _ => pa0) (pdk_cons (PDF.pd (pf_lst (pda_cons (pd_str) (pda_cons (pd_str) (pda_cons (pd_str) (pda_cons (pd_str) (pda_nil))))))) pdk_nil)) (pda_cons (pd_fun h_exit_lists hr (Nat.le_refl _) rfl (fun _ => pa0) (pda_cons (pd_tup (pda_cons (pd_str) (pda_nil))) (pda_nil))) (pda_cons (pd_fun h_by_lists hr (Nat.le_refl _) rfl (fun _ => pa0) (pda_cons (pd_str) (pda_cons (pd_tup (pda_nil)) (pda_nil)))) (pda_nil)))))) (pdss_cons (pds_expr (pd_append 0 (pd_fun h_by_lists hr (Nat.le_refl _) rfl (fun _ => pa0) (pda_cons (pd_str) (pda_cons (pd_tup (pda_cons (pd_tup (pda_cons (pd_str) (pda_cons (pd_tup (pda_nil)) (pda_nil)))) (pda_nil))) (pda_nil)))))) (pdss_cons (pds_expr (pd_append 0 (pd_funP (ks := ["lists", "start"]) (is := [1, 0]) hFP_by_lists_1_0 hr (Nat.le_refl _) (by rfl) (fun _ => pa0) (pdk_cons (PDF.pd (pf_lst (pda_cons (PDF.pd (pf_lst (pda_cons (pd_str) (pda_cons (PDF.pd (pf_lst (pda_cons (pd_str) (pda_nil)))) (pda_nil))))) (pda_cons (PDF.pd (pf_lst (pda_cons (pd_str) (pda_cons (PDF.pd (pf_lst (pda_cons (pd_str) (pda_cons (pd_str) (pda_nil))))) (pda_nil))))) (pda_nil))))) (pdk_cons (pd_str) (pdk_nil)))))) (pdss_cons (pds_expr (pd_append 0 (pd_fun h_by_lists hr (Nat.le_refl _) rfl (fun _ => pa0) (pda_cons (pd_str) (pda_cons (pd_tup (pda_cons (pd_tup (pda_cons (pd_str) (pda_cons (pd_tup (pda_cons (pd_str) (pda_nil))) (pda_nil)))) (pda_nil))) (pda_nil)))))) (pdss_cons (pds_set (i := 0) sc_law_by_hand_right.nd rfl (by first | exact Or.inl rfl | exact Or.inr rfl) (pd_op od_add ⟨hK⟩ (pd_var 0) (PDF.pd (pf_lst (pda_cons (pd_fun h_by_lists hr (Nat.le_refl _) rfl (fun _ => pa0) (pda_cons (pd_str) (pda_cons (pd_tup (pda_cons (pd_tup (pda_cons (pd_str) (pda_cons (pd_tup (pda_cons (pd_str) (pda_cons (pd_str) (pda_nil)))) (pda_nil)))) (pda_cons (pd_tup (pda_cons (pd_str) (pda_cons (pd_tup (pda_cons (pd_str) (pda_nil))) (pda_nil)))) (pda_nil)))) (pda_nil)))) (pda_cons (pd_fun h_by_lists hr (Nat.le_refl _) rfl (fun _ => pa0) (pda_cons (pd_str) (pda_cons (pd_tup (pda_cons (pd_tup (pda_cons (pd_str) (pda_cons (pd_tup (pda_cons (pd_str) (pda_nil))) (pda_nil)))) (pda_cons (pd_tup (pda_cons (pd_str) (pda_cons (pd_tup (pda_nil)) (pda_nil)))) (pda_nil)))) (pda_nil)))) (pda_nil))))))) (pdss_cons (pds_set (i := 0) sc_law_by_hand_right.nd rfl (by first | exact Or.inl rfl | exact Or.inr rfl) (pd_op od_add ⟨hK⟩ (pd_var 0) (PDF.pd (pf_lst (pda_cons (pd_fun h_by_lists hr (Nat.le_refl _) rfl (fun _ => pa0) (pda_cons (pd_str) (pda_cons (pd_tup (pda_cons (pd_tup (pda_cons (pd_str) (pda_cons (pd_tup (pda_cons (pd_str) (pda_cons (pd_str) (pda_nil)))) (pda_nil)))) (pda_cons (pd_tup (pda_cons (pd_str) (pda_cons (pd_tup (pda_cons (pd_str) (pda_cons (pd_str) (pda_nil)))) (pda_nil)))) (pda_nil)))) (pda_nil)))) (pda_cons (pd_fun h_by_lists hr (Nat.le_refl _) rfl (fun _ => pa0) (pda_cons (pd_str) (pda_cons (pd_tup (pda_cons (pd_tup (pda_cons (pd_str) (pda_cons (pd_tup (pda_nil)) (pda_nil)))) (pda_nil))) (pda_nil)))) (pda_nil))))))) (pdss_cons (pds_set (i := 1) sc_law_by_hand_right.nd rfl (by first | exact Or.inl rfl | exact Or.inr rfl) (PDF.pd (pf_lst (pda_cons (pd_tup (pda_cons (pd_tup (pda_cons (pd_str) (pda_cons (pd_tup (pda_cons (pd_str) (pda_cons (pd_str) (pda_nil)))) (pda_nil)))) (pda_cons (pd_tup (pda_cons (pd_str) (pda_cons (pd_tup (pda_cons (pd_str) (pda_nil))) (pda_nil)))) (pda_nil)))) (pda_cons (pd_tup (pda_nil)) (pda_cons (pd_tup (pda_cons (pd_str) (pda_nil))) (pda_cons (pd_tup (pda_cons (pd_str) (pda_nil))) (pda_cons (pd_tup (pda_cons (pd_str) (pda_cons (pd_str) (pda_cons (pd_str) (pda_cons (pd_str) (pda_nil)))))) (pda_cons (pd_non) (pda_cons (pd_non) (pda_cons (pd_tup (pda_cons (pd_str) (pda_cons (pd_str) (pda_nil)))) (pda_nil)))))))))))) (pdss_one (pds_ret (pd_fun h_law_same hr (Nat.le_refl _) rfl (fun _ => pa0) (pda_cons (pd_var 0) (pda_cons (pd_op od_add ⟨hK⟩ (pd_var 1) (PDF.pd (pf_lst (pda_cons (pd_tup (pda_cons (pd_str) (pda_cons (pd_str) (pda_cons (pd_str) (pda_cons (pd_str) (pda_cons (pd_str) (pda_nil))))))) (pda_cons (pd_tup (pda_cons (pd_str) (pda_nil))) (pda_nil)))))) (pda_nil))))))))))))))) (fun ds n k ke h => himp_by_hand20 ds n k ke h rfl)
abbrev n_law_right : List Str := ["_law_box_here", "_law_turn", "_law_tags_here", "_law_trail", "_law_lists_so", "_law_lasts_so", "_law_told", "_law_turned_so", "_law_lap", "_law_own", "_law_bent_so", "_law_start_so", "_law_tag", "_law_ends_so"]
theorem sc_law_right : FnScope n_law_right ["_law_box_here"] (defScope (top 21)) := ⟨rfl, rfl, rfl, by decide +kernel, rfl, by decide +kernel, by decide +kernel⟩
theorem ok_law_right {f : Addr} {fd : FuncData} {k : Nat} (F : Fun K "_law_right" "_law_right" (top 21) f fd) (B : Bl mg) (hK : g.K = K) (h_law_by_hand_right : HasF P w K mg base CX0 g k "_law_by_hand_right" [] sdByHand39) (h_law_tags : HasF P w K mg base CX0 g k "_law_tags" ["_law_box_here", "_law_many_so"] sdTags) (h_law_take : HasF P w K mg base CX0 g k "_law_take" ["_law_box_here", "_law_below"] sdTake) (h_law_walk : HasF P w K mg base CX0 g k "_law_walk" ["_law_box_here", "_law_tags_here", "_law_most_so"] sdWalkB) (h_law_exits : HasF P w K mg base CX0 g k "_law_exits" ["_law_trail"] sdExitsL) (h_exit_lists : HasF P w K mg base CX0 g k "exit_lists" ["journey"] sdExitLists) (h_last_steps : HasF P w K mg base CX0 g k "last_steps" ["journey"] sdLastSteps) (h_law_same : HasF P w K mg base CX0 g k "_law_same" ["_law_got", "_law_due"] sdSame6) (h_law_pick : HasF P w K mg base CX0 g k "_law_pick" ["_law_box_here", "_law_pool_so", "_law_many_so"] sdPick) (h_by_lists : HasF P w K mg base CX0 g k "by_lists" ["start", "lists"] sdByLists) (h_law_lists : HasF P w K mg base CX0 g k "_law_lists" ["_law_matter"] (sdLists 4)) (h_law_bent : HasF P w K mg base CX0 g k "_law_bent" ["_law_box_here", "_law_pairs_so"] sdBent20) (h_law_of : HasF P w K mg base CX0 g k "_law_of" ["_law_box_here", "_law_some"] sdOf) (h_law_follow : HasF P w K mg base CX0 g k "_law_follow" ["_law_start_so", "_law_pairs_so"] sdFollow) : FnOk P w K mg base CX0 (k + 1) f fd ["_law_box_here"] (spD g sdRight11) :=
  fnD (cs := cs_right20) F sc_law_right (fun ds _ _ _ h => by obtain ⟨rfl, _⟩ := h; rfl) (fun cdv A outer s H E hr => pdss_cons (pds_if (pdt_not (pdt_val (pd_fun0 h_law_by_hand_right hr (Nat.le_refl _) rfl (fun _ => pa0)))) (pdss_one (pds_ret (pd_bl))) (pdss_nil)) (pdss_cons (pds_for PassesOwn.never rfl (pdi_range1 rfl B.range (pda_cons (pd_int) (pda_nil))) (pdg_name (i := 1) sc_law_right.nd rfl (by first | exact Or.inl rfl | exact Or.inr rfl)) (pdss_cons (pds_set (i := 2) sc_law_right.nd rfl (by first | exact Or.inl rfl | exact Or.inr rfl) (pd_fun h_law_tags hr (Nat.le_refl _) rfl (fun _ => pa0) (pda_cons (pd_var 0) (pda_cons (pd_op od_add ⟨hK⟩ (pd_int) (pd_fun h_law_take hr (Nat.le_refl _) rfl (fun _ => pa0) (pda_cons (pd_var 0) (pda_cons (pd_int) (pda_nil))))) (pda_nil))))) (pdss_cons (pds_set (i := 3) sc_law_right.nd rfl (by first | exact Or.inl rfl | exact Or.inr rfl) (pd_fun h_law_walk hr (Nat.le_refl _) rfl (fun _ => pa0) (pda_cons (pd_var 0) (pda_cons (pd_var 2) (pda_cons (pd_int) (pda_nil)))))) (pdss_cons (pds_set (i := 4) sc_law_right.nd rfl (by first | exact Or.inl rfl | exact Or.inr rfl) (pd_fun h_law_exits hr (Nat.le_refl _) rfl (fun _ => pa0) (pda_cons (pd_var 3) (pda_nil)))) (pdss_cons (pds_set (i := 5) sc_law_right.nd rfl (by first | exact Or.inl rfl | exact Or.inr rfl) (pd_callTy cd_tuple ⟨hK⟩ rfl B.tuple (by decide +kernel) (pda_cons (PDF.pd (pf_lc (own := [("_law_tag", 12), ("_law_ends_so", 13)]) rfl sc_law_right.nd (pdi_seq ⟨hK⟩ (pd_var 4)) (blkOk_by (own := [("_law_tag", 12), ("_law_ends_so", 13)]) (N := n_law_right) (sc := defScope (top 21)) (by decide +kernel)) (fun _ _ _ _ _ => pdg_tup rfl ⟨hK⟩ (pdgs_cons (pdg_name (i := 12) sc_law_right.nd rfl (by first | exact Or.inl rfl | exact Or.inr rfl)) (pdgs_cons (pdg_name (i := 13) sc_law_right.nd rfl (by first | exact Or.inl rfl | exact Or.inr rfl)) (pdgs_nil))) (stCons_len (stCons_len stNil_len))) (fun _ _ _ _ _ => pdts_one (pdt_cmp (od_ne (hu64 hr)) ⟨hK⟩ (pd_var 12) (pd_ix ix_at ⟨hK⟩ (pd_var 3) (pd_neg (pd_int)) (fun _ _ => rfl)) (by first | exact nomark _ | rfl))) (fun _ _ _ _ _ => pd_tup (pda_cons (pd_var 12) (pda_cons (pd_ix ix_at ⟨hK⟩ (pd_var 13) (pd_neg (pd_int)) (fun _ _ => rfl)) (pda_nil)))))) (pda_nil)))) (pdss_cons (pds_set (i := 6) sc_law_right.nd rfl (by first | exact Or.inl rfl | exact Or.inr rfl) (PDF.pd (pf_lst (pda_cons (pd_fun h_exit_lists hr (Nat.le_refl _) rfl (fun _ => pa0) (pda_cons (pd_var 3) (pda_nil))) (pda_cons (pd_fun h_exit_lists hr (Nat.le_refl _) rfl (fun _ => pa0) (pda_cons (PDF.pd (pf_callTy (cf_list' rfl) ⟨hK⟩ rfl B.list (by decide +kernel) (pda_cons (pd_var 3) (pda_nil)))) (pda_nil))) (pda_cons (pd_fun h_last_steps hr (Nat.le_refl _) rfl (fun _ => pa0) (pda_cons (pd_var 3) (pda_nil))) (pda_cons (pd_fun h_last_steps hr (Nat.le_refl _) rfl (fun _ => pa0) (pda_cons (PDF.pd (pf_callTy (cf_list' rfl) ⟨hK⟩ rfl B.list (by decide +kernel) (pda_cons (pd_var 3) (pda_nil)))) (pda_nil))) (pda_nil)))))))) (pdss_cons (pds_if (pdt_not (pdt_val (pd_fun h_law_same hr (Nat.le_refl _) rfl (fun _ => pa0) (pda_cons (pd_var 6) (pda_cons (PDF.pd (pf_lst (pda_cons (pd_var 4) (pda_cons (pd_var 4) (pda_cons (pd_var 5) (pda_cons (pd_var 5) (pda_nil))))))) (pda_nil)))))) (pdss_one (pds_ret (pd_bl))) (pdss_nil)) (pdss_cons (pds_set (i := 7) sc_law_right.nd rfl (by first | exact Or.inl rfl | exact Or.inr rfl) (pd_callTy cd_tuple ⟨hK⟩ rfl B.tuple (by decide +kernel) (pda_cons (pd_fun h_law_pick hr (Nat.le_refl _) rfl (fun _ => pa0) (pda_cons (pd_var 0) (pda_cons (pd_var 4) (pda_cons (pd_callB cd_len ⟨hK⟩ rfl B.len (by decide +kernel) (pda_cons (pd_var 4) (pda_nil))) (pda_nil))))) (pda_nil)))) (pdss_cons (pds_set (i := 6) sc_law_right.nd rfl (by first | exact Or.inl rfl | exact Or.inr rfl) (PDF.pd (pf_lst (pda_cons (pd_fun h_by_lists hr (Nat.le_refl _) rfl (fun _ => pa0) (pda_cons (pd_ix ix_at ⟨hK⟩ (pd_var 3) (pd_int) (fun _ _ => rfl)) (pda_cons (pd_var 7) (pda_nil)))) (pda_cons (pd_fun h_by_lists hr (Nat.le_refl _) rfl (fun _ => pa0) (pda_cons (pd_ix ix_at ⟨hK⟩ (pd_var 3) (pd_int) (fun _ _ => rfl)) (pda_cons (pd_fun h_law_lists hr (Nat.le_refl _) rfl (fun _ => pa0) (pda_cons (pd_var 7) (pda_nil))) (pda_nil)))) (pda_nil)))))) (pdss_cons (pds_if (pdt_not (pdt_val (pd_fun h_law_same hr (Nat.le_refl _) rfl (fun _ => pa0) (pda_cons (pd_var 6) (pda_cons (PDF.pd (pf_lst (pda_cons (pd_var 3) (pda_cons (pd_var 3) (pda_nil))))) (pda_nil)))))) (pdss_one (pds_ret (pd_bl))) (pdss_nil)) (pdss_one (pds_for PassesOwn.never rfl (pdi_range1 rfl B.range (pda_cons (pd_op od_mul ⟨hK⟩ (pd_int) (pd_callTy cd_int ⟨hK⟩ rfl B.int (by decide +kernel) (pda_cons (pd_cmp (od_ne (hu64 hr)) ⟨hK⟩ (pd_var 4) (pd_tup (pda_nil)) (by first | exact nomark _ | rfl)) (pda_nil)))) (pda_nil))) (pdg_name (i := 8) sc_law_right.nd rfl (by first | exact Or.inl rfl | exact Or.inr rfl)) (pdss_cons (pds_par (i := 10) (j := 11) rfl sc_law_right.nd rfl rfl (by decide) rfl rfl (pda_cons (pd_fun h_law_bent hr (Nat.le_refl _) rfl (fun _ => pa0) (pda_cons (pd_var 0) (pda_cons (pd_var 7) (pda_nil)))) (pda_cons (pd_fun h_law_of hr (Nat.le_refl _) rfl (fun _ => pa0) (pda_cons (pd_var 0) (pda_cons (pd_var 2) (pda_nil)))) (pda_nil)))) (pdss_one (pds_for PassesOwn.never rfl (pdi_seq ⟨hK⟩ (pd_tup (pda_cons (pd_ix ix_at ⟨hK⟩ (pd_var 3) (pd_int) (fun _ _ => rfl)) (pda_cons (pd_var 11) (pda_nil))))) (pdg_name (i := 9) sc_law_right.nd rfl (by first | exact Or.inl rfl | exact Or.inr rfl)) (pdss_one (pds_if (pdt_not (pdt_val (pd_fun h_law_same hr (Nat.le_refl _) rfl (fun _ => pa0) (pda_cons (pd_fun h_by_lists hr (Nat.le_refl _) rfl (fun _ => pa0) (pda_cons (pd_var 9) (pda_cons (pd_var 10) (pda_nil)))) (pda_cons (pd_fun h_law_follow hr (Nat.le_refl _) rfl (fun _ => pa0) (pda_cons (pd_var 9) (pda_cons (pd_var 10) (pda_nil)))) (pda_nil)))))) (pdss_one (pds_ret (pd_bl))) (pdss_nil)))))))))))))))))) (pdss_one (pds_ret (pd_bl))))) (fun ds n k ke h => himp_right20 ds n k ke h rfl)
end
end K20
namespace K20
open PySem PySem.Spec PyProof.Rows L2 CS RM
theorem all_mk {l : PySem.W.OpenLaw} {w : World} {K : PySem.W.Frag} {h : Heap} {mg : Str → Option Value} {fa f1 f2 f3 f4 f5 f6 f7 f8 f9 f10 f11 f12 f13 f14 f15 f16 f17 f18 f19 f20 : Addr} (X : K.In h) (G : h.Ns mainGlobals mg) (hfa : mg "law" = some (.ref fa))
    {od1 an1 od2 an2 od3 an3 od4 an4 od5 an5 od6 an6 od7 an7 od8 an8 od9 an9 od10 an10 od11 an11 od12 an12 od13 an13 od14 an14 od15 an15 od16 an16 od17 an17 od18 an18 od19 an19 od20 an20 : Option Addr} {sl1 sl2 sl3 sl4 sl5 sl6 sl7 sl8 sl9 sl10 sl11 sl12 sl13 sl14 sl15 sl16 sl17 sl18 sl19 sl20 : Array (Option Value)} {oc1 kV1 dc1 pm1 cd1 ct1 oc2 kV2 dc2 pm2 cd2 ct2 oc3 kV3 dc3 pm3 cd3 ct3 oc4 kV4 dc4 pm4 cd4 ct4 oc5 kV5 dc5 pm5 cd5 ct5 oc6 kV6 dc6 pm6 cd6 ct6 oc7 kV7 dc7 pm7 cd7 ct7 oc8 kV8 dc8 pm8 cd8 ct8 oc9 kV9 dc9 pm9 cd9 ct9 oc10 kV10 dc10 pm10 cd10 ct10 oc11 kV11 dc11 pm11 cd11 ct11 oc12 kV12 dc12 pm12 cd12 ct12 oc13 kV13 dc13 pm13 cd13 ct13 oc14 kV14 dc14 pm14 cd14 ct14 oc15 kV15 dc15 pm15 cd15 ct15 oc16 kV16 dc16 pm16 cd16 ct16 oc17 kV17 dc17 pm17 cd17 ct17 oc18 kV18 dc18 pm18 cd18 ct18 oc19 kV19 dc19 pm19 cd19 ct19 oc20 kV20 dc20 pm20 cd20 ct20 : Value}
    (a1 : PySem.W.nsIn K mainGlobals "steps_of" = some (some (.ref f1))) (l1 : K.lookup f1 = some ⟨oc1, od1, .func (PySem.W.fnOf "steps_of" "steps_of" (defArgs (top 1)) (defBody (top 1)) (defScope (top 1)) .none kV1 dc1 pm1 an1 cd1 ct1), sl1⟩) (c1 : PySem.W.codeIn K cd1 "steps_of" = true) (k1 : PySem.W.keepIn K (.ref f1) = true)
    (a2 : PySem.W.nsIn K mainGlobals "exits" = some (some (.ref f2))) (l2 : K.lookup f2 = some ⟨oc2, od2, .func (PySem.W.fnOf "exits" "exits" (defArgs (top 2)) (defBody (top 2)) (defScope (top 2)) .none kV2 dc2 pm2 an2 cd2 ct2), sl2⟩) (c2 : PySem.W.codeIn K cd2 "exits" = true) (k2 : PySem.W.keepIn K (.ref f2) = true)
    (a3 : PySem.W.nsIn K mainGlobals "last_steps" = some (some (.ref f3))) (l3 : K.lookup f3 = some ⟨oc3, od3, .func (PySem.W.fnOf "last_steps" "last_steps" (defArgs (top 4)) (defBody (top 4)) (defScope (top 4)) .none kV3 dc3 pm3 an3 cd3 ct3), sl3⟩) (c3 : PySem.W.codeIn K cd3 "last_steps" = true) (k3 : PySem.W.keepIn K (.ref f3) = true)
    (a4 : PySem.W.nsIn K mainGlobals "exit_lists" = some (some (.ref f4))) (l4 : K.lookup f4 = some ⟨oc4, od4, .func (PySem.W.fnOf "exit_lists" "exit_lists" (defArgs (top 5)) (defBody (top 5)) (defScope (top 5)) .none kV4 dc4 pm4 an4 cd4 ct4), sl4⟩) (c4 : PySem.W.codeIn K cd4 "exit_lists" = true) (k4 : PySem.W.keepIn K (.ref f4) = true)
    (a5 : PySem.W.nsIn K mainGlobals "by_lists" = some (some (.ref f5))) (l5 : K.lookup f5 = some ⟨oc5, od5, .func (PySem.W.fnOf "by_lists" "by_lists" (defArgs (top 6)) (defBody (top 6)) (defScope (top 6)) .none kV5 dc5 pm5 an5 cd5 ct5), sl5⟩) (c5 : PySem.W.codeIn K cd5 "by_lists" = true) (k5 : PySem.W.keepIn K (.ref f5) = true)
    (a6 : PySem.W.nsIn K mainGlobals "_law_box" = some (some (.ref f6))) (l6 : K.lookup f6 = some ⟨oc6, od6, .func (PySem.W.fnOf "_law_box" "_law_box" (defArgs sBox) (defBody sBox) (defScope sBox) .none kV6 dc6 pm6 an6 cd6 ct6), sl6⟩) (c6 : PySem.W.codeIn K cd6 "_law_box" = true) (k6 : PySem.W.keepIn K (.ref f6) = true)
    (a7 : PySem.W.nsIn K mainGlobals "_law_take" = some (some (.ref f7))) (l7 : K.lookup f7 = some ⟨oc7, od7, .func (PySem.W.fnOf "_law_take" "_law_take" (defArgs sTake) (defBody sTake) (defScope sTake) .none kV7 dc7 pm7 an7 cd7 ct7), sl7⟩) (c7 : PySem.W.codeIn K cd7 "_law_take" = true) (k7 : PySem.W.keepIn K (.ref f7) = true)
    (a8 : PySem.W.nsIn K mainGlobals "_law_cells" = some (some (.ref f8))) (l8 : K.lookup f8 = some ⟨oc8, od8, .func (PySem.W.fnOf "_law_cells" "_law_cells" (defArgs sCells) (defBody sCells) (defScope sCells) .none kV8 dc8 pm8 an8 cd8 ct8), sl8⟩) (c8 : PySem.W.codeIn K cd8 "_law_cells" = true) (k8 : PySem.W.keepIn K (.ref f8) = true)
    (a9 : PySem.W.nsIn K mainGlobals "_law_of" = some (some (.ref f9))) (l9 : K.lookup f9 = some ⟨oc9, od9, .func (PySem.W.fnOf "_law_of" "_law_of" (defArgs (top 11)) (defBody (top 11)) (defScope (top 11)) .none kV9 dc9 pm9 an9 cd9 ct9), sl9⟩) (c9 : PySem.W.codeIn K cd9 "_law_of" = true) (k9 : PySem.W.keepIn K (.ref f9) = true)
    (a10 : PySem.W.nsIn K mainGlobals "_law_pick" = some (some (.ref f10))) (l10 : K.lookup f10 = some ⟨oc10, od10, .func (PySem.W.fnOf "_law_pick" "_law_pick" (defArgs (top 12)) (defBody (top 12)) (defScope (top 12)) .none kV10 dc10 pm10 an10 cd10 ct10), sl10⟩) (c10 : PySem.W.codeIn K cd10 "_law_pick" = true) (k10 : PySem.W.keepIn K (.ref f10) = true)
    (a11 : PySem.W.nsIn K mainGlobals "_law_lists" = some (some (.ref f11))) (l11 : K.lookup f11 = some ⟨oc11, od11, .func (PySem.W.fnOf "_law_lists" "_law_lists" (defArgs (top 13)) (defBody (top 13)) (defScope (top 13)) .none kV11 dc11 pm11 an11 cd11 ct11), sl11⟩) (c11 : PySem.W.codeIn K cd11 "_law_lists" = true) (k11 : PySem.W.keepIn K (.ref f11) = true)
    (a12 : PySem.W.nsIn K mainGlobals "_law_same" = some (some (.ref f12))) (l12 : K.lookup f12 = some ⟨oc12, od12, .func (PySem.W.fnOf "_law_same" "_law_same" (defArgs sSame) (defBody sSame) (defScope sSame) .none kV12 dc12 pm12 an12 cd12 ct12), sl12⟩) (c12 : PySem.W.codeIn K cd12 "_law_same" = true) (k12 : PySem.W.keepIn K (.ref f12) = true)
    (a13 : PySem.W.nsIn K mainGlobals "_law_tags" = some (some (.ref f13))) (l13 : K.lookup f13 = some ⟨oc13, od13, .func (PySem.W.fnOf "_law_tags" "_law_tags" (defArgs (top 15)) (defBody (top 15)) (defScope (top 15)) .none kV13 dc13 pm13 an13 cd13 ct13), sl13⟩) (c13 : PySem.W.codeIn K cd13 "_law_tags" = true) (k13 : PySem.W.keepIn K (.ref f13) = true)
    (a14 : PySem.W.nsIn K mainGlobals "_law_walk" = some (some (.ref f14))) (l14 : K.lookup f14 = some ⟨oc14, od14, .func (PySem.W.fnOf "_law_walk" "_law_walk" (defArgs (top 16)) (defBody (top 16)) (defScope (top 16)) .none kV14 dc14 pm14 an14 cd14 ct14), sl14⟩) (c14 : PySem.W.codeIn K cd14 "_law_walk" = true) (k14 : PySem.W.keepIn K (.ref f14) = true)
    (a15 : PySem.W.nsIn K mainGlobals "_law_exits" = some (some (.ref f15))) (l15 : K.lookup f15 = some ⟨oc15, od15, .func (PySem.W.fnOf "_law_exits" "_law_exits" (defArgs (top 17)) (defBody (top 17)) (defScope (top 17)) .none kV15 dc15 pm15 an15 cd15 ct15), sl15⟩) (c15 : PySem.W.codeIn K cd15 "_law_exits" = true) (k15 : PySem.W.keepIn K (.ref f15) = true)
    (a16 : PySem.W.nsIn K mainGlobals "_law_follow" = some (some (.ref f16))) (l16 : K.lookup f16 = some ⟨oc16, od16, .func (PySem.W.fnOf "_law_follow" "_law_follow" (defArgs (top 18)) (defBody (top 18)) (defScope (top 18)) .none kV16 dc16 pm16 an16 cd16 ct16), sl16⟩) (c16 : PySem.W.codeIn K cd16 "_law_follow" = true) (k16 : PySem.W.keepIn K (.ref f16) = true)
    (a17 : PySem.W.nsIn K mainGlobals "_law_bent" = some (some (.ref f17))) (l17 : K.lookup f17 = some ⟨oc17, od17, .func (PySem.W.fnOf "_law_bent" "_law_bent" (defArgs sBent) (defBody sBent) (defScope sBent) .none kV17 dc17 pm17 an17 cd17 ct17), sl17⟩) (c17 : PySem.W.codeIn K cd17 "_law_bent" = true) (k17 : PySem.W.keepIn K (.ref f17) = true)
    (a18 : PySem.W.nsIn K mainGlobals "_law_by_hand_right" = some (some (.ref f18))) (l18 : K.lookup f18 = some ⟨oc18, od18, .func (PySem.W.fnOf "_law_by_hand_right" "_law_by_hand_right" (defArgs (top 20)) (defBody (top 20)) (defScope (top 20)) .none kV18 dc18 pm18 an18 cd18 ct18), sl18⟩) (c18 : PySem.W.codeIn K cd18 "_law_by_hand_right" = true) (k18 : PySem.W.keepIn K (.ref f18) = true)
    (a19 : PySem.W.nsIn K mainGlobals "_law_right" = some (some (.ref f19))) (l19 : K.lookup f19 = some ⟨oc19, od19, .func (PySem.W.fnOf "_law_right" "_law_right" (defArgs (top 21)) (defBody (top 21)) (defScope (top 21)) .none kV19 dc19 pm19 an19 cd19 ct19), sl19⟩) (c19 : PySem.W.codeIn K cd19 "_law_right" = true) (k19 : PySem.W.keepIn K (.ref f19) = true)
    (a20 : PySem.W.nsIn K mainGlobals "law" = some (some (.ref f20))) (l20 : K.lookup f20 = some ⟨oc20, od20, .func (PySem.W.fnOf "law" "law" (defArgs sLaw) (defBody sLaw) (defScope sLaw) .none kV20 dc20 pm20 an20 cd20 ct20), sl20⟩) (c20 : PySem.W.codeIn K cd20 "law" = true) (k20 : PySem.W.keepIn K (.ref f20) = true)
    (z1 : PySem.W.nsIn K mainGlobals "len" = some none)
    (z2 : PySem.W.nsIn K mainGlobals "sum" = some none)
    (z3 : PySem.W.nsIn K mainGlobals "all" = some none)
    (z4 : PySem.W.nsIn K mainGlobals "any" = some none)
    (z5 : PySem.W.nsIn K mainGlobals "min" = some none)
    (z6 : PySem.W.nsIn K mainGlobals "max" = some none)
    (z7 : PySem.W.nsIn K mainGlobals "sorted" = some none)
    (z8 : PySem.W.nsIn K mainGlobals "tuple" = some none)
    (z9 : PySem.W.nsIn K mainGlobals "list" = some none)
    (z10 : PySem.W.nsIn K mainGlobals "set" = some none)
    (z11 : PySem.W.nsIn K mainGlobals "dict" = some none)
    (z12 : PySem.W.nsIn K mainGlobals "range" = some none)
    (z13 : PySem.W.nsIn K mainGlobals "zip" = some none)
    (z14 : PySem.W.nsIn K mainGlobals "enumerate" = some none)
    (z15 : PySem.W.nsIn K mainGlobals "isinstance" = some none)
    (z16 : PySem.W.nsIn K mainGlobals "abs" = some none)
    (z17 : PySem.W.nsIn K mainGlobals "int" = some none)
    (z18 : PySem.W.nsIn K mainGlobals "str" = some none)
    (z19 : PySem.W.nsIn K mainGlobals "repr" = some none)
    (z20 : PySem.W.nsIn K mainGlobals "bool" = some none)
    (z21 : PySem.W.nsIn K mainGlobals "ValueError" = some none)
    (z22 : PySem.W.nsIn K mainGlobals "LookupError" = some none) :
    ∃ fd : FuncData, (∀ (s : Shared) (v : Value), BindsTo s fd ⟨[v], []⟩ [("_law_script", v)]) ∧ ∀ base : Heap, K.In base → base.Ns mainGlobals mg → FnOk l.prog w K mg base CX0 15 fa fd ["_law_script"] (spLaw K) := by
  have e := hfa.symm.trans (PySem.W.mg_of X G a20)
  cases e
  have F1 := fun_mk (st := (top 1)) l1 c1 k1
  have b1 := F1.binds (ps := ["journey"]) fun _ _ _ _ _ _ us hl => match us, hl with | [_], _ => rfl
  have m1 := PySem.W.mg_of X G a1
  have F2 := fun_mk (st := (top 2)) l2 c2 k2
  have b2 := F2.binds (ps := ["journey", "place"]) fun _ _ _ _ _ _ us hl => match us, hl with | [_, _], _ => rfl
  have m2 := PySem.W.mg_of X G a2
  have F3 := fun_mk (st := (top 4)) l3 c3 k3
  have b3 := F3.binds (ps := ["journey"]) fun _ _ _ _ _ _ us hl => match us, hl with | [_], _ => rfl
  have m3 := PySem.W.mg_of X G a3
  have F4 := fun_mk (st := (top 5)) l4 c4 k4
  have b4 := F4.binds (ps := ["journey"]) fun _ _ _ _ _ _ us hl => match us, hl with | [_], _ => rfl
  have m4 := PySem.W.mg_of X G a4
  have F5 := fun_mk (st := (top 6)) l5 c5 k5
  have b5 := F5.binds (ps := ["start", "lists"]) fun _ _ _ _ _ _ us hl => match us, hl with | [_, _], _ => rfl
  have m5 := PySem.W.mg_of X G a5
  have F6 := fun_mk (st := sBox) l6 c6 k6
  have b6 := F6.binds (ps := ["_law_script", "_law_k"]) fun _ _ _ _ _ _ us hl => match us, hl with | [_, _], _ => rfl
  have m6 := PySem.W.mg_of X G a6
  have F7 := fun_mk (st := sTake) l7 c7 k7
  have b7 := F7.binds (ps := ["_law_box_here", "_law_below"]) fun _ _ _ _ _ _ us hl => match us, hl with | [_, _], _ => rfl
  have m7 := PySem.W.mg_of X G a7
  have F8 := fun_mk (st := sCells) l8 c8 k8
  have b8 := F8.binds (ps := ["_law_script", "_law_most_so"]) fun _ _ _ _ _ _ us hl => match us, hl with | [_, _], _ => rfl
  have m8 := PySem.W.mg_of X G a8
  have F9 := fun_mk (st := (top 11)) l9 c9 k9
  have b9 := F9.binds (ps := ["_law_box_here", "_law_some"]) fun _ _ _ _ _ _ us hl => match us, hl with | [_, _], _ => rfl
  have m9 := PySem.W.mg_of X G a9
  have F10 := fun_mk (st := (top 12)) l10 c10 k10
  have b10 := F10.binds (ps := ["_law_box_here", "_law_pool_so", "_law_many_so"]) fun _ _ _ _ _ _ us hl => match us, hl with | [_, _, _], _ => rfl
  have m10 := PySem.W.mg_of X G a10
  have F11 := fun_mk (st := (top 13)) l11 c11 k11
  have b11 := F11.binds (ps := ["_law_matter"]) fun _ _ _ _ _ _ us hl => match us, hl with | [_], _ => rfl
  have m11 := PySem.W.mg_of X G a11
  have F12 := fun_mk (st := sSame) l12 c12 k12
  have b12 := F12.binds (ps := ["_law_got", "_law_due"]) fun _ _ _ _ _ _ us hl => match us, hl with | [_, _], _ => rfl
  have m12 := PySem.W.mg_of X G a12
  have F13 := fun_mk (st := (top 15)) l13 c13 k13
  have b13 := F13.binds (ps := ["_law_box_here", "_law_many_so"]) fun _ _ _ _ _ _ us hl => match us, hl with | [_, _], _ => rfl
  have m13 := PySem.W.mg_of X G a13
  have F14 := fun_mk (st := (top 16)) l14 c14 k14
  have b14 := F14.binds (ps := ["_law_box_here", "_law_tags_here", "_law_most_so"]) fun _ _ _ _ _ _ us hl => match us, hl with | [_, _, _], _ => rfl
  have m14 := PySem.W.mg_of X G a14
  have F15 := fun_mk (st := (top 17)) l15 c15 k15
  have b15 := F15.binds (ps := ["_law_trail"]) fun _ _ _ _ _ _ us hl => match us, hl with | [_], _ => rfl
  have m15 := PySem.W.mg_of X G a15
  have F16 := fun_mk (st := (top 18)) l16 c16 k16
  have b16 := F16.binds (ps := ["_law_start_so", "_law_pairs_so"]) fun _ _ _ _ _ _ us hl => match us, hl with | [_, _], _ => rfl
  have m16 := PySem.W.mg_of X G a16
  have F17 := fun_mk (st := sBent) l17 c17 k17
  have b17 := F17.binds (ps := ["_law_box_here", "_law_pairs_so"]) fun _ _ _ _ _ _ us hl => match us, hl with | [_, _], _ => rfl
  have m17 := PySem.W.mg_of X G a17
  have F18 := fun_mk (st := (top 20)) l18 c18 k18
  have b18 := F18.binds (ps := []) fun _ _ _ _ _ _ us hl => match us, hl with | [], _ => rfl
  have m18 := PySem.W.mg_of X G a18
  have F19 := fun_mk (st := (top 21)) l19 c19 k19
  have b19 := F19.binds (ps := ["_law_box_here"]) fun _ _ _ _ _ _ us hl => match us, hl with | [_], _ => rfl
  have m19 := PySem.W.mg_of X G a19
  have F20 := fun_mk (st := sLaw) l20 c20 k20
  have y1 := PySem.W.mg_none_of X G z1
  have y2 := PySem.W.mg_none_of X G z2
  have y3 := PySem.W.mg_none_of X G z3
  have y4 := PySem.W.mg_none_of X G z4
  have y5 := PySem.W.mg_none_of X G z5
  have y6 := PySem.W.mg_none_of X G z6
  have y7 := PySem.W.mg_none_of X G z7
  have y8 := PySem.W.mg_none_of X G z8
  have y9 := PySem.W.mg_none_of X G z9
  have y10 := PySem.W.mg_none_of X G z10
  have y11 := PySem.W.mg_none_of X G z11
  have y12 := PySem.W.mg_none_of X G z12
  have y13 := PySem.W.mg_none_of X G z13
  have y14 := PySem.W.mg_none_of X G z14
  have y15 := PySem.W.mg_none_of X G z15
  have y16 := PySem.W.mg_none_of X G z16
  have y17 := PySem.W.mg_none_of X G z17
  have y18 := PySem.W.mg_none_of X G z18
  have y19 := PySem.W.mg_none_of X G z19
  have y20 := PySem.W.mg_none_of X G z20
  have y21 := PySem.W.mg_none_of X G z21
  have y22 := PySem.W.mg_none_of X G z22
  have B : Bl mg := ⟨y1, y2, y3, y4, y5, y6, y7, y8, y9, y10, y11, y12, y13, y14, y15, y16, y17, y18, y19, y20, y21, y22⟩
  refine ⟨PySem.W.fnOf "law" "law" (defArgs sLaw) (defBody sLaw) (defScope sLaw) .none kV20 dc20 pm20 an20 cd20 ct20, fun s v => .of_eq rfl, fun base _ _ => ?_⟩
  let g : Glob := ⟨K, fun _ => 0⟩
  have T : SmT mg := ⟨y15, y9, y8, y1, y3, y13, y20, y18, y17⟩
  have gM1 := ok_same (P := l.prog) (w := w) (base := base) F12 same_none b12 m12 T
  have gM2 := ok_same F12 gM1 b12 m12 T
  have gM3 := ok_same F12 gM2 b12 m12 T
  have gM4 := ok_same F12 gM3 b12 m12 T
  have gM5 := ok_same F12 gM4 b12 m12 T
  have gK := ok_take (P := l.prog) (w := w) (base := base) (k := 0) F7 y17
  have gO := K20.ok_of (k := 1) F9 gK b7 k7 m7 y1
  have gU := ok_bent (k := 2) F17 (gK.mono (by decide : 1 ≤ 2)) b7 k7 m7 gO b9 k9 m9 y1 y9 y8
  have v__law_bent : FnOk l.prog w K mg base CX0 3 f17 _ ["_law_box_here", "_law_pairs_so"] (spD g sdBent20) := FnOk.imp gU (fun vs H Q E h => bent_imp h)
  have v__law_same : FnOk l.prog w K mg base CX0 5 f12 _ ["_law_got", "_law_due"] (spD g sdSame6) := FnOk.imp gM5 (fun vs H Q E h => (let ⟨x, y, d, e1, e2, e3, e4, e5⟩ := same_imp6 h; ⟨x, y, d, e1, e2, e3, okS_okD 5 d e4, e5⟩))
  have v__law_take : FnOk l.prog w K mg base CX0 1 f7 _ ["_law_box_here", "_law_below"] (spD g sdTake) := FnOk.imp gK (fun vs H Q E h => take_imp h)
  have gL1 : FnOk l.prog w K mg base CX0 1 f11 _ ["_law_matter"] (spD g (sdLists 1)) := ok_law_lists (m := 0) (k := 0) F11 B rfl ⟨⟨f11, _, lists_none, b11, k11, m11⟩⟩
  have gL2 : FnOk l.prog w K mg base CX0 2 f11 _ ["_law_matter"] (spD g (sdLists 2)) := ok_law_lists (m := 1) (k := 1) F11 B rfl ⟨⟨f11, _, gL1, b11, k11, m11⟩⟩
  have gL3 : FnOk l.prog w K mg base CX0 3 f11 _ ["_law_matter"] (spD g (sdLists 3)) := ok_law_lists (m := 2) (k := 2) F11 B rfl ⟨⟨f11, _, gL2, b11, k11, m11⟩⟩
  have v__law_lists : FnOk l.prog w K mg base CX0 4 f11 _ ["_law_matter"] (spD g (sdLists 4)) := ok_law_lists (m := 3) (k := 3) F11 B rfl ⟨⟨f11, _, gL3, b11, k11, m11⟩⟩
  have v__law_of : FnOk l.prog w K mg base CX0 2 f9 _ ["_law_box_here", "_law_some"] (spD g sdOf) := ok_law_of (k := 1) F9 B rfl ⟨⟨f7, _, v__law_take, b7, k7, m7⟩⟩
  have v__law_pick : FnOk l.prog w K mg base CX0 2 f10 _ ["_law_box_here", "_law_pool_so", "_law_many_so"] (spD g sdPick) := ok_law_pick (k := 1) F10 B rfl ⟨⟨f7, _, v__law_take, b7, k7, m7⟩⟩
  have v__law_tags : FnOk l.prog w K mg base CX0 3 f13 _ ["_law_box_here", "_law_many_so"] (spD g sdTags) := ok_law_tags (k := 2) F13 B rfl ⟨⟨f7, _, (v__law_take.mono (by decide : 1 ≤ 2)), b7, k7, m7⟩⟩ ⟨⟨f10, _, v__law_pick, b10, k10, m10⟩⟩
  have v__law_walk : FnOk l.prog w K mg base CX0 3 f14 _ ["_law_box_here", "_law_tags_here", "_law_most_so"] (spD g sdWalkB) := ok_law_walk (k := 2) F14 B rfl ⟨⟨f9, _, v__law_of, b9, k9, m9⟩⟩ ⟨⟨f7, _, (v__law_take.mono (by decide : 1 ≤ 2)), b7, k7, m7⟩⟩
  have v_steps_of : FnOk l.prog w K mg base CX0 1 f1 _ ["journey"] (spD g sdStepsOf) := ok_steps_of (k := 0) F1 B rfl 
  have v_exits : FnOk l.prog w K mg base CX0 2 f2 _ ["journey", "place"] (spD g sdExits) := ok_exits (k := 1) F2 B rfl ⟨⟨f1, _, v_steps_of, b1, k1, m1⟩⟩
  have v_exit_lists : FnOk l.prog w K mg base CX0 3 f4 _ ["journey"] (spD g sdExitLists) := ok_exit_lists (k := 2) F4 B rfl ⟨⟨f2, _, v_exits, b2, k2, m2⟩⟩
  have v_last_steps : FnOk l.prog w K mg base CX0 4 f3 _ ["journey"] (spD g sdLastSteps) := ok_last_steps (k := 3) F3 B rfl ⟨⟨f4, _, v_exit_lists, b4, k4, m4⟩⟩
  have v_by_lists : FnOk l.prog w K mg base CX0 1 f5 _ ["start", "lists"] (spD g sdByLists) := ok_by_lists (k := 0) F5 B rfl 
  have v__law_exits : FnOk l.prog w K mg base CX0 1 f15 _ ["_law_trail"] (spD g sdExitsL) := ok_law_exits (k := 0) F15 B rfl 
  have v__law_follow : FnOk l.prog w K mg base CX0 1 f16 _ ["_law_start_so", "_law_pairs_so"] (spD g sdFollow) := ok_law_follow (k := 0) F16 B rfl 
  have v__law_by_hand_right : FnOk l.prog w K mg base CX0 13 f18 _ [] (spD g sdByHand39) := ok_law_by_hand_right (k := 12) F18 B rfl ⟨⟨f3, _, (v_last_steps.mono (by decide : 4 ≤ 12)), b3, k3, m3⟩⟩ ⟨⟨f3, _, (v_last_steps.mono (by decide : 4 ≤ 12)), kb_one F3 (fun _ _ _ _ _ _ _ => rfl), k3, m3⟩⟩ ⟨⟨f12, _, (v__law_same.mono (by decide : 5 ≤ 12)), b12, k12, m12⟩⟩ ⟨⟨f4, _, (v_exit_lists.mono (by decide : 3 ≤ 12)), kb_one F4 (fun _ _ _ _ _ _ _ => rfl), k4, m4⟩⟩ ⟨⟨f4, _, (v_exit_lists.mono (by decide : 3 ≤ 12)), b4, k4, m4⟩⟩ ⟨⟨f5, _, (v_by_lists.mono (by decide : 1 ≤ 12)), b5, k5, m5⟩⟩ ⟨⟨f5, _, (v_by_lists.mono (by decide : 1 ≤ 12)), kb_names F5 (fun _ _ _ _ _ _ ws hl => match ws, hl with | [_, _], _ => rfl), k5, m5⟩⟩
  have v__law_right : FnOk l.prog w K mg base CX0 14 f19 _ ["_law_box_here"] (spD g sdRight11) := ok_law_right (k := 13) F19 B rfl ⟨⟨f18, _, v__law_by_hand_right, b18, k18, m18⟩⟩ ⟨⟨f13, _, (v__law_tags.mono (by decide : 3 ≤ 13)), b13, k13, m13⟩⟩ ⟨⟨f7, _, (v__law_take.mono (by decide : 1 ≤ 13)), b7, k7, m7⟩⟩ ⟨⟨f14, _, (v__law_walk.mono (by decide : 3 ≤ 13)), b14, k14, m14⟩⟩ ⟨⟨f15, _, (v__law_exits.mono (by decide : 1 ≤ 13)), b15, k15, m15⟩⟩ ⟨⟨f4, _, (v_exit_lists.mono (by decide : 3 ≤ 13)), b4, k4, m4⟩⟩ ⟨⟨f3, _, (v_last_steps.mono (by decide : 4 ≤ 13)), b3, k3, m3⟩⟩ ⟨⟨f12, _, (v__law_same.mono (by decide : 5 ≤ 13)), b12, k12, m12⟩⟩ ⟨⟨f10, _, (v__law_pick.mono (by decide : 2 ≤ 13)), b10, k10, m10⟩⟩ ⟨⟨f5, _, (v_by_lists.mono (by decide : 1 ≤ 13)), b5, k5, m5⟩⟩ ⟨⟨f11, _, (v__law_lists.mono (by decide : 4 ≤ 13)), b11, k11, m11⟩⟩ ⟨⟨f17, _, (v__law_bent.mono (by decide : 3 ≤ 13)), b17, k17, m17⟩⟩ ⟨⟨f9, _, (v__law_of.mono (by decide : 2 ≤ 13)), b9, k9, m9⟩⟩ ⟨⟨f16, _, (v__law_follow.mono (by decide : 1 ≤ 13)), b16, k16, m16⟩⟩
  have gR : FnOk l.prog w K mg base CX0 14 f19 _ ["_law_box_here"] spRight := FnOk.imp v__law_right (fun vs H Q E h => right_imp h)
  have gE : FnOk l.prog w K mg base CX0 14 f8 _ ["_law_script", "_law_most_so"] (spCells K) := ok_cells F8 y9 y14 y17
  have gB : FnOk l.prog w K mg base CX0 14 f6 _ ["_law_script", "_law_k"] (spBox K) := ok_box F6 y1 y16 y17
  exact ok_law F20 gE b8 k8 m8 gR b19 k19 m19 gB b6 k6 m6 y12 y3 y1
theorem walk {l : PySem.W.OpenLaw} {q : Program} {loose : List Str} {XP : (Str → Option Value) → Heap → Prop} {YP : World → Heap → Prop} {d : DefRec} {K : Params → PySem.W.Frag} (hn : l.most = some 63) (hdf : d.params.defaults = [])
    (hY : ∀ (w : World) (h : Heap), YP w h → (K w.params).In h)
    (F : ∀ (w : World) (mg : Str → Option Value) (fa : Addr) (h : Heap), (K w.params).In h → h.Ns mainGlobals mg → mg d.name = some (.ref fa) →
      ∃ fd : FuncData, (∀ (s : Shared) (u : Value), BindsTo s fd ⟨[u], []⟩ [("_law_script", u)]) ∧ ∀ base : Heap, (K w.params).In base → base.Ns mainGlobals mg → FnOk l.prog w (K w.params) mg base CX0 15 fa fd ["_law_script"] (spLaw (K w.params))) :
    PySem.W.WalkO q loose XP YP l.row.toRowW d [] (fun f vs => PySem.call f vs) :=
  L2.walk_of (n := 63) (k := 15) (x := "_law_script") (CX := fun _ => CX0) (sp := fun w => spLaw (K w.params)) hn (by decide) hdf ⟨rfl, by decide, by decide⟩ hY F (fun _ _ a ns hl _ hS => ⟨a, ns, rfl, hS, hl, fun _ => rfl⟩) fun _ _ _ _ _ z => z
end K20
open PySem PySem.W PyProof.Rows in
set_option maxRecDepth 100000 in
set_option maxHeartbeats 0 in
theorem PySem.Challenge.cw_countedsteps_k20_exit_lists_holds : PySem.Challenge.rw_countedsteps_k20_exit_lists.Holds := by
  w_on; o_law; k_head; (case hw => w_witness2)
  k_fill
  refine K20.walk (l := PySem.Challenge.rw_countedsteps_k20_exit_lists) rfl rfl (fun w h Y => PySem.W.kIn_of Y) ?F
  case F =>
    intro w mg fa h KX G hmg
    refine' K20.all_mk KX G hmg ?a1 ?l1 ?c1 ?k1 ?a2 ?l2 ?c2 ?k2 ?a3 ?l3 ?c3 ?k3 ?a4 ?l4 ?c4 ?k4 ?a5 ?l5 ?c5 ?k5 ?a6 ?l6 ?c6 ?k6 ?a7 ?l7 ?c7 ?k7 ?a8 ?l8 ?c8 ?k8 ?a9 ?l9 ?c9 ?k9 ?a10 ?l10 ?c10 ?k10 ?a11 ?l11 ?c11 ?k11 ?a12 ?l12 ?c12 ?k12 ?a13 ?l13 ?c13 ?k13 ?a14 ?l14 ?c14 ?k14 ?a15 ?l15 ?c15 ?k15 ?a16 ?l16 ?c16 ?k16 ?a17 ?l17 ?c17 ?k17 ?a18 ?l18 ?c18 ?k18 ?a19 ?l19 ?c19 ?k19 ?a20 ?l20 ?c20 ?k20 ?z1 ?z2 ?z3 ?z4 ?z5 ?z6 ?z7 ?z8 ?z9 ?z10 ?z11 ?z12 ?z13 ?z14 ?z15 ?z16 ?z17 ?z18 ?z19 ?z20 ?z21 ?z22
    (case a1 => k_is); (case l1 => k_is); (case c1 => k_is); (case k1 => k_is)
    (case a2 => k_is); (case l2 => k_is); (case c2 => k_is); (case k2 => k_is)
    (case a3 => k_is); (case l3 => k_is); (case c3 => k_is); (case k3 => k_is)
    (case a4 => k_is); (case l4 => k_is); (case c4 => k_is); (case k4 => k_is)
    (case a5 => k_is); (case l5 => k_is); (case c5 => k_is); (case k5 => k_is)
    (case a6 => k_is); (case l6 => k_is); (case c6 => k_is); (case k6 => k_is)
    (case a7 => k_is); (case l7 => k_is); (case c7 => k_is); (case k7 => k_is)
    (case a8 => k_is); (case l8 => k_is); (case c8 => k_is); (case k8 => k_is)
    (case a9 => k_is); (case l9 => k_is); (case c9 => k_is); (case k9 => k_is)
    (case a10 => k_is); (case l10 => k_is); (case c10 => k_is); (case k10 => k_is)
    (case a11 => k_is); (case l11 => k_is); (case c11 => k_is); (case k11 => k_is)
    (case a12 => k_is); (case l12 => k_is); (case c12 => k_is); (case k12 => k_is)
    (case a13 => k_is); (case l13 => k_is); (case c13 => k_is); (case k13 => k_is)
    (case a14 => k_is); (case l14 => k_is); (case c14 => k_is); (case k14 => k_is)
    (case a15 => k_is); (case l15 => k_is); (case c15 => k_is); (case k15 => k_is)
    (case a16 => k_is); (case l16 => k_is); (case c16 => k_is); (case k16 => k_is)
    (case a17 => k_is); (case l17 => k_is); (case c17 => k_is); (case k17 => k_is)
    (case a18 => k_is); (case l18 => k_is); (case c18 => k_is); (case k18 => k_is)
    (case a19 => k_is); (case l19 => k_is); (case c19 => k_is); (case k19 => k_is)
    (case a20 => k_is); (case l20 => k_is); (case c20 => k_is); (case k20 => k_is)
    (case z1 => k_is)
    (case z2 => k_is)
    (case z3 => k_is)
    (case z4 => k_is)
    (case z5 => k_is)
    (case z6 => k_is)
    (case z7 => k_is)
    (case z8 => k_is)
    (case z9 => k_is)
    (case z10 => k_is)
    (case z11 => k_is)
    (case z12 => k_is)
    (case z13 => k_is)
    (case z14 => k_is)
    (case z15 => k_is)
    (case z16 => k_is)
    (case z17 => k_is)
    (case z18 => k_is)
    (case z19 => k_is)
    (case z20 => k_is)
    (case z21 => k_is)
    (case z22 => k_is)
#print axioms PySem.Challenge.cw_countedsteps_k20_exit_lists_holds
