import PyProof.Rows.All
import Wide.All
import OpenK.AllK
import Wide.FinOn
import HandS.Iter
import KE.GoesEnum
import HandS.SortOrd
import HandS.SortRule
import HandS.SortInts
import HandS.TupMul
import HandS.Strs
import HandS.List
import PyProof.StrLawsIn
import KE.DataMinMax
import HandS.DictComp
import HandS.Replace
import HandS.StrMore
import HandS.SortKw
import HandS.ForMost
import HandS.TupAny
import HandS.IsInst
import HandS.Style
import HandS.TupLe
import HandS.Flow
import HandS.Zip
import HandS.Deep
import HandS.Conv
import KE.KDictCopyH
import KE.KIndexOf
import HandS.More
import KE.GoesMore
import KE.GoesZip
import KE.KStateDown
import HandS.WordsExc
import HandS.Defaults
import HandS.Head0
import HandS.Head1
import HandS.Head2
import HandS.HeadEnd
import HandS.HeadHook1
import HandS.HeadHook2
import PySem.Challenge.RW_overturn_k67_queue_step_by_step
set_option Elab.async false
set_option linter.all false
set_option maxRecDepth 100000
set_option maxHeartbeats 4000000
-- OvEn
/-! enumerate over a list or a tuple; sorted over either. -/
namespace Ov
open PySem PySem.Spec PyProof.Rows L2

theorem meets_enum1 {v : Value} {o : Obj} {H : Heap → Prop} (B : Begins v o H) :
    Meets (Builtin.«enumerate.__new__» ⟨[.type "enumerate", v], []⟩) (fun _ R s => H s.heap ∧
      R (.ok (.ret (.ref (s.heap.push o).objs.size))) { s with heap := (s.heap.push o).push { cls := .type "enumerate", data := .fields #[.none, .bool false, .ref s.heap.objs.size, rawInt 0, .none, .none] } }) :=
  .of_wp fun prog w A R s h => by
    obtain ⟨hp, g, d, tk, os⟩ := s
    obtain ⟨h1, h⟩ := h
    have hsub := sub_enumerate
    have q1 : ∀ {A' : Around} {E : Value → Shared → Prop} {Q : Value → Shared → Prop}, Q (.ref hp.objs.size) ⟨hp.push o, g, d, tk, os⟩ → wpAny (model prog w) A' (pyIter v) Q E ⟨hp, g, d, tk, os⟩ :=
      fun q => B.iter prog w _ _ ⟨hp, g, d, tk, os⟩ _ h1 q
    wp_walk using q1
    refine wpAny_stack_any fun st => wpAny_pure ?_
    split
    · rename_i c _ _ _ _ _
      cases (c == Value.type "enumerate")
      · wp_walk using q1
        exact ⟨_, rfl, h⟩
      · wp_walk using q1
        exact ⟨_, rfl, h⟩
    · wp_walk using q1
      exact ⟨_, rfl, h⟩
section
variable {prog : Program} {w : World} {A : Around} {E : Value → Shared → Prop} {s : Shared}
theorem enum_begins1 {v : Value} {o : Obj} {H : Heap → Prop} {Q : Value → Shared → Prop} (B : Begins v o H) (h1 : H s.heap) (hF : checkTypeCall "enumerate" ⟨[v], []⟩ = pure ()) (hG : checkBuiltinCall "enumerate.__new__" ⟨[.type "enumerate", v], []⟩ = pure ())
    (h : ∀ h', IsEnum h' (s.heap.objs.size + 1) s.heap.objs.size 0 .none → h'.get? s.heap.objs.size = some o → h'.objs.size = s.heap.objs.size + 2 →
      (∀ b o, s.heap.get? b = some o → h'.get? b = some o) → Q (.ref (s.heap.objs.size + 1)) { s with heap := h' }) :
    wpAny (model prog w) A (call (.type "enumerate") [v]) Q E s := by
  refine callType_new F.called_enumerate (by decide) hF hG (fun obj => F.args_object_init_2 obj _) F.entry_enumerate_new (meets_enum1 B) ⟨h1, ?_⟩
  have hz : (s.heap.push o).objs.size = s.heap.objs.size + 1 := Heap.size_push ..
  show _ ∧ _
  rw [hz]
  have he : IsEnum ((s.heap.push o).push { cls := .type "enumerate", data := .fields #[.none, .bool false, .ref s.heap.objs.size, rawInt 0, .none, .none] }) (s.heap.objs.size + 1) s.heap.objs.size 0 .none := by
    have := Heap.get?_push_size (s.heap.push o) (o := { cls := .type "enumerate", data := .fields #[.none, .bool false, .ref s.heap.objs.size, rawInt 0, .none, .none] }) rfl
    rw [hz] at this
    exact this
  refine ⟨⟨_, he, rfl⟩, h _ he (Heap.get?_push_of_some _ (Heap.get?_push_size _ B.free)) (by rw [Heap.size_push, hz]) fun b o x => Heap.get?_push_of_some _ (Heap.get?_push_of_some _ x)⟩
end
/-- the tuple at a, each item in a new pair -/
def IteT (K : PySem.W.Frag) (a : Addr) : It :=
  ⟨fun i H => ∃ (xs : List V) (x : V), SqT K H a xs ∧ xs[i]? = some x, fun i H v H' => ∃ T x, v = .ref T ∧ H T = none ∧ H' = upd H T (.tup [.int (i : Nat), x]) ∧ ∀ xs, SqT K H a xs → xs[i]? = some x, fun i H => ∃ xs : List V, SqT K H a xs ∧ xs.length ≤ i⟩
theorem turn_enumT {P : Program} {w : World} {K : PySem.W.Frag} {elts : List Expr} {kk : Nat} {tpos : Pos} (a e it : Addr) (hat : a ≠ it) :
    Turn P w K (.Tuple elts kk tpos) (IteT K a) [e, it] e (fun i h => (∃ old, IsEnum h e it ((i : Nat) : Int) old) ∧ h.IsTupleIter it a i ∧ e ≠ it ∧ e ≠ a) where
  mem := by simp
  obj := fun i h st b hb => by
    obtain ⟨⟨old, he⟩, ⟨o, ho, hc, hd⟩, _⟩ := st
    have e' : b = e ∨ b = it := by simpa using hb
    rcases e' with z | z
    · rw [z]; exact ⟨_, he, fun v q => nomatch q⟩
    · rw [z]; exact ⟨o, ho, fun v q => by rw [hd] at q; cases q⟩
  keep := fun i h h' st k => let ⟨⟨old, he⟩, hi, hne⟩ := st; ⟨⟨old, k e (by simp) _ he⟩, hi.at fun o q => k it (by simp) o q, hne⟩
  item := by
    intro X hP hw hK hc i pins s σ H E I hf st hg
    subst hP hw hK
    obtain ⟨⟨old, he⟩, hit, hne, hea⟩ := st
    obtain ⟨xs, x, hq, hx⟩ := hg
    obtain ⟨its, rv, p, hz⟩ := I.tuple hq
    obtain ⟨u, hu, ru⟩ := rv.get hx
    have hel : e < s.heap.objs.size := Heap.lt_size he
    have hil : it < s.heap.objs.size := by obtain ⟨_, q, _⟩ := hit; exact Heap.lt_size q
    have hlt : i < its.toArray.size := by
      have := (List.getElem?_eq_some_iff.mp hu).1
      simpa using this
    refine wpAny_pyNext_enum_itemD (Draws.tuple (A := X.A.in1) (I.ok.hd hc) it a hat its.toArray) he ⟨hit, (show s.heap.IsTuple a its.toArray from p)⟩ hlt hne (by simp [hne, hea]) fun x' h' tk hP ho hs' hT hsz hk => ?_
    have hx' : x' = u := by
      have hP : its.toArray[i]? = some x' := hP
      rw [List.getElem?_toArray, hu] at hP
      exact (Option.some.inj hP).symm
    subst hx'
    refine ⟨_, rfl, wpAny_letOwnedTupleGo_enum (s := { s with heap := h', toks := tk + 1 }) ho fun h'' he' sb => ?_⟩
    have hT2 : h''.get? s.heap.objs.size = some { cls := .type "tuple", data := .seq #[.int i tk, x'] } := (sb.2 _ (Nat.ne_of_gt hel)).trans hT
    have new : ObjOk X.prog X.w (upd H s.heap.objs.size (.tup [.int (i : Nat), x])) h'' s.heap.objs.size (.tup [.int (i : Nat), x]) :=
      ⟨by show 2 ≤ sizeLine; decide, [.int i tk, x'], .cons ⟨_, rfl⟩ (.cons ru .nil), ⟨_, hT2, rfl, _, rfl⟩⟩
    have I1 : Inv X pins σ (upd H s.heap.objs.size (.tup [.int (i : Nat), x])) { s with heap := h'', toks := tk + 1 } :=
      I.turnedNew (ch := [e, it]) (fun b ob hb q => (sb.2 b (fun z => hb (by simp [z]))).trans (hk b ob (fun z => hb (by simp [z])) (fun z => hb (by simp [z])) q)) hf (Nat.le_refl _) new
    refine ⟨.ref s.heap.objs.size, _, I1, rfl, ⟨_, x, rfl, I.hok.fresh (Nat.le_refl _), rfl, fun ys hy => by rw [I.tuple_inj hy hq]; exact hx⟩, ⟨⟨x', ?_⟩, hs'.1.at fun o q => (sb.2 it (Ne.symm hne)).trans q, hne, hea⟩, fun b hb => ?_⟩
    · have e1 : ((i + 1 : Nat) : Int) = (i : Int) + 1 := by omega
      rw [e1]; exact he'
    · have hb' : b < s.heap.objs.size := by
        have e' : b = e ∨ b = it := by simpa using hb
        rcases e' with z | z
        · rw [z]; exact hel
        · rw [z]; exact hil
      rw [upd_ne (Nat.ne_of_lt hb')]
      exact (hf b hb).1
  done := by
    intro X hP hw hK hc i pins s σ H E I hf st hg
    subst hP hw hK
    obtain ⟨⟨old, he⟩, hit, hne, hea⟩ := st
    obtain ⟨xs, hq, hx⟩ := hg
    obtain ⟨its, rv, p, hz⟩ := I.tuple hq
    obtain ⟨f0, f1, f2, f3, f4, f5⟩ := hf it (by simp)
    have hl := rv.length
    have hh := I.ok.hd hc
    have hT : s.TypeIs (.ref e) "enumerate" := ⟨_, he, rfl⟩
    have hnone : its.toArray[i]? = none := by simp; omega
    unfold pyNext
    refine wpAny_bind (wpAny_attempt (wpAny_callSpecial?_slot (name := Str.ofString "__next__") hT F.slot_enumerate_next
      (wpAny_call_entry F.slot_enumerate_next hT F.entry_enumerate_next ?_ (F.args_enumerate_next_1 _))))
    show wpAny _ _ (field (.ref e) 2 >>= _) _ _ _
    refine wpAny_bind (wpAny_field he rfl (x := .ref it) rfl ?_)
    refine wpAny_bind (wpAny_nextOf_tuple_end hh hit (show s.heap.IsTuple a its.toArray from p) hnone fun h' x he' hx' => ?_)
    obtain ⟨o, ho, hc⟩ := hx'
    refine wpAny_bind (wpAny_isInstance (T := "StopIteration") (b := true) ⟨o, ho, hc⟩ isSubtype_stop ?_)
    exact wpAny_pure ⟨rfl, I.turned (t' := s.toks) (fun b o hb q => he' b o hb q) f0 f1 f3 f4 f5⟩
  self := fun A i s Q E st h => let ⟨⟨_, he⟩, _⟩ := st; wpAny_pyIter_enum he h
def iEnumA (K : PySem.W.Frag) (ta : TA) : TI := fun σ H R => ta σ H fun vs H1 => ∃ a, vs = [.ref a] ∧ ((∃ xs, SqL K H1 a xs ∧ R (Ite K a) H1) ∨ (∃ xs, SqT K H1 a xs ∧ R (IteT K a) H1))
theorem pi_enumA {X : Cx} {e : Expr} {ta : TA} {p pos tpos : Pos} {elts : List Expr} {kk : Nat} (hg : Gl X "enumerate") (hm : X.mg "enumerate" = none) (ha : PA X [e] ta) (hs : starEach [e] X.env = [(false, eval e X.env)] := by rfl) :
    PI X (.Tuple elts kk tpos) (.Call (.Name "enumerate" p) [e] [] pos) (iEnumA X.K ta) := by
  refine ⟨fun pins s σ H R I h => ?_⟩
  refine Call_ (ld_blt I hg hm boot_enumerate (PyProof.Rows.callWith_type1 (thn (ha.run pos pins s σ H _ I h) fun us s1 ⟨vs, H1, I1, r1, q1⟩ => ?_) hs rfl))
  obtain ⟨a, ex, q1⟩ := q1
  subst ex
  cases r1 with
  | cons r rr =>
    cases rr
    cases r
    have fp : ∀ b ∈ [s1.heap.objs.size + 1, s1.heap.objs.size], FpOk X pins H1 b := fun b hb => by
      have e' : b = s1.heap.objs.size + 1 ∨ b = s1.heap.objs.size := by simpa using hb
      have hle : s1.heap.objs.size ≤ b := by
        rcases e' with z | z
        · rw [z]; exact Nat.le_add_right _ _
        · rw [z]; exact Nat.le_refl _
      exact I1.fpOk hle (I1.hok.fresh hle)
    rcases q1 with ⟨xs, hq, q⟩ | ⟨xs, hq, q⟩
    · obtain ⟨its, rv, p', hz⟩ := I1.list hq
      refine call_enumerate_list p'.isList fun h' he hit hsz hk => wpAny_pyIter_enum he ?_
      have I2 : Inv X pins σ H1 { s1 with heap := h' } := I1.kept (t' := s1.toks) hk
      exact ⟨s1.heap.objs.size + 1, [s1.heap.objs.size + 1, s1.heap.objs.size], _, _, H1, rfl, I2, turn_enum a (s1.heap.objs.size + 1) s1.heap.objs.size, ⟨⟨.none, he⟩, hit, Nat.succ_ne_self _⟩, fp, q⟩
    · obtain ⟨its, rv, p', hz⟩ := I1.tuple hq
      obtain ⟨o1, ho1, _⟩ := id p'
      have la : a < s1.heap.objs.size := Heap.lt_size ho1
      refine enum_begins1 (begins_tuple a its.toArray) (show s1.heap.IsTuple a its.toArray from p') (F.typeCall_enumerate_1 _) (F.newCall_enumerate_1 _) fun h' he hit hsz hk => wpAny_pyIter_enum he ?_
      have I2 : Inv X pins σ H1 { s1 with heap := h' } := I1.kept (t' := s1.toks) hk
      exact ⟨s1.heap.objs.size + 1, [s1.heap.objs.size + 1, s1.heap.objs.size], _, _, H1, rfl, I2, turn_enumT a (s1.heap.objs.size + 1) s1.heap.objs.size (Nat.ne_of_lt la), ⟨⟨.none, he⟩, ⟨_, hit, rfl, rfl⟩, Nat.succ_ne_self _, Nat.ne_of_gt (Nat.lt_succ_of_lt la)⟩, fp, q⟩
end Ov

/-! ### sorted, over a list or a tuple -/
namespace Ov
open PySem PySem.Spec PyProof.Rows L2 SrtO
section
variable {prog : Program} {w : World} {A : Around} {E : Value → Shared → Prop} {s : Shared}
theorem collect_tuple {l : Addr} {vs : List Value} {Q : List Value → Shared → Prop} (hl : s.heap.IsTuple l vs.toArray) (hsz : vs.length ≤ sizeLine)
    (h : Q vs { s with heap := (s.heap.push (seqObj "list" #[] 0)).update s.heap.objs.size (Obj.mapSeq (· ++ vs.toArray)) }) :
    wpAny (model prog w) A (collect (.ref l)) Q E s := by
  obtain ⟨o, ho, hc, n, hd⟩ := id hl
  unfold collect
  refine wpAny_bind (wpAny_runValue (codeAny_builtin entry_proto_collect' ?_))
  show wpAny _ _ (do again (.builtin "list.__iadd__" ⟨[← newList [], .ref l], []⟩)) _ _ s
  refine wpAny_bind (wpAny_newList (wpAny_pure ⟨Code.quiet_builtin _ (by decide +kernel), codeAny_builtin entry_list_iadd' ?_⟩))
  show wpAny _ _ (Builtin.List.listExtendWith (.ref s.heap.objs.size) (.ref l) (.ref s.heap.objs.size)) _ _ { s with heap := s.heap.push (seqObj "list" #[] 0) }
  unfold Builtin.List.listExtendWith
  have ho' : (s.heap.push (seqObj "list" #[] 0)).get? l = some o := Heap.get?_push_of_some _ ho
  refine wpAny_bind (wpAny_typeOf (T := "tuple") ⟨o, ho', hc⟩ ?_)
  have ht : (Value.type "tuple" == Value.type "tuple") = true := by rfl
  rw [if_pos (by rw [ht]; simp)]
  refine wpAny_bind (listItems_at ho' hd ?_)
  refine wpAny_bind (listItems_at (xs := #[]) (n := 0) (Heap.get?_push_size _ rfl) rfl ?_)
  rw [if_neg (by simp)]
  refine wpAny_bind (listUpdate_at (xs := #[]) (n := 0) (Heap.get?_push_size _ rfl) rfl ?_ (Nat.zero_le _) (by show (#[] ++ vs.toArray).size ≤ sizeLine + 1; simp only [Array.size_append, List.size_toArray, List.length_nil]; omega))
  refine wpAny_pure ?_
  show wpAny (model prog w) A (do
      let o ← load s.heap.objs.size
      match o.data with
      | .seq xs _ => pure xs.toList
      | _ => unsupported "internal:collect") Q E { s with heap := (s.heap.push (seqObj "list" #[] 0)).update s.heap.objs.size (Obj.mapSeq (· ++ vs.toArray)) }
  refine wpAny_bind (wpAny_load (get?_update_seq (Heap.get?_push_size _ rfl) _) ?_)
  show wpAny _ _ (pure ((#[] : Array Value) ++ vs.toArray).toList) Q E _
  rw [show ((#[] : Array Value) ++ vs.toArray).toList = vs by simp]
  exact wpAny_pure h
/-- sorted(l), l a list or a tuple -/
theorem sorted_ordA {l : Addr} {vs : List Value} {ltv : Value → Value → Bool} {Q : Value → Shared → Prop} (O : Swo ltv) (hl : s.heap.IsList l vs.toArray ∨ s.heap.IsTuple l vs.toArray) (hz : vs.length ≤ sizeLine)
    (hS : 2 ≤ vs.length → ∀ (h₁ : Heap) (a : Addr), h₁.get? a = some (seqObj "list" vs.toArray 0) → (∀ b o, s.heap.get? b = some o → b ≠ a ∧ h₁.get? b = some o) → SortableO prog w A.in1.in1 { s with heap := h₁ } a vs ltv)
    (h : ∀ out : List Value, Srtd ltv out → Stb ltv out vs → Q (.ref (s.heap.objs.size + 1)) { s with heap := sortedAll s.heap vs out.toArray }) :
    wpAny (model prog w) A (call (.builtin "sorted") [.ref l]) Q E s := by
  rcases hl with hl | hl
  · exact sorted_ord O hl hz hS h
  refine Calls.call_function_entry kind_sorted plain_sorted entry_sorted (args_sorted1 _) ?_
  unfold Builtin.«sorted»
  refine wpAny_bind (m := checkCount "sorted" 1 1 _) (wpAny_pure ?_)
  refine wpAny_bind (collect_tuple hl hz ?_)
  refine wpAny_bind (wpAny_newList ?_ hz)
  have hsz : ((s.heap.push (seqObj "list" #[] 0)).update s.heap.objs.size (Obj.mapSeq (· ++ vs.toArray))).objs.size = s.heap.objs.size + 1 := by
    rw [Heap.size_update, size_push']
  have hoL : (((s.heap.push (seqObj "list" #[] 0)).update s.heap.objs.size (Obj.mapSeq (· ++ vs.toArray))).push (seqObj "list" vs.toArray 0)).get? (s.heap.objs.size + 1) = some (seqObj "list" vs.toArray 0) := by
    rw [← hsz]; exact Heap.get?_push_size _ rfl
  have keep : ∀ b o, s.heap.get? b = some o → b ≠ s.heap.objs.size + 1 ∧ (((s.heap.push (seqObj "list" #[] 0)).update s.heap.objs.size (Obj.mapSeq (· ++ vs.toArray))).push (seqObj "list" vs.toArray 0)).get? b = some o := fun b o q => by
    have hlt : b < s.heap.objs.size := Heap.lt_size q
    refine ⟨Nat.ne_of_lt (Nat.lt_succ_of_lt hlt), Heap.get?_push_of_some _ ?_⟩
    rw [Heap.get?_update_ne _ _ _ _ (Nat.ne_of_lt hlt)]
    exact Heap.get?_push_of_some _ q
  show wpAny _ _ _ _ _ { s with heap := ((s.heap.push (seqObj "list" #[] 0)).update s.heap.objs.size (Obj.mapSeq (· ++ vs.toArray))).push (seqObj "list" vs.toArray 0) }
  rw [hsz]
  refine wpAny_bind (wpAny_holding (wpAny_call_entry slot_list_sort ⟨_, hoL, rfl⟩ entry_list_sort (list_sort_ord O hoL hz (fun h2 => hS h2 _ _ hoL keep) fun out hs hb => ⟨_, rfl, ?_⟩) (args_list_sort _)))
  exact wpAny_pure ⟨_, rfl, h out hs hb⟩
end
/-- a before b, or equal, by their first, then by their second -/
def leP (a b : Int × Int) : Prop := a.1 < b.1 ∨ (a.1 = b.1 ∧ a.2 ≤ b.2)
def rSortIA (K : PySem.W.Frag) : List V → Hp → VK → Prop := fun vs H Q => ∃ (a : Addr) (ns : List Int), vs = [V.ref a] ∧ (SqL K H a (ns.map V.int) ∨ SqT K H a (ns.map V.int)) ∧
  ∀ (ns' : List Int) (p : Addr), ns'.Perm ns → ns'.Pairwise (· ≤ ·) → H p = none → Q (.ref p) (upd H p (.lst (ns'.map V.int)))
def rSortPA (K : PySem.W.Frag) : List V → Hp → VK → Prop := fun vs H Q => ∃ (a : Addr) (xs : List V) (ps : List (Int × Int)), vs = [V.ref a] ∧ (SqL K H a xs ∨ SqT K H a xs) ∧ xs.length = ps.length ∧
  (∀ z ∈ xs.zip ps, ∃ t, z.1 = V.ref t ∧ SqT K H t [.int z.2.1, .int z.2.2]) ∧
  ∀ (zs : List (V × (Int × Int))) (p : Addr), zs.Perm (xs.zip ps) → (zs.map (·.2)).Pairwise leP → H p = none → Q (.ref p) (upd H p (.lst (zs.map (·.1))))
section
variable {X : Cx}
theorem seqA {pins : List (Addr × Obj)} {σ : L2.St} {H : Hp} {s : Shared} {a : Addr} {xs : List V} (I : Inv X pins σ H s) (h : SqL X.K H a xs ∨ SqT X.K H a xs) :
    ∃ its : List Value, Vals xs its ∧ (s.heap.IsList a its.toArray ∨ s.heap.IsTuple a its.toArray) ∧ xs.length ≤ sizeLine := by
  rcases h with h | h
  · obtain ⟨its, rv, p, hz⟩ := I.list h
    exact ⟨its, rv, .inl p.isList, hz⟩
  · obtain ⟨its, rv, p, hz⟩ := I.tuple h
    exact ⟨its, rv, .inr (show s.heap.IsTuple a its.toArray from p), hz⟩
theorem cr_sortIA : CallR X (.builtin "sorted") (rSortIA X.K) := by
  intro pins s σ H vs us Q I r h
  obtain ⟨a, ns, rfl, hs, q⟩ := h
  obtain ⟨its, rv, hl, hz⟩ := seqA I hs
  rw [Vals.ref1 r]
  have hi := rv.ints
  refine sorted_ordA SrtO.swo_int hl (by rw [← rv.length]; exact hz) (fun h2 h₁ a' _ _ => SrtO.ints_sortable hi h2) fun out h1 h2 => ?_
  obtain ⟨k1, k2, k3⟩ := SrtO.ints_out hi h1 h2
  obtain ⟨ep, he'⟩ := PyProof.Rows.sortedAll_at s.heap its out.toArray
  have hlen : ((out.map SrtO.iv).map V.int).length ≤ sizeLine := by
    rw [List.length_map, k2.length_eq]
    rw [List.length_map] at hz
    exact hz
  exact ⟨.ref _, upd H (s.heap.objs.size + 1) (.lst ((out.map SrtO.iv).map V.int)), I.laid (t' := s.toks) (fun _ _ => PyProof.Rows.sortedAll_old) (Nat.le_succ _) ⟨hlen, out, ep, vals_of_ints k1, he'⟩, rfl, q _ _ k2 k3 (I.hok.fresh (Nat.le_succ _))⟩
theorem zip_of_map {α β γ : Type} {f : γ → α} {k : γ → β} {ps : List β} : ∀ {its : List γ}, its.length = ps.length → (∀ (i : Nat) (u : γ) (p : β), its[i]? = some u → ps[i]? = some p → k u = p) → (its.map f).zip ps = its.map fun u => (f u, k u) := by
  induction ps with
  | nil =>
    intro its hl h
    cases its with
    | nil => rfl
    | cons => simp at hl
  | cons p ps ih =>
    intro its hl h
    cases its with
    | nil => simp at hl
    | cons u its =>
      have e := h 0 u p rfl rfl
      rw [List.map_cons, List.zip_cons_cons, ih (by simpa using hl) (fun i u p a b => h (i + 1) u p a b), List.map_cons, e]
theorem cr_sortPA : CallR X (.builtin "sorted") (rSortPA X.K) := by
  intro pins s σ H vs us Q I r h
  obtain ⟨a, xs, ps, rfl, hs, hlp, hx, q⟩ := h
  obtain ⟨its, rv, hl, hz⟩ := seqA I hs
  obtain ⟨u, rfl, ru⟩ := vals1 r
  obtain rfl : u = Value.ref a := ru
  have mem : ∀ x ∈ xs, ∃ p, (x, p) ∈ xs.zip ps := fun x hm => by
    obtain ⟨i, hi, rfl⟩ := List.mem_iff_getElem.mp hm
    exact ⟨ps[i]'(by omega), List.mem_iff_getElem.mpr ⟨i, by rw [List.length_zip]; omega, by rw [List.getElem_zip]⟩⟩
  obtain ⟨e1, e2⟩ := refs_back rv fun x m => by
    obtain ⟨p, hp⟩ := mem x m
    obtain ⟨t, e, _⟩ := hx _ hp
    exact ⟨t, e⟩
  have hli : its.length = ps.length := by rw [← rv.length, hlp]
  -- the pair of each
  have un : ∀ t x y x' y', SqT X.K H t [.int x, .int y] → SqT X.K H t [.int x', .int y'] → (x, y) = (x', y') := fun t x y x' y' h1 h2 => by
    have := I.tuple_inj h1 h2
    injection this with a b
    injection b with b _
    injection a with a
    injection b with b
    rw [a, b]
  classical
  let k : Value → Int × Int := fun u => if h : ∃ p : Int × Int, ∃ t, u = .ref t ∧ SqT X.K H t [.int p.1, .int p.2] then h.choose else (0, 0)
  have ks : ∀ u (p : Int × Int) t, u = Value.ref t → SqT X.K H t [.int p.1, .int p.2] → k u = p := fun u p t e hq => by
    have hex : ∃ p : Int × Int, ∃ t, u = .ref t ∧ SqT X.K H t [.int p.1, .int p.2] := ⟨p, t, e, hq⟩
    show (if h : ∃ p : Int × Int, ∃ t, u = .ref t ∧ SqT X.K H t [.int p.1, .int p.2] then h.choose else (0, 0)) = p
    rw [dif_pos hex]
    obtain ⟨t', e', hq'⟩ := hex.choose_spec
    have e3 : t' = t := by
      have := e'.symm.trans e
      exact Value.ref.inj this
    subst e3
    exact un _ _ _ _ _ hq' hq
  have at_ : ∀ (i : Nat) (u : Value) (p : Int × Int), its[i]? = some u → ps[i]? = some p → ∃ t, u = Value.ref t ∧ SqT X.K H t [.int p.1, .int p.2] := fun i u p h1 h2 => by
    have h3 : (backV u, p) ∈ xs.zip ps := by
      rw [e1]
      refine List.mem_iff_getElem?.mpr ⟨i, ?_⟩
      rw [List.getElem?_zip_eq_some, List.getElem?_map, h1]
      exact ⟨rfl, h2⟩
    obtain ⟨t, e, hq⟩ := hx _ h3
    obtain ⟨b, rfl⟩ := e2 u (List.mem_of_getElem? h1)
    have e : V.ref b = V.ref t := e
    obtain rfl : b = t := V.ref.inj e
    exact ⟨b, rfl, hq⟩
  have ez : xs.zip ps = its.map fun u => (backV u, k u) := by
    rw [e1]
    exact zip_of_map hli fun i u p h1 h2 => by
      obtain ⟨t, e, hq⟩ := at_ i u p h1 h2
      exact ks u p t e hq
  have hp : ∀ v ∈ its, Srt.IsPair s.heap v (k v).1 (k v).2 := fun v hv => by
    obtain ⟨i, hi, rfl⟩ := List.mem_iff_getElem.mp hv
    obtain ⟨t, e, hq⟩ := at_ i _ _ (List.getElem?_eq_getElem hi) (List.getElem?_eq_getElem (by omega : i < ps.length))
    rw [ks _ _ t e hq]
    obtain ⟨its2, r2, ⟨o, ho, hc, n, hd⟩, _⟩ := I.tuple hq
    obtain ⟨u1, u2, rfl, ri, rj⟩ := vals2 r2
    obtain ⟨t1, rfl⟩ := ri
    obtain ⟨t2, rfl⟩ := rj
    exact ⟨t, o, t1, t2, n, e, ho, hc, hd⟩
  refine sorted_ordA (swo_lex k) hl (by rw [← rv.length]; exact hz) (fun h2 h₁ a ha kk => ?_) fun out h1 h2 => ?_
  · refine pairs_sortableO (s := { s with heap := h₁ }) (by omega) (fun v hm => (hp v hm).keeps fun b o e _ => (kk b o e).2) fun o e => ?_
    have e' : some o = some (seqObj "list" its.toArray 0) := e.symm.trans ha
    cases e'
    intro c
    exact absurd (Value.type.inj c) (by decide)
  · have h3 : ∀ u ∈ out, ∃ a, u = Value.ref a := fun u hu => e2 u (h2.perm.mem_iff.mp hu)
    obtain ⟨ep, he'⟩ := PyProof.Rows.sortedAll_at s.heap its out.toArray
    refine ⟨.ref _, upd H (s.heap.objs.size + 1) (.lst (out.map backV)), I.laid (t' := s.toks) (fun _ _ => PyProof.Rows.sortedAll_old) (Nat.le_succ _) ⟨?_, out, ep, vals_back h3, he'⟩, rfl, ?_⟩
    · rw [List.length_map, h2.perm.length_eq, ← rv.length]
      exact hz
    · have := q (out.map fun u => (backV u, k u)) (s.heap.objs.size + 1) (by rw [ez]; exact h2.perm.map _) (by
        rw [List.map_map]
        refine List.pairwise_map.mpr (List.Pairwise.imp (R := fun x y => lexB (k y) (k x) = false) (fun {x y} hh => ?_) h1)
        have := lexB_no.mp hh
        show leP (k x) (k y)
        unfold leP
        omega) (I.hok.fresh (Nat.le_succ _))
      rw [List.map_map] at this
      exact this
end
end Ov

/-! ### sum, max, min, over a list or a tuple; a tuple again and again -/
namespace Ov
open PySem PySem.Spec PyProof.Rows L2
section
variable {prog : Program} {w : World} {A : Around} {E : Value → Shared → Prop} {s : Shared} {l : Addr}
theorem iter_intTup {xs : Array (Int × Tok)} {Q : Value → Shared → Prop} (hl : s.heap.IsTuple l (intItems xs))
    (h : ∀ s₂ : Shared, s₂ = { s with heap := s.heap.push { cls := .type "tuple_iterator", data := .fields #[.ref l, .int 0 0] } } →
      (s₂.heap.IsTupleIter s.heap.objs.size l 0 ∧ s₂.heap.IsTuple l (intItems xs)) → (∀ b ∈ [s.heap.objs.size, l], b < s₂.heap.objs.size) → l ≠ s.heap.objs.size → Q (.ref s.heap.objs.size) s₂) :
    wpAny (model prog w) A (pyIter (.ref l)) Q E s := by
  have hlt : l < s.heap.objs.size := by obtain ⟨_, e, _⟩ := hl; exact Heap.lt_size e
  refine wpAny_pyIter_tuple hl (h _ rfl ⟨⟨_, Heap.get?_push_size _ rfl, rfl, rfl⟩, Heap.IsTuple.push hl _⟩ (fun b hb => ?_) (Nat.ne_of_lt hlt))
  show b < (s.heap.push _).objs.size
  rw [Heap.size_push]
  rcases List.mem_cons.mp hb with rfl | hb
  · exact Nat.lt_succ_self _
  · rcases List.mem_cons.mp hb with rfl | hb
    · exact Nat.lt_succ_of_lt hlt
    · cases hb
theorem old_keptT {h' : Heap} {o' : Obj} (hk : ∀ b o, b ∉ [s.heap.objs.size] → (s.heap.push o').get? b = some o → h'.get? b = some o) :
    ∀ b o, s.heap.get? b = some o → h'.get? b = some o := fun b o e => by
  refine hk b o (fun hm => ?_) (Heap.get?_push_of_some _ e)
  rcases List.mem_cons.mp hm with e1 | hm
  · exact absurd (e1 ▸ Heap.lt_size e) (Nat.lt_irrefl _)
  · cases hm
variable {its : List Value} {ns : List Int} {Q : Value → Shared → Prop}
theorem sum_rawT (hh : A.handled = none) (hl : s.heap.IsTuple l its.toArray) (hi : IntsAre its ns)
    (h : ∀ h' tk t', (∀ b o, s.heap.get? b = some o → h'.get? b = some o) → Q (.int ns.sum t') { s with heap := h', toks := tk }) : wpAny (model prog w) A (call (.builtin "sum") [.ref l]) Q E s := by
  obtain ⟨xs, e⟩ := hi.allInts.items
  have hn : numsOf (intItems xs).toList = ns := by rw [← e]; exact hi.numsOf
  rw [nums_intItems] at hn
  rw [e] at hl
  refine call_sum_walkG (iter_intTup hl fun s₂ e st hfp hlI => ?_)
  subst e
  refine ⟨_, _, _, _, _, _, numAt xs, rfl, Walks.tuple (A := A.in1) hh _ l hlI (intItems xs), st, hfp, (fun _ _ => intItems_at), fun h' tk t' hk => ?_⟩
  have := h h' tk t' (old_keptT hk)
  have e2 : preSum (numAt xs) (intItems xs).size = ns.sum := by
    rw [show (intItems xs).size = xs.size by simp [intItems], preSum_eq, List.take_of_length_le (by simp), hn]
  rw [e2]
  exact this
theorem max_rawT (hh : A.handled = none) (hl : s.heap.IsTuple l its.toArray) (hi : IntsAre its ns) (hne : 0 < ns.length)
    (h : ∀ h' tk M t', (∀ b o, s.heap.get? b = some o → h'.get? b = some o) → M ∈ ns → (∀ a, a ∈ ns → a ≤ M) → Q (.int M t') { s with heap := h', toks := tk }) : wpAny (model prog w) A (call (.builtin "max") [.ref l]) Q E s := by
  obtain ⟨xs, e⟩ := hi.allInts.items
  have hn : numsOf (intItems xs).toList = ns := by rw [← e]; exact hi.numsOf
  rw [nums_intItems] at hn
  subst hn
  rw [e] at hl
  have hsz : 0 < xs.size := by simpa using hne
  refine call_max_walk (iter_intTup hl fun s₂ e st hfp hlI => ?_)
  subst e
  refine ⟨_, _, _, _, _, _, _, rfl, Walks.tuple (A := A.in1) hh _ l hlI (intItems xs), st, hfp, by simpa [intItems] using hsz, CmpOf.ints_gt (numAt xs) (fun _ _ => intItems_at), fun v h' tk hP hk => ?_⟩
  have hv : (intItems xs)[argBest (fun i j => decide (numAt xs i > numAt xs j)) (xs.size - 1)]? = some v := by simpa [intItems] using hP
  obtain ⟨t, rfl⟩ := intItems_at hv
  obtain ⟨h1, h2⟩ := argBest_gt (numAt xs) (xs.size - 1)
  refine h h' tk _ t (old_keptT hk) ?_ fun a ha => ?_
  · rw [numAt_eq]; exact PySem.getD_mem (by rw [List.length_map, Array.length_toList]; omega)
  · obtain ⟨j, hj, rfl⟩ := mem_getD ha
    rw [List.length_map, Array.length_toList] at hj
    rw [← numAt_eq]; exact h2 j (by omega)
theorem min_rawT (hh : A.handled = none) (hl : s.heap.IsTuple l its.toArray) (hi : IntsAre its ns) (hne : 0 < ns.length)
    (h : ∀ h' tk M t', (∀ b o, s.heap.get? b = some o → h'.get? b = some o) → M ∈ ns → (∀ a, a ∈ ns → M ≤ a) → Q (.int M t') { s with heap := h', toks := tk }) : wpAny (model prog w) A (call (.builtin "min") [.ref l]) Q E s := by
  obtain ⟨xs, e⟩ := hi.allInts.items
  have hn : numsOf (intItems xs).toList = ns := by rw [← e]; exact hi.numsOf
  rw [nums_intItems] at hn
  subst hn
  rw [e] at hl
  have hsz : 0 < xs.size := by simpa using hne
  refine call_min_walk (iter_intTup hl fun s₂ e st hfp hlI => ?_)
  subst e
  refine ⟨_, _, _, _, _, _, _, rfl, Walks.tuple (A := A.in1) hh _ l hlI (intItems xs), st, hfp, by simpa [intItems] using hsz, CmpOf.ints_lt (numAt xs) (fun _ _ => intItems_at), fun v h' tk hP hk => ?_⟩
  have hv : (intItems xs)[argBest (fun i j => decide (numAt xs i < numAt xs j)) (xs.size - 1)]? = some v := by simpa [intItems] using hP
  obtain ⟨t, rfl⟩ := intItems_at hv
  obtain ⟨h1, h2⟩ := argBest_lt (numAt xs) (xs.size - 1)
  refine h h' tk _ t (old_keptT hk) ?_ fun a ha => ?_
  · rw [numAt_eq]; exact PySem.getD_mem (by rw [List.length_map, Array.length_toList]; omega)
  · obtain ⟨j, hj, rfl⟩ := mem_getD ha
    rw [List.length_map, Array.length_toList] at hj
    rw [← numAt_eq]; exact h2 j (by omega)
end
def rSumA (K : PySem.W.Frag) : List V → Hp → VK → Prop := fun vs H Q => ∃ (a : Addr) (ns : List Int), vs = [V.ref a] ∧ (SqL K H a (ns.map V.int) ∨ SqT K H a (ns.map V.int)) ∧ Q (.int ns.sum) H
def rMaxA (K : PySem.W.Frag) : List V → Hp → VK → Prop := fun vs H Q => ∃ (a : Addr) (ns : List Int), vs = [V.ref a] ∧ (SqL K H a (ns.map V.int) ∨ SqT K H a (ns.map V.int)) ∧ 0 < ns.length ∧ ∀ m, m ∈ ns → (∀ y, y ∈ ns → y ≤ m) → Q (.int m) H
def rMinA (K : PySem.W.Frag) : List V → Hp → VK → Prop := fun vs H Q => ∃ (a : Addr) (ns : List Int), vs = [V.ref a] ∧ (SqL K H a (ns.map V.int) ∨ SqT K H a (ns.map V.int)) ∧ 0 < ns.length ∧ ∀ m, m ∈ ns → (∀ y, y ∈ ns → m ≤ y) → Q (.int m) H
section
variable {X : Cx}
theorem cr_sumA (hc : X.calm = true) : CallR X (.builtin "sum") (rSumA X.K) := by
  intro pins s σ H vs us Q I r h
  obtain ⟨a, ns, rfl, hs, q⟩ := h
  obtain ⟨its, rv, hl, hz⟩ := seqA I hs
  rw [Vals.ref1 r]
  rcases hl with hl | hl
  · exact sum_raw (I.ok.hd hc) hl rv.ints fun h' tk t' hk => ⟨.int _, H, I.kept hk, ⟨_, rfl⟩, q⟩
  · exact sum_rawT (I.ok.hd hc) hl rv.ints fun h' tk t' hk => ⟨.int _, H, I.kept hk, ⟨_, rfl⟩, q⟩
theorem cr_maxA (hc : X.calm = true) : CallR X (.builtin "max") (rMaxA X.K) := by
  intro pins s σ H vs us Q I r h
  obtain ⟨a, ns, rfl, hs, hne, q⟩ := h
  obtain ⟨its, rv, hl, hz⟩ := seqA I hs
  rw [Vals.ref1 r]
  rcases hl with hl | hl
  · exact max_raw (I.ok.hd hc) hl rv.ints hne fun h' tk m t' hk h1 h2 => ⟨.int _, H, I.kept hk, ⟨_, rfl⟩, q m h1 h2⟩
  · exact max_rawT (I.ok.hd hc) hl rv.ints hne fun h' tk m t' hk h1 h2 => ⟨.int _, H, I.kept hk, ⟨_, rfl⟩, q m h1 h2⟩
theorem cr_minA (hc : X.calm = true) : CallR X (.builtin "min") (rMinA X.K) := by
  intro pins s σ H vs us Q I r h
  obtain ⟨a, ns, rfl, hs, hne, q⟩ := h
  obtain ⟨its, rv, hl, hz⟩ := seqA I hs
  rw [Vals.ref1 r]
  rcases hl with hl | hl
  · exact min_raw (I.ok.hd hc) hl rv.ints hne fun h' tk m t' hk h1 h2 => ⟨.int _, H, I.kept hk, ⟨_, rfl⟩, q m h1 h2⟩
  · exact min_rawT (I.ok.hd hc) hl rv.ints hne fun h' tk m t' hk h1 h2 => ⟨.int _, H, I.kept hk, ⟨_, rfl⟩, q m h1 h2⟩
end
end Ov

namespace Ov
open PySem PySem.Spec PyProof.Rows L2
open AutoSeq1 (wpAny_loadPart')
theorem tuple_mulE (l : Addr) (items : Array Value) (n : Nat) (dd : Option Addr) (sl : Array (Option Value)) (x : Int) (u : Tok) (c0 : (decide (x < -(2 ^ 63)) || decide (x ≥ 2 ^ 63)) = false) (c1 : (items.isEmpty || x == 1) = false) (c2 : (decide (x ≤ 0) || items.isEmpty) = true) :
    Meets (Builtin.«tuple.__mul__» ⟨[.ref l, .int x u], []⟩) (fun _ R s => s.heap.get? l = some { cls := .type "tuple", dict := dd, data := .seq items n, slots := sl } ∧
      R (.ok (.ret (Value.ref s.heap.objs.size))) { s with heap := s.heap.push { cls := Value.type "tuple", data := Data.seq #[] }, toks := s.toks }) :=
  .of_wp fun prog w A R s h => by
    obtain ⟨hp, g, d, tk, os⟩ := s
    obtain ⟨hl, h⟩ := h
    have f1 := AutoSeq1.idx_int
    wp_walk using wpAny_loadPart' hl
    repeat (first
      | (refine wpAny_ite_false (decide_eq_false (by rw [c0]; exact Bool.false_ne_true)) ?_; wp_walk using wpAny_loadPart' hl)
      | (refine wpAny_ite_false (decide_eq_false (by rw [c1]; exact Bool.false_ne_true)) ?_; wp_walk using wpAny_loadPart' hl)
      | (refine wpAny_ite_true (decide_eq_true c2) ?_; wp_walk using wpAny_loadPart' hl))
    exact ⟨_, rfl, h⟩
theorem tuple_mulS (l : Addr) (items : Array Value) (n : Nat) (dd : Option Addr) (sl : Array (Option Value)) (x : Int) (u : Tok) (c0 : (decide (x < -(2 ^ 63)) || decide (x ≥ 2 ^ 63)) = false) (c1 : (items.isEmpty || x == 1) = true) :
    Meets (Builtin.«tuple.__mul__» ⟨[.ref l, .int x u], []⟩) (fun _ R s => s.heap.get? l = some { cls := .type "tuple", dict := dd, data := .seq items n, slots := sl } ∧
      R (.ok (.ret (Value.ref l))) s) :=
  .of_wp fun prog w A R s h => by
    obtain ⟨hp, g, d, tk, os⟩ := s
    obtain ⟨hl, h⟩ := h
    have f1 := AutoSeq1.idx_int
    wp_walk using wpAny_loadPart' hl
    repeat (first
      | (refine wpAny_ite_false (decide_eq_false (by rw [c0]; exact Bool.false_ne_true)) ?_; wp_walk using wpAny_loadPart' hl)
      | (refine wpAny_ite_true (decide_eq_true c1) ?_; wp_walk using wpAny_loadPart' hl))
    exact ⟨_, rfl, h⟩
def rRepA (K : PySem.W.Frag) : R2 := fun x y H Q => ∃ l k xs, x = .ref l ∧ y = .int k ∧ SqT K H l xs ∧ xs ≠ [] ∧ -1000 ≤ k ∧ k ≤ 1000 ∧ xs.length ≤ 1000 ∧ (k = 1 → Q x H) ∧ (k ≠ 1 → ∀ p, H p = none → Q (.ref p) (upd H p (.tup (List.replicate k.toNat xs).flatten)))
theorem op_repA {X : Cx} : OpR X (binaryOp .Mult) (rRepA X.K) := by
  intro pins s σ H x y v u Q I rx ry h
  obtain ⟨l, k, xs, rfl, rfl, hT, hne, h1, h2, hz, q1, q2⟩ := h
  by_cases h3 : 2 ≤ k
  · exact op_repT pins s σ H _ _ v u Q I rx ry ⟨l, k, xs, rfl, rfl, hT, hne, h3, h2, hz, q2 (by omega)⟩
  cases rx
  obtain ⟨t, rfl⟩ := ry
  obtain ⟨its, r, ⟨⟨cls, dd, data, sl⟩, ho, hc, n, hd⟩, hs⟩ := I.tuple hT
  simp only at hc hd
  subst hc hd
  have hle : its.length = xs.length := r.length.symm
  have hn : its ≠ [] := fun e => hne (by
    rw [e] at hle
    exact List.eq_nil_of_length_eq_zero hle.symm)
  have hi : its.toArray.isEmpty = false := by
    cases its with
    | nil => exact absurd rfl hn
    | cons a b => rfl
  have c0 : (decide (k < -(2 ^ 63)) || decide (k ≥ 2 ^ 63)) = false := by
    rw [decide_eq_false (by omega), decide_eq_false (by omega)] <;> rfl
  by_cases h4 : k = 1
  · have c1 : (its.toArray.isEmpty || k == 1) = true := by
      rw [h4]
      simp
    refine wpAny_binaryOp_repeat_ref (T := "tuple") (U := "int") (by decide) ⟨_, ho, rfl⟩ (fun s' => typeIs_int s' k t) noFill_tuple_mul F.fills_int_mul F.slot_int_rmul repeat_tuple F.slot_int_index.lookup
      (call_meets F.slot_int_rmul (typeIs_int s k t) F.entry_int_rmul (F.args_int_rmul_2 _ _) (int_rmul_tuple k t l its.toArray n dd sl)
        ⟨ho, rfl, ⟨_, ho, rfl⟩, call_meets F.slot_tuple_mul ⟨_, ho, rfl⟩ F.entry_tuple_mul (F.args_tuple_mul_2 _ _) (tuple_mulS l its.toArray n dd sl k t c0 c1) ⟨ho, ?_⟩⟩)
    exact ⟨.ref l, H, I, rfl, q1 h4⟩
  · have c1 : (its.toArray.isEmpty || k == 1) = false := by
      rw [hi, Bool.false_or]
      exact beq_eq_false_iff_ne.mpr h4
    have c2 : (decide (k ≤ 0) || its.toArray.isEmpty) = true := by
      rw [decide_eq_true (by omega), Bool.true_or]
    refine wpAny_binaryOp_repeat_ref (T := "tuple") (U := "int") (by decide) ⟨_, ho, rfl⟩ (fun s' => typeIs_int s' k t) noFill_tuple_mul F.fills_int_mul F.slot_int_rmul repeat_tuple F.slot_int_index.lookup
      (call_meets F.slot_int_rmul (typeIs_int s k t) F.entry_int_rmul (F.args_int_rmul_2 _ _) (int_rmul_tuple k t l its.toArray n dd sl)
        ⟨ho, rfl, ⟨_, ho, rfl⟩, call_meets F.slot_tuple_mul ⟨_, ho, rfl⟩ F.entry_tuple_mul (F.args_tuple_mul_2 _ _) (tuple_mulE l its.toArray n dd sl k t c0 c1 c2) ⟨ho, ?_⟩⟩)
    have e : (List.replicate k.toNat xs).flatten = [] := by
      rw [show k.toNat = 0 by omega]
      rfl
    have q := q2 h4
    rw [e] at q
    refine ⟨.ref s.heap.objs.size, _, I.laid (t' := s.toks) (o := .tup []) (fun b ob q => Heap.get?_push_of_some _ q) (Nat.le_refl _) ?_, rfl, q _ (I.hok.fresh (Nat.le_refl _))⟩
    exact ⟨Nat.zero_le _, [], .nil, IsTup.new _ _⟩
end Ov

namespace Ov
open PySem PySem.Spec PyProof.Rows L2
def rGetL (K : PySem.W.Frag) : V → V → Hp → VK → Prop := fun x y H Q => ∃ p xs i v, x = .ref p ∧ y = .int i ∧ 0 ≤ i ∧ SqL K H p xs ∧ atI xs i = some v ∧ Q v H
theorem get_list {X : Cx} : PGet X (rGetL X.K) := by
  intro pins s σ H x y v u Q I rx ry h
  obtain ⟨p, xs, i, z, rfl, rfl, h0, hq, he, q⟩ := h
  cases rx
  obtain ⟨t, rfl⟩ := ry
  obtain ⟨its, r, pl, hz⟩ := I.list hq
  obtain ⟨j, h1, h2, h3, h4, h5⟩ := atI_get he
  obtain ⟨w, ew, rw'⟩ := r.get h2
  have hl := r.length
  have hn := line63
  have hj : i.toNat = j := by
    rw [seqIndex_of h0 h5] at h1
    exact Option.some.inj h1
  exact wpAny_getItem_list pl.isList h0 (by omega) (by rw [hj]; simpa using ew) ⟨z, H, I, rw', q⟩
/-- t.index(x) over flat items -/
theorem mt_tupIx {X : Cx} : MtR X "tuple.index" (fun x xs H Q => ∃ (a : Addr) (ys : List V) (y : V) (j : Nat) (z : V), x = V.ref a ∧ xs = [y] ∧ SqT X.K H a ys ∧ flatV y = true ∧ ys.all flatV = true ∧ ys[j]? = some z ∧ eqV z y = true ∧
  (∀ (m : Nat) (z' : V), m < j → ys[m]? = some z' → eqV z' y = false) ∧ Q (.int (j : Nat)) H) := by
  intro pins s σ H x xs v us Q I rx rxs h
  obtain ⟨a, ys, y, j, z, rfl, rfl, hs, fy, fys, hz, hzj, hno, q⟩ := h
  cases rx
  cases rxs with
  | cons ry rt =>
    rename_i uy ut
    cases rt
    obtain ⟨its, rv, pl, hlen⟩ := I.tuple hs
    obtain ⟨⟨cls, dd, data, sl⟩, ho, hc, n, hd⟩ := pl
    simp only at hc hd
    subst hc hd
    obtain ⟨u, hu, ru⟩ := rv.get hz
    obtain ⟨hjl, hje⟩ := List.getElem?_eq_some_iff.mp hu
    have hvl := rv.length
    have hj : j < its.toArray.size := by simpa using hjl
    refine call_meets PySem.F.slot_tuple_index ⟨_, ho, rfl⟩ PySem.F.entry_tuple_index (PySem.F.args_tuple_index_2 _ _)
      (TI.tuple_indexAt a its.toArray n dd sl uy (eqU y) j hj ?_ ?_) ⟨ho, fun u' hu' => mem_eqAt ry fy rv fys u' (by simpa using hu'), ?_⟩
    · have e1 : its.toArray[j] = u := by simpa using hje
      rw [e1, eqU_of ru (flat_at fys hz)]
      exact hzj
    · intro m hm hmj
      have hml : m < its.length := by simpa using hm
      have hmy : m < ys.length := by omega
      have hy' : ys[m]? = some ys[m] := List.getElem?_eq_getElem hmy
      obtain ⟨u2, hu2, ru2⟩ := rv.get hy'
      obtain ⟨_, hme⟩ := List.getElem?_eq_some_iff.mp hu2
      have e1 : its.toArray[m] = u2 := by simpa using hme
      rw [e1, eqU_of ru2 (flat_at fys hy')]
      exact hno m _ hmj hy'
    · exact ⟨.int (j : Nat), H, I.tok _, ⟨_, rfl⟩, q⟩
end Ov

namespace Ov
open PySem PySem.Spec PyProof.Rows L2
open PySem.StrLaws PySem.Builtin.Str
theorem occ_count (x : Str) (c : Nat) : ∀ (m a : Nat) (st : Array Nat × Nat), a + m = x.length + 1 → st.snd ≤ a → st.fst.size ≤ a →
    (forIn (List.range' a m) st (occBody x ⟨#[c]⟩ x.length (x.length + 1))).run.fst.size = st.fst.size + (x.cps.toList.drop a).count c
  | 0, a, st, h, _, _ => by
    have : x.cps.toList.drop a = [] := List.drop_eq_nil_of_le (by simp [Str.length] at h ⊢; omega)
    rw [this]
    rfl
  | m + 1, a, st, h, h1, h2 => by
    rw [List.range'_succ, List.forIn_cons]
    unfold occBody
    split
    · rename_i hc
      have hx := (subAt_one x c a).mp ⟨hc.1.2, hc.2⟩
      obtain ⟨hlt, he⟩ := List.getElem?_eq_some_iff.mp hx
      refine (occ_count x c m (a + 1) (st.fst.push a, a + 1) (by omega) (Nat.le_refl _) (by simp; exact h2)).trans ?_
      rw [List.drop_eq_getElem_cons hlt, he, List.count_cons_self]
      simp
      omega
    · rename_i hc
      refine (occ_count x c m (a + 1) (st.fst, st.snd) (by omega) (by show st.snd ≤ a + 1; omega) (by show st.fst.size ≤ a + 1; omega)).trans ?_
      by_cases hlt : a < x.cps.toList.length
      · rw [List.drop_eq_getElem_cons hlt, List.count_cons_of_ne]
        intro e
        have hx : x.cps.toList[a]? = some c := by rw [List.getElem?_eq_getElem hlt, e]
        have := (subAt_one x c a).mpr hx
        exact hc ⟨⟨⟨by omega, h1⟩, this.1⟩, this.2⟩
      · rw [List.drop_eq_nil_of_le (by omega), List.drop_eq_nil_of_le (by omega)]
theorem count_one (x : Str) (c : Nat) : Txt.count x ⟨#[c]⟩ = (x.cps.toList.count c : Nat) := by
  unfold Txt.count
  rw [occ_eq]
  have := occ_count x c (x.length + 1) 0 (#[], 0) (by omega) (Nat.le_refl _) (Nat.le_refl _)
  rw [Array.length_toList]
  rw [show x.length + 1 - 0 = x.length + 1 by omega, this]
  simp
/-- a text, n times -/
def strRep (a : Str) (n : Nat) : Str := ⟨(List.replicate n a.cps).foldl (· ++ ·) #[]⟩
theorem foldl_size : ∀ (l : List (Array Nat)) (b : Array Nat), (l.foldl (· ++ ·) b).size = b.size + (l.map Array.size).sum
  | [], b => rfl
  | a :: l, b => by
    rw [List.foldl_cons, foldl_size l, Array.size_append, List.map_cons, List.sum_cons]
    omega
theorem strRep_len (a : Str) (n : Nat) : (strRep a n).length = n * a.length := by
  show ((List.replicate n a.cps).foldl (· ++ ·) #[]).size = _
  rw [foldl_size, List.map_replicate, List.sum_replicate_nat]
  simp [Str.length]
theorem op_mulS {X : Cx} : OpR X (binaryOp .Mult) (fun x y H Q => ∃ a k, x = .str a ∧ y = .int k ∧ 0 ≤ k ∧ k ≤ 1000 ∧ a.length ≤ 1000 ∧ Q (.str (strRep a k.toNat)) H) := by
  intro pins s σ H x y v u Q I rx ry h
  obtain ⟨a, k, rfl, rfl, h0, h1, h2, q⟩ := h
  obtain ⟨t, rfl⟩ := rx
  obtain ⟨t2, rfl⟩ := ry
  have hk : k.toNat * a.length ≤ 1000 * 1000 := Nat.mul_le_mul (by omega) h2
  have c0 : (decide (k < -(2 ^ 63)) || decide (k ≥ 2 ^ 63)) = false := by
    rw [decide_eq_false (by omega), decide_eq_false (by omega)] <;> rfl
  refine PySem.P.mul_str c0 (fun h3 _ => ?_) (fun _ _ => ?_) ?_
  · have : (a.length : Int) ≤ (2 ^ 63 - 1) / k := (Int.le_ediv_iff_mul_le (by omega)).mpr (by
      have h5 : (a.length : Int) * k ≤ 1000 * 1000 := Int.mul_le_mul (by omega) h1 h0 (by decide)
      omega)
    omega
  · show decide (_ > sizeLine) = false
    refine decide_eq_false ?_
    rw [Nat.mul_comm]
    show ¬ _ > 16777216
    omega
  · split
    · rename_i h3
      have e : strRep a k.toNat = Str.empty := by
        rw [show k.toNat = 0 by omega]
        rfl
      rw [e] at q
      exact ⟨Nat.zero_le _, .str Str.empty, H, I.tok _, ⟨_, rfl⟩, q⟩
    · split
      · rename_i h3 h4
        have e : strRep a k.toNat = a := by
          rw [Bool.or_eq_true, beq_iff_eq, beq_iff_eq] at h4
          rcases h4 with h4 | h4
          · subst h4
            show (⟨#[] ++ a.cps⟩ : Str) = a
            rw [Array.empty_append]
          · have : a = ⟨#[]⟩ := by
              obtain ⟨⟨l⟩⟩ := a
              cases l with
              | nil => rfl
              | cons _ _ => cases h4
            have h5 := strRep_len a k.toNat
            rw [h4, Nat.mul_zero] at h5
            rw [this]
            rw [this] at h5
            generalize strRep ⟨#[]⟩ k.toNat = z at h5
            obtain ⟨⟨l⟩⟩ := z
            cases l with
            | nil => rfl
            | cons _ _ => cases h5
        rw [e] at q
        exact ⟨.str a, H, I, ⟨_, rfl⟩, q⟩
      · have hl := strRep_len a k.toNat
        refine ⟨?_, .str (strRep a k.toNat), H, I.tok _, ⟨_, rfl⟩, q⟩
        show (strRep a k.toNat).length ≤ 16777216
        omega
end Ov
-- OvSt
/-! sorted over lists and tuples of triples of ints. -/
namespace Ov
open PySem PySem.Spec PyProof.Rows L2 Srt SrtO
abbrev T3 := Int × Int × Int
/-- v is a tuple of three ints in the heap -/
def IsTrip (h : Heap) (v : Value) (p : T3) : Prop := ∃ a o t u w n, v = .ref a ∧ h.get? a = some o ∧ o.cls = .type "tuple" ∧ o.data = .seq #[.int p.1 t, .int p.2.1 u, .int p.2.2 w] n
theorem IsTrip.keeps {h h' : Heap} {v : Value} {p : T3} (q : IsTrip h v p) (k : ∀ b o, h.get? b = some o → o.cls = .type "tuple" → h'.get? b = some o) : IsTrip h' v p := by
  obtain ⟨a, o, t, u, w, n, e, ho, hc, hd⟩ := q
  exact ⟨a, o, t, u, w, n, e, k _ _ ho hc, hc, hd⟩
theorem trip_firsts {h : Heap} : ∀ {vs : List Value}, (∀ v ∈ vs, ∃ p, IsTrip h v p) → ∃ fs : List Value, PySem.W.KatTups h vs fs ∧ fs.length = vs.length ∧ ∀ f ∈ fs, ∃ x t, f = Value.int x t
  | [], _ => ⟨[], PySem.W.KatTups.nil, rfl, fun _ hm => by simp at hm⟩
  | v :: vs, hp => by
    obtain ⟨fs, h1, h2, h3⟩ := trip_firsts (vs := vs) fun v' hm => hp v' (List.mem_cons_of_mem _ hm)
    obtain ⟨p, a, o, t, u, w, n, e, ho, hc, hd⟩ := hp v (List.mem_cons_self ..)
    subst e
    refine ⟨.int p.1 t :: fs, PySem.W.KatTups.cons ho hc hd rfl h1, by rw [List.length_cons, List.length_cons, h2], fun f hm => ?_⟩
    rcases List.mem_cons.mp hm with rfl | hm
    · exact ⟨p.1, t, rfl⟩
    · exact h3 f hm
def lexT (p q : T3) : Bool := if p.1 = q.1 then (if p.2.1 = q.2.1 then decide (p.2.2 < q.2.2) else decide (p.2.1 < q.2.1)) else decide (p.1 < q.1)
theorem lexT_iff {p q : T3} : lexT p q = true ↔ p.1 < q.1 ∨ (p.1 = q.1 ∧ (p.2.1 < q.2.1 ∨ (p.2.1 = q.2.1 ∧ p.2.2 < q.2.2))) := by
  unfold lexT
  by_cases e : p.1 = q.1
  · rw [if_pos e]
    by_cases e2 : p.2.1 = q.2.1
    · rw [if_pos e2, decide_eq_true_eq]
      omega
    · rw [if_neg e2, decide_eq_true_eq]
      omega
  · rw [if_neg e, decide_eq_true_eq]
    omega
theorem lexT_no {p q : T3} : lexT p q = false ↔ ¬ (p.1 < q.1 ∨ (p.1 = q.1 ∧ (p.2.1 < q.2.1 ∨ (p.2.1 = q.2.1 ∧ p.2.2 < q.2.2)))) := by
  rw [← lexT_iff]
  cases lexT p q <;> simp
theorem swo_trip (k : Value → T3) : Swo fun v u => lexT (k v) (k u) := by
  refine ⟨fun x y h => ?_, fun x y z h1 h2 => ?_⟩
  · have a := lexT_iff.mp h
    refine lexT_no.mpr ?_
    omega
  · have a := lexT_no.mp h1
    have b := lexT_no.mp h2
    refine lexT_no.mpr ?_
    omega
section
variable {prog : Program} {w : World} {A : Around} {E : Value → Shared → Prop} {s : Shared}
theorem trip_cmp {vs : List Value} {k : Value → T3} (hp : ∀ v ∈ vs, IsTrip s.heap v (k v)) : Cmp prog w A s (tuples' true) (fun p => p.1 ∈ vs) (lt2 fun v u => lexT (k v) (k u)) := by
  intro p q hm hm'
  have h1 := hp _ hm
  have h2 := hp _ hm'
  show wpAny (model prog w) A (keyLt' (tuples' true) p.1 q.1) (fun r s' => s' = s ∧ r = lexT (k p.1) (k q.1)) (fun _ _ => False) s
  unfold lexT
  generalize k p.1 = P at h1 ⊢
  generalize k q.1 = P' at h2 ⊢
  obtain ⟨x, y, z⟩ := P
  obtain ⟨x', y', z'⟩ := P'
  obtain ⟨a, o, t, u, c, n, e, ho, hc, hd⟩ := h1
  obtain ⟨a', o', t', u', c', n', e', ho', hc', hd'⟩ := h2
  rw [e, e']
  refine PySem.W.kat_lt ho hd ho' hd' ?_
  show PySem.W.KatLex prog w A true (decide (3 < 3)) _ [(.int x t, .int x' t'), (.int y u, .int y' u'), (.int z c, .int z' c')] 0 s
  refine PySem.W.kat_cons (SeqAt.EqAt.int_int x t x' t' prog w _ _ ?_)
  refine PySem.W.kat_go (fun e1 => ?_) (fun e1 => ?_)
  · have ex : x = x' := by simpa using e1
    refine PySem.W.kat_yes (PySem.W.kat_cons (SeqAt.EqAt.int_int y u y' u' prog w _ _ ?_))
    refine PySem.W.kat_go (fun e2 => ?_) (fun e2 => ?_)
    · have ey : y = y' := by simpa using e2
      refine PySem.W.kat_yes (PySem.W.kat_cons (SeqAt.EqAt.int_int z c z' c' prog w _ _ ?_))
      refine PySem.W.kat_go (fun e3 => ?_) (fun e3 => ?_)
      · have ez : z = z' := by simpa using e3
        have e4 : (if x = x' then (if y = y' then decide (z < z') else decide (y < y')) else decide (x < x')) = false := by
          rw [if_pos ex, if_pos ey, ez]
          exact decide_eq_false (Int.lt_irrefl _)
        exact PySem.W.kat_yes (PySem.W.kat_nil ⟨rfl, e4.symm⟩)
      · have e4 : (if x = x' then (if y = y' then decide (z < z') else decide (y < y')) else decide (x < x')) = decide (z < z') := by rw [if_pos ex, if_pos ey]
        refine PySem.W.kat_no (PySem.W.kat_one _ _ (PyProof.Rows.lt_int ?_))
        exact (show s = s ∧ decide (z < z') = _ from ⟨rfl, e4.symm⟩)
    · have ey : ¬ y = y' := by simpa using e2
      have e4 : (if x = x' then (if y = y' then decide (z < z') else decide (y < y')) else decide (x < x')) = decide (y < y') := by rw [if_pos ex, if_neg ey]
      refine PySem.W.kat_no (PySem.W.kat_one _ _ (PyProof.Rows.lt_int ?_))
      exact (show s = s ∧ decide (y < y') = _ from ⟨rfl, e4.symm⟩)
  · have ex : ¬ x = x' := by simpa using e1
    have e4 : (if x = x' then (if y = y' then decide (z < z') else decide (y < y')) else decide (x < x')) = decide (x < x') := if_neg ex
    exact PySem.W.kat_no (oneLt_int ⟨rfl, e4.symm⟩)
theorem trips_sortable {a : Addr} {vs : List Value} {k : Value → T3} (h0 : 0 < vs.length) (hp : ∀ v ∈ vs, IsTrip s.heap v (k v)) (ha : ∀ o, s.heap.get? a = some o → o.cls ≠ .type "tuple") : SortableO prog w A s a vs fun v u => lexT (k v) (k u) := by
  intro h' keep
  have hp' : ∀ v ∈ vs, IsTrip h' v (k v) := fun v hm => (hp v hm).keeps fun b o e c => keep b o (fun z => by subst z; exact ha o e c) e
  obtain ⟨fs, h1, h2, h3⟩ := trip_firsts fun v hm => ⟨_, hp' v hm⟩
  refine ⟨tuples' true, fun Q E hq => ?_, trip_cmp hp'⟩
  refine PySem.W.kat_kind (T := .type "int") h1 (by omega) (fun f hm => ?_) (by rfl) ?_
  · obtain ⟨x, t, rfl⟩ := h3 f hm
    exact PySem.W.Looks.now
  · have e : (Value.type "int" != Value.type "tuple") = true := by first | decide +kernel | rfl | decide
    rw [e]
    exact hq
end
def leT (a b : T3) : Prop := lexT b a = false
def rSortTA (K : PySem.W.Frag) : List V → Hp → VK → Prop := fun vs H Q => ∃ (a : Addr) (xs : List V) (ps : List T3), vs = [V.ref a] ∧ (SqL K H a xs ∨ SqT K H a xs) ∧ xs.length = ps.length ∧
  (∀ z ∈ xs.zip ps, ∃ t, z.1 = V.ref t ∧ SqT K H t [.int z.2.1, .int z.2.2.1, .int z.2.2.2]) ∧
  ∀ (zs : List (V × T3)) (p : Addr), zs.Perm (xs.zip ps) → (zs.map (·.2)).Pairwise leT → H p = none → Q (.ref p) (upd H p (.lst (zs.map (·.1))))
section
variable {X : Cx}
theorem trips_of {pins : List (Addr × Obj)} {σ : L2.St} {H : Hp} {s : Shared} {xs : List V} {its : List Value} {ps : List T3} (I : Inv X pins σ H s) (rv : Vals xs its) (hlp : xs.length = ps.length)
    (hx : ∀ z ∈ xs.zip ps, ∃ t, z.1 = V.ref t ∧ SqT X.K H t [.int z.2.1, .int z.2.2.1, .int z.2.2.2]) :
    ∃ k : Value → T3, (∀ v ∈ its, IsTrip s.heap v (k v)) ∧ xs.zip ps = its.map (fun u => (backV u, k u)) ∧ ∀ u ∈ its, ∃ a, u = Value.ref a := by
  have mem : ∀ x ∈ xs, ∃ p, (x, p) ∈ xs.zip ps := fun x hm => by
    obtain ⟨i, hi, rfl⟩ := List.mem_iff_getElem.mp hm
    exact ⟨ps[i]'(by omega), List.mem_iff_getElem.mpr ⟨i, by rw [List.length_zip]; omega, by rw [List.getElem_zip]⟩⟩
  obtain ⟨e1, e2⟩ := refs_back rv fun x m => by
    obtain ⟨p, hp⟩ := mem x m
    obtain ⟨t, e, _⟩ := hx _ hp
    exact ⟨t, e⟩
  have hli : its.length = ps.length := by rw [← rv.length, hlp]
  -- the triple of each
  have un : ∀ t (p p' : T3), SqT X.K H t [.int p.1, .int p.2.1, .int p.2.2] → SqT X.K H t [.int p'.1, .int p'.2.1, .int p'.2.2] → p = p' := fun t p p' h1 h2 => by
    have := I.tuple_inj h1 h2
    injection this with a b
    injection b with b c
    injection c with c _
    injection a with a
    injection b with b
    injection c with c
    obtain ⟨x, y, z⟩ := p
    obtain ⟨x', y', z'⟩ := p'
    simp only at a b c
    rw [a, b, c]
  classical
  let k : Value → T3 := fun u => if h : ∃ p : T3, ∃ t, u = .ref t ∧ SqT X.K H t [.int p.1, .int p.2.1, .int p.2.2] then h.choose else (0, 0, 0)
  have ks : ∀ u (p : T3) t, u = Value.ref t → SqT X.K H t [.int p.1, .int p.2.1, .int p.2.2] → k u = p := fun u p t e hq => by
    have hex : ∃ p : T3, ∃ t, u = .ref t ∧ SqT X.K H t [.int p.1, .int p.2.1, .int p.2.2] := ⟨p, t, e, hq⟩
    show (if h : ∃ p : T3, ∃ t, u = .ref t ∧ SqT X.K H t [.int p.1, .int p.2.1, .int p.2.2] then h.choose else (0, 0, 0)) = p
    rw [dif_pos hex]
    obtain ⟨t', e', hq'⟩ := hex.choose_spec
    have e3 : t' = t := by
      have := e'.symm.trans e
      exact Value.ref.inj this
    subst e3
    exact un _ _ _ hq' hq
  have at_ : ∀ (i : Nat) (u : Value) (p : T3), its[i]? = some u → ps[i]? = some p → ∃ t, u = Value.ref t ∧ SqT X.K H t [.int p.1, .int p.2.1, .int p.2.2] := fun i u p h1 h2 => by
    have h3 : (backV u, p) ∈ xs.zip ps := by
      rw [e1]
      refine List.mem_iff_getElem?.mpr ⟨i, ?_⟩
      rw [List.getElem?_zip_eq_some, List.getElem?_map, h1]
      exact ⟨rfl, h2⟩
    obtain ⟨t, e, hq⟩ := hx _ h3
    obtain ⟨b, rfl⟩ := e2 u (List.mem_of_getElem? h1)
    have e : V.ref b = V.ref t := e
    obtain rfl : b = t := V.ref.inj e
    exact ⟨b, rfl, hq⟩
  have ez : xs.zip ps = its.map fun u => (backV u, k u) := by
    rw [e1]
    exact zip_of_map hli fun i u p h1 h2 => by
      obtain ⟨t, e, hq⟩ := at_ i u p h1 h2
      exact ks u p t e hq
  have hp : ∀ v ∈ its, IsTrip s.heap v (k v) := fun v hv => by
    obtain ⟨i, hi, rfl⟩ := List.mem_iff_getElem.mp hv
    obtain ⟨t, e, hq⟩ := at_ i _ _ (List.getElem?_eq_getElem hi) (List.getElem?_eq_getElem (by omega : i < ps.length))
    rw [ks _ _ t e hq]
    obtain ⟨its2, r2, ⟨o, ho, hc, n, hd⟩, _⟩ := I.tuple hq
    cases r2 with
    | cons ri rr =>
    obtain ⟨u2, u3, rfl, rj, rk⟩ := vals2 rr
    obtain ⟨t1, rfl⟩ := ri
    obtain ⟨t2, rfl⟩ := rj
    obtain ⟨t3, rfl⟩ := rk
    exact ⟨t, o, t1, t2, t3, n, e, ho, hc, hd⟩
  exact ⟨k, hp, ez, e2⟩
theorem cr_sortTA : CallR X (.builtin "sorted") (rSortTA X.K) := by
  intro pins s σ H vs us Q I r h
  obtain ⟨a, xs, ps, rfl, hs, hlp, hx, q⟩ := h
  obtain ⟨its, rv, hl, hz⟩ := seqA I hs
  obtain ⟨u, rfl, ru⟩ := vals1 r
  obtain rfl : u = Value.ref a := ru
  obtain ⟨k, hp, ez, e2⟩ := trips_of I rv hlp hx
  refine sorted_ordA (swo_trip k) hl (by rw [← rv.length]; exact hz) (fun h2 h₁ a ha kk => ?_) fun out h1 h2 => ?_
  · refine trips_sortable (s := { s with heap := h₁ }) (by omega) (fun v hm => (hp v hm).keeps fun b o e _ => (kk b o e).2) fun o e => ?_
    have e' : some o = some (seqObj "list" its.toArray 0) := e.symm.trans ha
    cases e'
    intro c
    exact absurd (Value.type.inj c) (by decide)
  · have h3 : ∀ u ∈ out, ∃ a, u = Value.ref a := fun u hu => e2 u (h2.perm.mem_iff.mp hu)
    obtain ⟨ep, he'⟩ := PyProof.Rows.sortedAll_at s.heap its out.toArray
    refine ⟨.ref _, upd H (s.heap.objs.size + 1) (.lst (out.map backV)), I.laid (t' := s.toks) (fun _ _ => PyProof.Rows.sortedAll_old) (Nat.le_succ _) ⟨?_, out, ep, vals_back h3, he'⟩, rfl, ?_⟩
    · rw [List.length_map, h2.perm.length_eq, ← rv.length]
      exact hz
    · have := q (out.map fun u => (backV u, k u)) (s.heap.objs.size + 1) (by rw [ez]; exact h2.perm.map _) (by
        rw [List.map_map]
        exact List.pairwise_map.mpr h1) (I.hok.fresh (Nat.le_succ _))
      rw [List.map_map] at this
      exact this
end

/-! ### min of a tuple of triples -/
section
variable {prog : Program} {w : World} {A : Around} {E : Value → Shared → Prop} {s : Shared} {l : Addr}
theorem argBest_swo {α : Type} {lt : α → α → Bool} (O : Swo lt) (f : Nat → α) : ∀ k, argBest (fun i j => lt (f i) (f j)) k ≤ k ∧ ∀ j, j ≤ k → lt (f j) (f (argBest (fun i j => lt (f i) (f j)) k)) = false
  | 0 => ⟨Nat.le_refl _, fun j hj => by
    obtain rfl : j = 0 := by omega
    cases h : lt (f 0) (f 0) with
    | false => exact h
    | true =>
      have := O.1 _ _ h
      rw [h] at this
      cases this⟩
  | k + 1 => by
    obtain ⟨h1, h2⟩ := argBest_swo O f k
    have irr : ∀ x, lt x x = false := fun x => by
      cases h : lt x x with
      | false => rfl
      | true =>
        have := O.1 _ _ h
        rw [h] at this
        cases this
    simp only [argBest]
    by_cases hc : lt (f (k + 1)) (f (argBest (fun i j => lt (f i) (f j)) k)) = true
    · rw [if_pos hc]
      refine ⟨Nat.le_refl _, fun j hj => ?_⟩
      by_cases hj2 : j = k + 1
      · rw [hj2]
        exact irr _
      · exact O.2 _ _ _ (O.1 _ _ hc) (h2 j (by omega))
    · rw [if_neg hc]
      refine ⟨by omega, fun j hj => ?_⟩
      by_cases hj2 : j = k + 1
      · rw [hj2]
        cases h : lt (f (k + 1)) (f (argBest (fun i j => lt (f i) (f j)) k)) with
        | false => rfl
        | true => exact absurd h hc
      · exact h2 j (by omega)
theorem min_trip {its : List Value} {k : Value → T3} {Q : Value → Shared → Prop} (hh : A.handled = none) (hu : A.in1.units < cLine) (hl : s.heap.IsTuple l its.toArray) (hp : ∀ v ∈ its, IsTrip s.heap v (k v)) (hne : 0 < its.length)
    (h : ∀ h' tk v, (∀ b o, s.heap.get? b = some o → h'.get? b = some o) → v ∈ its → (∀ u ∈ its, lexT (k u) (k v) = false) → Q v { s with heap := h', toks := tk }) : wpAny (model prog w) A (call (.builtin "min") [.ref l]) Q E s := by
  have hlt : l < s.heap.objs.size := by obtain ⟨_, e, _⟩ := hl; exact Heap.lt_size e
  refine call_min_walkH (wpAny_pyIter_tuple hl ?_)
  refine ⟨_, _, _, _, _, _, _, s.heap, fun i j => lexT (k (its.getD i .none)) (k (its.getD j .none)), rfl, (Walks.tuple (A := A.in1) hh _ l (Nat.ne_of_lt hlt) its.toArray).toS, ⟨⟨_, Heap.get?_push_size _ rfl, rfl, rfl⟩, Heap.IsTuple.push hl _⟩, fun b hb => ?_, by rw [List.size_toArray]; exact hne, fun b o e hm => ?_, fun b o e => Heap.get?_push_of_some _ e, ?_, ?_⟩
  · show b < (s.heap.push _).objs.size
    rw [Heap.size_push]
    rcases List.mem_cons.mp hb with rfl | hb
    · exact Nat.lt_succ_self _
    · rcases List.mem_cons.mp hb with rfl | hb
      · exact Nat.lt_succ_of_lt hlt
      · cases hb
  · rcases List.mem_cons.mp hm with e1 | hm
    · exact absurd (e1 ▸ Heap.lt_size e) (Nat.lt_irrefl _)
    · cases hm
  · intro i j vi vj s1 Q1 E1 hk hi hj hq
    have hi : its[i]? = some vi := by simpa using hi
    have hj : its[j]? = some vj := by simpa using hj
    have gi : its.getD i .none = vi := by rw [List.getD_eq_getElem?_getD, hi]; rfl
    have gj : its.getD j .none = vj := by rw [List.getD_eq_getElem?_getD, hj]; rfl
    have hq : Q1 (.bool (lexT (k (its.getD i .none)) (k (its.getD j .none)))) s1 := hq
    rw [gi, gj] at hq
    obtain ⟨a, o, t, u, c, n, e, ho, hc, hd⟩ := (hp vi (List.mem_of_getElem? hi)).keeps fun b o e _ => hk b o e
    obtain ⟨a', o', t', u', c', n', e', ho', hc', hd'⟩ := (hp vj (List.mem_of_getElem? hj)).keeps fun b o e _ => hk b o e
    subst e
    subst e'
    refine HT.lt_tupInts (ns := [_, _, _]) (ms := [_, _, _]) ⟨o, ho, hc, n, hd⟩ ⟨o', ho', hc', n', hd'⟩ (.cons _ _ (.cons _ _ (.cons _ _ .nil))) (.cons _ _ (.cons _ _ (.cons _ _ .nil))) hu ?_
    have ex : HT.lexLt [(k (.ref a)).1, (k (.ref a)).2.1, (k (.ref a)).2.2] [(k (.ref a')).1, (k (.ref a')).2.1, (k (.ref a')).2.2] = lexT (k (.ref a)) (k (.ref a')) := by
      unfold lexT
      rw [HT.lexLt_cons, HT.lexLt_cons, HT.lexLt_cons, HT.lexLt_nil_nil]
      split
      · split
        · split
          · rename_i e; rw [e]; exact (decide_eq_false (Int.lt_irrefl _)).symm
          · rfl
        · rfl
      · rfl
    rw [ex]
    exact hq
  · intro v s' hP hm
    obtain ⟨b1, b2⟩ := argBest_swo (swo_trip k) (fun i => its.getD i .none) (its.toArray.size - 1)
    generalize argBest _ (its.toArray.size - 1) = b at hP b1 b2
    have hP : its[b]? = some v := by simpa using hP
    have gb : its.getD b .none = v := by rw [List.getD_eq_getElem?_getD, hP]; rfl
    have es : s' = { s with heap := s'.heap, toks := s'.toks } := by
      obtain ⟨h', g', d', t', o'⟩ := s'
      have e1 := hm.gens
      have e2 := hm.drawn
      have e3 := hm.os
      simp only at e1 e2 e3
      rw [e1, e2, e3]
    rw [es]
    refine h _ _ v (fun b o e => hm.heap b o (fun hm => ?_) (Heap.get?_push_of_some _ e)) (List.mem_of_getElem? hP) fun u hu => ?_
    · rcases List.mem_cons.mp hm with e1 | hm
      · exact absurd (e1 ▸ Heap.lt_size e) (Nat.lt_irrefl _)
      · cases hm
    · obtain ⟨j, hj, rfl⟩ := List.mem_iff_getElem.mp hu
      have := b2 j (by rw [List.size_toArray]; omega)
      rw [gb] at this
      rw [show its.getD j .none = its[j] by rw [List.getD_eq_getElem?_getD, List.getElem?_eq_getElem hj]; rfl] at this
      exact this
end
def rMinTA (K : PySem.W.Frag) : List V → Hp → VK → Prop := fun vs H Q => ∃ (a : Addr) (xs : List V) (ps : List T3), vs = [V.ref a] ∧ SqT K H a xs ∧ xs.length = ps.length ∧
  (∀ z ∈ xs.zip ps, ∃ t, z.1 = V.ref t ∧ SqT K H t [.int z.2.1, .int z.2.2.1, .int z.2.2.2]) ∧ 0 < ps.length ∧ ∀ z ∈ xs.zip ps, (∀ y ∈ ps, lexT y z.2 = false) → Q z.1 H
theorem cr_minTA {X : Cx} (hc : X.calm = true) (hu : X.A.units + 64 < cLine) : CallR X (.builtin "min") (rMinTA X.K) := by
  intro pins s σ H vs us Q I r h
  obtain ⟨a, xs, ps, rfl, hs, hlp, hx, hne, q⟩ := h
  obtain ⟨its, rv, hl, hz⟩ := I.tuple hs
  obtain ⟨u, rfl, ru⟩ := vals1 r
  obtain rfl : u = Value.ref a := ru
  obtain ⟨k, hp, ez, e2⟩ := trips_of I rv hlp hx
  have hps : ps = its.map k := by
    have := congrArg (List.map (·.2)) ez
    rw [List.map_snd_zip (by omega), List.map_map] at this
    exact this
  refine min_trip (I.ok.hd hc) (by show X.A.units + 1 < cLine; omega) (show s.heap.IsTuple a its.toArray from hl) hp (by rw [← rv.length]; omega) fun h' tk v hk hv hb => ?_
  obtain ⟨b, rfl⟩ := e2 v hv
  refine ⟨.ref b, H, I.kept hk, rfl, ?_⟩
  refine q (backV (.ref b), k (.ref b)) (by rw [ez]; exact List.mem_map.mpr ⟨_, hv, rfl⟩) fun y hy => ?_
  rw [hps] at hy
  obtain ⟨u, hu, rfl⟩ := List.mem_map.mp hy
  exact hb u hu
end Ov
-- OvDc
/-! name = {k: v for ..}, the name a local. -/
namespace L2
open PySem PySem.Spec PyProof.Rows
section
variable {X : Cx}
theorem ps_setDc {i : Nat} {y : Str} {py : Pos} {kx vx tg iter : Expr} {ifs : List Expr} {scope : Scope} {own : List (Str × Nat)} {pos spos : Pos} {wi : TI} {g : TG} {tt : TT} {tk tv : TE} (hc : X.calm = true) (hN : X.N.Nodup) (hy : X.N[i]? = some y) (hyl : X.env.scope.names.lookup y = some .local)
    (hsw : swapsWith (.DictComp kx vx [⟨tg, iter, ifs, 0⟩] scope pos) (some (.Name y py)) spos.line X.env = pure true) (hi : PI X tg iter wi) (ok : BlkOk X.N X.env.scope scope own)
    (hg : ∀ (s : Shared) (H : Hp) (C : Addr) (cl : List (Str × Addr)) (fp : List Addr), PG (X.blk s H scope (compEnvC scope cl C X.env) fp) tg g) (ht : ∀ (s : Shared) (H : Hp) (C : Addr) (cl : List (Str × Addr)) (fp : List Addr), PTs (X.blk s H scope (compEnvC scope cl C X.env) fp) ifs tt)
    (hk : ∀ (s : Shared) (H : Hp) (C : Addr) (cl : List (Str × Addr)) (fp : List Addr), PE (X.blk s H scope (compEnvC scope cl C X.env) fp) kx tk)
    (he : ∀ (s : Shared) (H : Hp) (C : Addr) (cl : List (Str × Addr)) (fp : List Addr), PE (X.blk s H scope (compEnvC scope cl C X.env) fp) vx tv) (hs : ∀ x, foldedSetIterable iter X.env x = pure x := by intro _; rfl) :
    PS X (.Assign [.Name y py] (.DictComp kx vx [⟨tg, iter, ifs, 0⟩] scope pos) spos) (tAsg (tDc wi g tt tk tv (own.map (·.2))) (gName i)) := by
  refine ⟨fun pins s σ H D I h => ?_⟩
  rw [exec_Assign_Name_used _ _ _ _ hsw]
  refine wpAny_bind (wpAny_standAt (wpAny_bind ?_))
  show wpAny _ X.A (do let _ ← comprehension (.DictComp kx vx [⟨tg, iter, ifs, 0⟩] scope pos) scope X.env (firstIterPos [⟨tg, iter, ifs, 0⟩] pos) newDict false (eval iter X.env) (some (assign (.Name y py) X.env))) _ _ s
  have h : tDc wi g tt tk tv (own.map (·.2)) σ H (fun x H1 => gName i x σ H1 D.nx) := h
  refine wpAny_bind (thn (dc_core (Qf := fun _ s' => SP X pins D .next s') hc hN I hi ok hg ht hk he hs h fun L C s' m H' I' q hn f => ?_) fun _ s' hq => wpAny_pure (wpAny_pure hq))
  show wpAny _ _ (assign (.Name y py) X.env (.ref L)) _ _ _
  refine wpAny_assign_Name (store_ok2 (v := V.ref L) I' hN hy (.inl hyl) rfl (fun s2 I2 ⟨a, sb, ha⟩ => ?_) (.inr hyl))
  obtain ⟨f0, f1, f2, f3, f4, f5⟩ := f
  have haC : C ≠ a := by
    rcases ha with z | z
    · rw [z]; exact f1
    · exact fun e => f4 y a z e.symm
  refine ⟨m, hn.sameBut sb haC, fun h3 sb3 => ?_⟩
  exact ⟨_, H', I2.turned (t' := s2.toks) (fun b o hb e => (sb3.2 b hb).trans e) f0 f1 f3 f4 f5, q⟩
theorem sw_trueD {kx vx : Expr} {gs : List Comprehension} {scope : Scope} {pos py : Pos} {y : Str} {l : Nat} {env : Env} (hk : env.scope.kind = .function) (hy : env.scope.names.lookup y = some .local) (hl : (py.line == pos.line) = true)
    (ha : (scope.names.any fun (n, k) => n == y && (k == .local || k == .cell)) = false) : swapsWith (.DictComp kx vx gs scope pos) (some (.Name y py)) l env = pure true := by
  have ky : env.kindOf y = some .local := hy
  have hb : env.blockKind = .function := by unfold Env.blockKind; rw [hk]; rfl
  unfold swapsWith
  simp only [hb, ky, ha, Expr.pos, hl]
  rfl
end
end L2
-- OvTx
/-! list.count of flat items; str.index of one sign. -/
namespace Ov
open PySem PySem.Spec PyProof.Rows L2
theorem countU_eq {y : V} : ∀ {ys : List V} {its : List Value}, Vals ys its → ys.all flatV = true → its.countP (eqU y) = ys.countP (fun z => eqV z y)
  | _, _, .nil, _ => rfl
  | z :: ys, u :: its, .cons r t, f => by
    rw [List.all_cons, Bool.and_eq_true] at f
    rw [List.countP_cons, List.countP_cons, countU_eq t f.2, eqU_of r f.1]
theorem mt_lcountF {X : Cx} : MtR X "list.count" (fun x xs H Q => ∃ (a : Addr) (ys : List V) (y : V), x = V.ref a ∧ xs = [y] ∧ SqL X.K H a ys ∧ flatV y = true ∧ ys.all flatV = true ∧ Q (.int (ys.countP (fun z => eqV z y) : Nat)) H) := by
  intro pins s σ H x xs v us Q I rx rxs h
  obtain ⟨a, ys, y, rfl, rfl, hs, fy, fys, q⟩ := h
  cases rx
  cases rxs with
  | cons ry rt =>
    rename_i uy ut
    cases rt
    obtain ⟨its, rv, ⟨⟨cls, dd, data, sl⟩, n, ho, hc, hdn, hd⟩, hlen⟩ := I.list hs
    simp only at hc hd
    subst hc hd
    refine call_meets PySem.F.slot_list_count ⟨_, ho, rfl⟩ PySem.F.entry_list_count (PySem.F.args_list_count_2 _ _)
      (SeqAt.list_countAt a its.toArray n dd sl uy (eqU y)) ⟨ho, fun u' hu' => mem_eqAt ry fy rv fys u' (by simpa using hu'), ?_⟩
    refine ⟨.int (ys.countP (fun z => eqV z y) : Nat), H, I.tok _, ⟨s.toks, ?_⟩, q⟩
    have e : its.toArray.toList.countP (eqU y) = ys.countP (fun z => eqV z y) := countU_eq rv fys
    show Value.int ((its.toArray.toList.countP (eqU y) : Nat) : Int) s.toks = _
    rw [e]
open PySem.StrLaws PySem.Builtin.Str
theorem occ_done (x sub : Str) (hi : Nat) : ∀ (l : List Nat) (st : Array Nat × Nat), st.fst.size = 1 → (forIn l st (occBody x sub hi 1)).run.fst = st.fst
  | [], st, _ => rfl
  | a :: l, st, h => by
    rw [List.forIn_cons]
    unfold occBody
    rw [if_neg (fun c => by omega)]
    exact occ_done x sub hi l (st.fst, st.snd) h
theorem occ_first (x : Str) (c j : Nat) (hj : x.cps.toList[j]? = some c) : ∀ (m a : Nat) (b : Nat), a + m = x.length + 1 → a ≤ j → b ≤ a → (∀ i, a ≤ i → i < j → x.cps.toList[i]? ≠ some c) →
    (forIn (List.range' a m) ((#[], b) : Array Nat × Nat) (occBody x ⟨#[c]⟩ x.length 1)).run.fst = #[j]
  | 0, a, b, h, ha, _, _ => by
    have := (List.getElem?_eq_some_iff.mp hj).1
    simp [Str.length] at h this
    omega
  | m + 1, a, b, h, ha, hb, hn => by
    rw [List.range'_succ, List.forIn_cons]
    unfold occBody
    have hlt := (List.getElem?_eq_some_iff.mp hj).1
    have hlen : x.cps.toList.length = x.length := by simp [Str.length]
    by_cases e : a = j
    · subst e
      have hs := (subAt_one x c a).mpr hj
      rw [if_pos ⟨⟨⟨by show (0 : Nat) < 1; decide, hb⟩, hs.1⟩, hs.2⟩]
      exact occ_done x _ _ _ _ (by simp)
    · rw [if_neg (fun q => hn a (Nat.le_refl _) (by omega) ((subAt_one x c a).mp ⟨q.1.2, q.2⟩))]
      exact occ_first x c j hj m (a + 1) b (by omega) (by omega) (by omega) fun i h1 h2 => hn i (by omega) h2
theorem index_one {x : Str} {c j : Nat} (h : x.cps.toList.findIdx? (· == c) = some j) : occurrences x ⟨#[c]⟩ 0 x.length 1 = [j] := by
  obtain ⟨h1, h2, h3⟩ := List.findIdx?_eq_some_iff_getElem.mp h
  rw [occ_eq, show x.length + 1 - 0 = x.length + 1 by omega, occ_first x c j (by rw [List.getElem?_eq_getElem h1, eq_of_beq h2]) (x.length + 1) 0 0 (by omega) (Nat.zero_le _) (Nat.le_refl _) fun i _ hi e => ?_]
  have hil : i < x.cps.toList.length := by omega
  rw [List.getElem?_eq_getElem hil] at e
  have := h3 i hi
  rw [Option.some.inj e] at this
  simp at this
end Ov
-- OvMd
/-! min(x, default=d) of ints. -/
namespace Ov
open PySem PySem.Spec PyProof.Rows L2
section
variable {prog : Program} {w : World} {A : Around} {E : Value → Shared → Prop} {s : Shared} {l : Addr} {its : List Value} {ns : List Int} {Q : Value → Shared → Prop} {d : Value}
theorem cmpIn_of {op : CmpOp} {P : Nat → Value → Prop} {bt : Nat → Nat → Bool} {H : Heap} (h : CmpOf prog w A op P bt) : CmpIn prog w A op H P bt := fun i j vi vj s Q E _ hi hj q => h i j vi vj s Q E hi hj q
theorem min_rawD (hh : A.handled = none) (hl : s.heap.IsList l its.toArray ∨ s.heap.IsTuple l its.toArray) (hi : IntsAre its ns)
    (h0 : ns = [] → ∀ h' tk, (∀ b o, s.heap.get? b = some o → h'.get? b = some o) → Q d { s with heap := h', toks := tk })
    (h : ∀ h' tk M t', (∀ b o, s.heap.get? b = some o → h'.get? b = some o) → M ∈ ns → (∀ a, a ∈ ns → M ≤ a) → Q (.int M t') { s with heap := h', toks := tk }) :
    wpAny (model prog w) A (call (.builtin "min") [.ref l] [(Str.ofString "default", d)]) Q E s := by
  obtain ⟨xs, e⟩ := hi.allInts.items
  have hn : numsOf (intItems xs).toList = ns := by rw [← e]; exact hi.numsOf
  rw [nums_intItems] at hn
  subst hn
  rw [e] at hl
  have fin : ∀ v (h' : Heap) tk, 0 < xs.size → (intItems xs)[argBest (fun i j => decide (numAt xs i < numAt xs j)) (xs.size - 1)]? = some v → (∀ b o, s.heap.get? b = some o → h'.get? b = some o) → Q v { s with heap := h', toks := tk } := by
    intro v h' tk hsz hv hk
    obtain ⟨t, rfl⟩ := intItems_at hv
    obtain ⟨h1, h2⟩ := argBest_lt (numAt xs) (xs.size - 1)
    refine h h' tk _ t hk ?_ fun a ha => ?_
    · rw [numAt_eq]; exact PySem.getD_mem (by rw [List.length_map, Array.length_toList]; omega)
    · obtain ⟨j, hj, rfl⟩ := mem_getD ha
      rw [List.length_map, Array.length_toList] at hj
      rw [← numAt_eq]; exact h2 j (by omega)
  have hs : (intItems xs).size = xs.size := by simp [intItems]
  have non : (intItems xs).size = 0 → xs.toList.map (·.1) = [] := fun hz => by
    rw [hs] at hz
    rw [List.map_eq_nil_iff]
    exact List.eq_nil_of_length_eq_zero (by rw [Array.length_toList]; exact hz)
  rcases hl with hl | hl
  · refine call_min_walkD (PySem.W.iter_listW (A := A.in1) hh hl fun s₂ e W st hfp hw hk => ?_)
    refine ⟨_, _, _, _, _, _, _, s.heap, _, rfl, W, st, hfp, hw, hk, fun hz s' m => ?_, fun hp => ⟨cmpIn_of (CmpOf.ints_lt (numAt xs) (fun _ _ => intItems_at)), fun v s' hP m => ?_⟩⟩
    · obtain ⟨h', tk, rfl, hk'⟩ := PySem.W.moved_old e rfl m
      exact h0 (non hz) h' tk hk'
    · obtain ⟨h', tk, rfl, hk'⟩ := PySem.W.moved_old e rfl m
      rw [hs] at hP hp
      exact fin v h' tk hp hP hk'
  · refine call_min_walkD (PySem.W.iter_tupleW (A := A.in1) hh hl fun s₂ e W st hfp hw hk => ?_)
    refine ⟨_, _, _, _, _, _, _, s.heap, _, rfl, W, st, hfp, hw, hk, fun hz s' m => ?_, fun hp => ⟨cmpIn_of (CmpOf.ints_lt (numAt xs) (fun _ _ => intItems_at)), fun v s' hP m => ?_⟩⟩
    · obtain ⟨h', tk, rfl, hk'⟩ := PySem.W.moved_old e rfl m
      exact h0 (non hz) h' tk hk'
    · obtain ⟨h', tk, rfl, hk'⟩ := PySem.W.moved_old e rfl m
      rw [hs] at hP hp
      exact fin v h' tk hp hP hk'
end
def rMinD (K : PySem.W.Frag) : List V → List V → Hp → VK → Prop := fun vs zs H Q => ∃ (a : Addr) (ns : List Int), vs = [V.ref a] ∧ zs = [.non] ∧ (SqL K H a (ns.map V.int) ∨ SqT K H a (ns.map V.int)) ∧ (ns = [] → Q .non H) ∧ ∀ m, m ∈ ns → (∀ y, y ∈ ns → m ≤ y) → Q (.int m) H
theorem cr_minD {X : Cx} (hc : X.calm = true) : CallRK X (.builtin "min") [Str.ofString "default"] (rMinD X.K) := by
  intro pins s σ H vs zs us ws Q I r rz h
  obtain ⟨a, ns, rfl, rfl, hs, q0, q⟩ := h
  obtain ⟨its, rv, hl, hz⟩ := seqA I hs
  obtain rfl := Vals.ref1 r
  obtain ⟨w1, rfl, e1⟩ := vals1 rz
  obtain rfl : w1 = Value.none := e1
  exact min_rawD (I.ok.hd hc) hl rv.ints (fun e h' tk hk => ⟨.non, H, I.kept hk, rfl, q0 e⟩) fun h' tk m t' hk h1 h2 => ⟨.int _, H, I.kept hk, ⟨_, rfl⟩, q m h1 h2⟩
end Ov
-- OvA
/-! Data without a heap, programs over it (PX, PSt), what such a program wants (wE, wS: weakest preconditions). -/
namespace Ov
open PySem L2

inductive D where
  | non | bl (b : Bool) | int (i : Int) | str (s : Str)
  | tup (xs : List D) | ro (xs : List D) | ptr (n : Nat)
  | dic (ks : List Key) (vs : List D)
  | rng (lo hi : Int)
  /-- a tuple made by tuple(..), its object known -/
  | frt (xs : List D)
abbrev DEnv := List (Option D)
/-- the lists that may change, in the order of their making -/
abbrev Sto := List (List D)
abbrev WK := D → Sto → Prop

mutual
def toPy : D → PyData
  | .non => .none
  | .bl b => .bool b
  | .int i => .int i
  | .str s => .str s
  | .tup xs => .tuple (toPys xs)
  | .ro xs => .list (toPys xs)
  | .ptr _ => .none
  | .dic _ _ => .none
  | .rng _ _ => .none
  | .frt _ => .none
def toPys : List D → List PyData
  | [] => []
  | x :: xs => toPy x :: toPys xs
end
mutual
def noPtr : D → Bool
  | .tup xs => noPtrs xs
  | .ro xs => noPtrs xs
  | .ptr _ => false
  | .dic _ _ => false
  | .rng _ _ => false
  | .frt _ => false
  | _ => true
def noPtrs : List D → Bool
  | [] => true
  | x :: xs => noPtr x && noPtrs xs
end
/-- == -/
def eqD (x y : D) : Bool := PyData.eqv (toPy x) (toPy y)
def flatD : D → Bool
  | .non => true
  | .bl _ => true
  | .int _ => true
  | .str _ => true
  | _ => false
def okEq (x : D) : Bool := noPtr x && SeqAt.shaped (toPy x)
def kindD : D → Nat
  | .non => 0
  | .bl _ => 1
  | .int _ => 2
  | .str _ => 3
  | _ => 9
/-- plain kinds, and not a bool beside an int -/
def scalD (x y : D) : Bool := decide (kindD x < 4) && decide (kindD y < 4) && !(kindD x + kindD y == 3 && kindD x * kindD y == 2)
def eqOk (x y : D) : Bool := scalD x y || (okEq x && okEq y)

/-- lists that are read: a read-only one, one that may change -/
def listOf (S : Sto) : D → Option (List D)
  | .ro xs => some xs
  | .ptr n => S[n]?
  | _ => none
def seqOf (S : Sto) : D → Option (List D)
  | .ro xs => some xs
  | .tup xs => some xs
  | .frt xs => some xs
  | .ptr n => S[n]?
  | _ => none

def cutD (xs : List D) (lo hi : Option Int) : List D := (xs.drop (HT.sIx xs.length 0 lo)).take (HT.sIx xs.length xs.length hi - HT.sIx xs.length 0 lo)

inductive BOp | add | sub | mul | fdiv | mod | pow
inductive COp | eq | ne | lt | le | gt | ge | is | isnot | isIn | notIn
inductive BI | len | int | abs | bool | tuple | list | mlist | max | min | sum | any | all | str | sorted | msorted
  | isI (t : String) | rngv | tuplex
inductive Mth | append | pop | join | count | indexL | countL | indexS | strip | indexT
  deriving DecidableEq

def smallI (i : Int) : Prop := -(2 ^ 64) < i ∧ i < 2 ^ 64

def catW (x y : D) (S : Sto) (k : WK) : Prop :=
  match listOf S x, listOf S y with
  | some xs, some ys => xs.length + ys.length ≤ sizeLine ∧ k (.ro (xs ++ ys)) S
  | _, _ => False
def binW (op : BOp) (x y : D) (S : Sto) (k : WK) : Prop :=
  match op, x, y with
  | .add, .int i, .int j => k (.int (i + j)) S
  | .add, .str a, .str b => a.length + b.length ≤ sizeLine ∧ k (.str (a ++ b)) S
  | .add, .tup xs, .tup ys => xs.length + ys.length ≤ sizeLine ∧ k (.tup (xs ++ ys)) S
  | .add, .ro xs, y => catW (.ro xs) y S k
  | .add, .ptr n, y => catW (.ptr n) y S k
  | .sub, .int i, .int j => k (.int (i - j)) S
  | .mul, .int i, .int j => (smallI i ∨ smallI j) ∧ k (.int (i * j)) S
  | .mul, .tup xs, .int j => (xs.isEmpty = false ∧ xs.length ≤ 1000 ∧ -1000 ≤ j ∧ j ≤ 1000) ∧ k (.tup (List.replicate j.toNat xs).flatten) S
  | .mul, .str a, .int j => (0 ≤ j ∧ j ≤ 1000 ∧ a.length ≤ 1000) ∧ k (.str (strRep a j.toNat)) S
  | .fdiv, .int i, .int j => (0 < j ∧ j < 1073741824) ∧ k (.int (i / j)) S
  | .mod, .int i, .int j => 0 < j ∧ k (.int (i % j)) S
  | .pow, .int i, .int j => (0 ≤ j ∧ j ≤ 1000000 ∧ i.natAbs < 2 ^ 64) ∧ k (.int (i ^ j.toNat)) S
  | _, _, _ => False

/-- tuples of ints -/
def intsOf : List D → Option (List Int)
  | [] => some []
  | .int i :: r => (intsOf r).map (i :: ·)
  | _ => none

def ordW (op : COp) (i j : Int) : Bool :=
  match op with
  | .lt => decide (i < j)
  | .le => decide (i ≤ j)
  | .gt => decide (j < i)
  | .ge => decide (j ≤ i)
  | _ => false
def isNonD : D → Bool
  | .non => true
  | _ => false
def ordC (op : COp) (x y : D) (S : Sto) (k : WK) : Prop :=
  match x, y with
  | .int i, .int j => k (.bl (ordW op i j)) S
  | .tup xs, .tup ys => match op, intsOf xs, intsOf ys with
    | .lt, some a, some b => k (.bl (HT.lexLt a b)) S
    | _, _, _ => False
  | _, _ => False
/-- a dict's key that is this int -/
def isKI (i : Int) : Key → Bool
  | .inl j => j == i
  | .inr _ => false
def cmpW (op : COp) (x y : D) (S : Sto) (k : WK) : Prop :=
  match op with
  | .eq => eqOk x y = true ∧ k (.bl (eqD x y)) S
  | .ne => eqOk x y = true ∧ k (.bl (!eqD x y)) S
  | .is => match y with
    | .non => k (.bl (isNonD x)) S
    | .bl b => match x with
      | .bl c => k (.bl (c == b)) S
      | .non => k (.bl false) S
      | _ => False
    | _ => False
  | .isnot => match y with
    | .non => k (.bl (!isNonD x)) S
    | .bl b => match x with
      | .bl c => k (.bl (!(c == b))) S
      | _ => False
    | _ => False
  | .isIn => match x, y with
    | .str a, .str z => a.length = 1 ∧ k (.bl (decide (a.cps.getD 0 0 ∈ z.cps.toList))) S
    | .tup xs, .ro ys => (okEq (.tup xs) = true ∧ okEq (.ro ys) = true) ∧ k (.bl (ys.any fun z => eqD z (.tup xs))) S
    | .int i, .dic ks ds => ks.length = ds.length ∧ k (.bl (ks.any (isKI i))) S
    | _, _ => match seqOf S y with
      | some ys => flatD x = true ∧ ys.all flatD = true ∧ k (.bl (ys.any fun z => eqD z x)) S
      | none => False
  | .notIn => match x, y with
    | .str a, .str z => a.length = 1 ∧ k (.bl (!decide (a.cps.getD 0 0 ∈ z.cps.toList))) S
    | .tup xs, .ro ys => (okEq (.tup xs) = true ∧ okEq (.ro ys) = true) ∧ k (.bl (!ys.any fun z => eqD z (.tup xs))) S
    | _, _ => match seqOf S y with
      | some ys => flatD x = true ∧ ys.all flatD = true ∧ k (.bl (!ys.any fun z => eqD z x)) S
      | none => False
  | .lt => ordC .lt x y S k
  | .le => ordC .le x y S k
  | .gt => ordC .gt x y S k
  | .ge => ordC .ge x y S k

def truthW (x : D) (S : Sto) (k : Bool → Sto → Prop) : Prop :=
  match x with
  | .non => k false S
  | .bl b => k b S
  | .int i => k (i != 0) S
  | .str s => s.length ≤ sizeLine ∧ k ((s.length : Int) != 0) S
  | .tup xs => k (!xs.isEmpty) S
  | .ro xs => k (!xs.isEmpty) S
  | .ptr n => match S[n]? with
    | some xs => k (!xs.isEmpty) S
    | none => False
  | .dic _ _ => False
  | .rng _ _ => False
  | .frt xs => k (!xs.isEmpty) S

def isiB (t : String) (x : D) : Option Bool :=
  match x with
  | .non => if t = "int" ∨ t = "bool" ∨ t = "str" ∨ t = "tuple" ∨ t = "list" then some false else none
  | .bl _ => if t = "int" ∨ t = "bool" then some true else if t = "str" ∨ t = "tuple" ∨ t = "list" then some false else none
  | .int _ => if t = "int" then some true else if t = "bool" ∨ t = "str" ∨ t = "tuple" ∨ t = "list" then some false else none
  | .str _ => if t = "str" then some true else if t = "bool" ∨ t = "int" ∨ t = "tuple" ∨ t = "list" then some false else none
  | .tup _ => if t = "tuple" then some true else if t = "bool" ∨ t = "str" ∨ t = "int" ∨ t = "list" then some false else none
  | .ro _ => if t = "list" then some true else if t = "bool" ∨ t = "str" ∨ t = "tuple" ∨ t = "int" then some false else none
  | .ptr _ => if t = "list" then some true else if t = "bool" ∨ t = "str" ∨ t = "tuple" ∨ t = "int" then some false else none
  | .dic _ _ => none
  | .rng _ _ => none
  | .frt _ => none

/-- tuples of two ints -/
def pairsOf : List D → Option (List (Int × Int))
  | [] => some []
  | .tup [.int a, .int b] :: r => (pairsOf r).map ((a, b) :: ·)
  | _ => none
def pairI (p : Int × Int) : D := .tup [.int p.1, .int p.2]
/-- tuples of three ints -/
def tripsOf : List D → Option (List T3)
  | [] => some []
  | .tup [.int a, .int b, .int c] :: r => (tripsOf r).map ((a, b, c) :: ·)
  | _ => none
def tripI (p : T3) : D := .tup [.int p.1, .int p.2.1, .int p.2.2]
@[irreducible] def sortW (x : D) (S : Sto) (k : List D → Prop) : Prop :=
  match seqOf S x with
  | some xs => match intsOf xs with
    | some ns => ∀ ns' : List Int, ns'.Perm ns → ns'.Pairwise (· ≤ ·) → k (ns'.map .int)
    | none => match pairsOf xs with
      | some ps => ∀ ps' : List (Int × Int), ps'.Perm ps → ps'.Pairwise leP → k (ps'.map pairI)
      | none => match tripsOf xs with
        | some ts => ∀ ts' : List T3, ts'.Perm ts → ts'.Pairwise leT → k (ts'.map tripI)
        | none => False
  | none => False
def boolsOf : List D → Option (List Bool)
  | [] => some []
  | .bl b :: r => (boolsOf r).map (b :: ·)
  | _ => none
def strsOf : List D → Option (List Str)
  | [] => some []
  | .str b :: r => (strsOf r).map (b :: ·)
  | _ => none

/-- the least of a tuple of triples -/
def minTW (x : D) (S : Sto) (k : WK) : Prop :=
  match x with
  | .tup xs => match tripsOf xs with
    | some ts => 0 < ts.length ∧ ∀ p, p ∈ ts → (∀ y, y ∈ ts → lexT y p = false) → k (tripI p) S
    | none => False
  | _ => False
/-- the signs of a text -/
def charsD (z : Str) : List D := z.cps.toList.map fun c => D.str ⟨#[c]⟩
def biW (b : BI) (ds : List D) (S : Sto) (k : WK) : Prop :=
  match b, ds with
  | .len, [x] => match x with
    | .str s => s.length ≤ sizeLine ∧ k (.int s.length) S
    | x => match seqOf S x with
      | some xs => k (.int xs.length) S
      | none => False
  | .int, [x] => match x with
    | .int i => k (.int i) S
    | .bl b => k (.int (if b = true then 1 else 0)) S
    | _ => False
  | .abs, [.int i] => k (.int (if i < 0 then -i else i)) S
  | .bool, [x] => match x with
    | .int i => k (.bl (i != 0)) S
    | .bl b => k (.bl b) S
    | _ => False
  | .tuple, [x] => match seqOf S x with
    | some xs => k (.tup xs) S
    | none => False
  | .tuplex, [x] => match listOf S x with
    | some xs => k (.frt xs) S
    | none => False
  | .list, [.str z] => z.length ≤ sizeLine ∧ k (.ro (charsD z)) S
  | .list, [x] => match seqOf S x with
    | some xs => k (.ro xs) S
    | none => False
  | .mlist, [.str z] => z.length ≤ sizeLine ∧ k (.ptr S.length) (S ++ [charsD z])
  | .mlist, [x] => match seqOf S x with
    | some xs => k (.ptr S.length) (S ++ [xs])
    | none => False
  | .max, [.int i, .int j] => k (.int (if j > i then j else i)) S
  | .min, [.int i, .int j] => k (.int (if j < i then j else i)) S
  | .max, [x] => match (seqOf S x).bind intsOf with
    | some ns => 0 < ns.length ∧ ∀ m, m ∈ ns → (∀ y, y ∈ ns → y ≤ m) → k (.int m) S
    | none => False
  | .min, [x] => match (seqOf S x).bind intsOf with
    | some ns => 0 < ns.length ∧ ∀ m, m ∈ ns → (∀ y, y ∈ ns → m ≤ y) → k (.int m) S
    | none => minTW x S k
  | .sum, [x] => match (seqOf S x).bind intsOf with
    | some ns => k (.int ns.sum) S
    | none => False
  | .any, [x] => match (listOf S x).bind boolsOf with
    | some bs => k (.bl (bs.any id)) S
    | none => False
  | .all, [x] => match (listOf S x).bind boolsOf with
    | some bs => k (.bl (bs.all id)) S
    | none => False
  | .sorted, [x] => sortW x S fun ys => k (.ro ys) S
  | .msorted, [x] => sortW x S fun ys => k (.ptr S.length) (S ++ [ys])
  | .str, [.int i] => Nat.log2 i.natAbs < 1920 ∧ k (.str (Str.ofString (toString i))) S
  | .isI t, [x] => match isiB t x with
    | some b => k (.bl b) S
    | none => False
  | .rngv, [.int a, .int b] => ((-(2 ^ 62) ≤ a ∧ a < 2 ^ 62) ∧ -(2 ^ 62) ≤ b ∧ b < 2 ^ 62) ∧ k (.rng a b) S
  | _, _ => False

def appendW (o d : D) (S : Sto) (k : WK) : Prop :=
  match o with
  | .ptr n => match S[n]? with
    | some xs => xs.length < sizeLine ∧ k .non (S.set n (xs ++ [d]))
    | none => False
  | _ => False
def popW (o : D) (S : Sto) (k : WK) : Prop :=
  match o with
  | .ptr n => match S[n]? with
    | some xs => match xs[xs.length - 1]? with
      | some y => k y (S.set n xs.dropLast)
      | none => False
    | none => False
  | _ => False
def popAtW (o d : D) (S : Sto) (k : WK) : Prop :=
  match o, d with
  | .ptr n, .int i => match S[n]? with
    | some xs => match seqIndex? i xs.length with
      | some j => match xs[j]? with
        | some y => (-(2 ^ 63) ≤ i ∧ i < 2 ^ 63) ∧ k y (S.set n (xs.eraseIdx j))
        | none => False
      | none => False
    | none => False
  | _, _ => False
def joinW (o x : D) (S : Sto) (k : WK) : Prop :=
  match o with
  | .str s => match (seqOf S x).bind strsOf with
    | some ys => (ys.map (·.length)).sum + ys.length * s.length ≤ 16777216 ∧ k (.str (Txt.join s ys)) S
    | none => False
  | _ => False
def countW (o x : D) (S : Sto) (k : WK) : Prop :=
  match o, x with
  | .str a, .str b => k (.int (Txt.count a b)) S
  | _, _ => False
def indexW (o : Option (List D)) (x : D) (S : Sto) (k : WK) : Prop :=
  match o with
  | some xs => flatD x = true ∧ xs.all flatD = true ∧ match xs.findIdx? (fun z => eqD z x) with
    | some j => k (.int (j : Nat)) S
    | none => False
  | none => False
def countLW (o : Option (List D)) (x : D) (S : Sto) (k : WK) : Prop :=
  match o with
  | some xs => (flatD x = true ∧ xs.all flatD = true) ∧ k (.int (xs.countP fun z => eqD z x : Nat)) S
  | none => False
def indexSW (o x : D) (S : Sto) (k : WK) : Prop :=
  match o, x with
  | .str a, .str b => b.length = 1 ∧ match a.cps.toList.findIdx? (· == b.cps.getD 0 0) with
    | some j => k (.int (j : Nat)) S
    | none => False
  | _, _ => False
def stripW (o x : D) (S : Sto) (k : WK) : Prop :=
  match o, x with
  | .str a, .str b => a.length ≤ sizeLine ∧ k (.str (Txt.stripChars a b)) S
  | _, _ => False
def indexTW (o x : D) (S : Sto) (k : WK) : Prop :=
  match o, x with
  | .frt xs, .int i => match intsOf xs with
    | some ns => i ∈ ns ∧ k (.int (ns.idxOf i : Nat)) S
    | none => False
  | .frt xs, .str z => match strsOf xs with
    | some ys => z ∈ ys ∧ k (.int (ys.idxOf z : Nat)) S
    | none => False
  | _, _ => False
def methW (m : Mth) (o : D) (ds : List D) (S : Sto) (k : WK) : Prop :=
  match m with
  | .append => match ds with
    | [d] => appendW o d S k
    | _ => False
  | .pop => match ds with
    | [] => popW o S k
    | [d] => popAtW o d S k
    | _ => False
  | .join => match ds with
    | [d] => joinW o d S k
    | _ => False
  | .count => match ds with
    | [d] => countW o d S k
    | _ => False
  | .indexL => match ds with
    | [d] => indexW (listOf S o) d S k
    | _ => False
  | .countL => match ds with
    | [d] => countLW (listOf S o) d S k
    | _ => False
  | .indexS => match ds with
    | [d] => indexSW o d S k
    | _ => False
  | .strip => match ds with
    | [d] => stripW o d S k
    | _ => False
  | .indexT => match ds with
    | [d] => indexTW o d S k
    | _ => False

def mthTy : Mth → D → Prop
  | .append, .ptr _ => True
  | .pop, .ptr _ => True
  | .join, .str _ => True
  | .count, .str _ => True
  | .indexL, .ptr _ => True
  | .indexL, .ro _ => True
  | .countL, .ptr _ => True
  | .countL, .ro _ => True
  | .indexS, .str _ => True
  | .strip, .str _ => True
  | .indexT, .frt _ => True
  | _, _ => False
/-- what a written dict holds -/
def keyEq : Key → Key → Bool
  | .inl i, .inl j => i == j
  | .inr a, .inr b => a == b
  | _, _ => false
def lookD : List Key → List D → Key → Option D
  | k :: ks, d :: ds, y => if keyEq k y = true then some d else lookD ks ds y
  | _, _, _ => none
def idxW (x y : D) (S : Sto) (k : WK) : Prop :=
  match y with
  | .int i => match x with
    | .str z => z.length ≤ sizeLine ∧ match atI z.cps.toList i with
      | some c => k (.str ⟨#[c]⟩) S
      | none => False
    | .dic ks ds => match lookD ks ds (.inl i) with
      | some d => k d S
      | none => False
    | x => match seqOf S x with
      | some xs => match atI xs i with
        | some d => k d S
        | none => False
      | none => False
  | .str s => match x with
    | .dic ks ds => match lookD ks ds (.inr s) with
      | some d => k d S
      | none => False
    | _ => False
  | _ => False
/-- the key that an int or a text is -/
def keyD : D → Option Key
  | .int i => some (.inl i)
  | .str s => some (.inr s)
  | _ => none
/-- what a dict in the making holds: pairs -/
def keysD : List D → List Key
  | .tup [y, _] :: r => match keyD y with
    | some k => k :: keysD r
    | none => keysD r
  | _ :: r => keysD r
  | [] => []
def valsD : List D → List D
  | .tup [_, z] :: r => z :: valsD r
  | _ :: r => valsD r
  | [] => []
/-- a new key is put -/
def putW (y z : D) (out : List D) (k : List D → Prop) : Prop :=
  match keyD y with
  | some key => (out.length < sizeLine ∧ key ∉ keysD out) ∧ k (out ++ [.tup [y, z]])
  | none => False
/-- the key that a datum is, in a dict with keys of many kinds -/
def keyL : D → Option Leaf
  | .non => some .none
  | .bl b => some (.num (if b = true then 1 else 0))
  | .int i => some (.num i)
  | .str s => some (.text s)
  | _ => none
def lookL : List Leaf → List D → Leaf → Option D
  | k :: ks, d :: ds, y => if decide (k = y) = true then some d else lookL ks ds y
  | _, _, _ => none
/-- a dict of the module, asked for a key that it has -/
def tabW (ks : List Leaf) (ds : List D) (y : D) (S : Sto) (k : WK) : Prop :=
  match keyL y with
  | some l => match lookL ks ds l with
    | some d => k d S
    | none => False
  | none => False
/-- min(x, default=None) -/
def minNW (x : D) (S : Sto) (k : WK) : Prop :=
  match (seqOf S x).bind intsOf with
  | some ns => (ns = [] → k .non S) ∧ ∀ m, m ∈ ns → (∀ y, y ∈ ns → m ≤ y) → k (.int m) S
  | none => False

def slcW (x : D) (lo hi : Option Int) (S : Sto) (k : WK) : Prop :=
  match x with
  | .tup xs => k (.tup (cutD xs lo hi)) S
  | .frt xs => k (.frt (cutD xs lo hi)) S
  | .str z => z.length ≤ sizeLine ∧ k (.str (cutS z lo hi)) S
  | x => match listOf S x with
    | some xs => k (.ro (cutD xs lo hi)) S
    | none => False

/-- programs -/
inductive PP where
  | nm (i : Nat)
  | tp (ps : List PP)
inductive IK | sq | rg | en | zp deriving DecidableEq
inductive PX where
  | var (i : Nat)
  | con (x : Str) (d : Int)
  | dat (x : Str) (d : D)
  | tab (x : Str) (ks : List Leaf) (ds : List D) (i : PX)
  | non | bl (b : Bool) | int (i : Int) | str (s : Str)
  | tup (es : List PX) | ls (es : List PX) | mls (es : List PX)
  | bin (op : BOp) (a b : PX)
  | neg (a : PX) | notv (a : PX)
  | cmp (op : COp) (a b : PX)
  | chain (op op' : COp) (a b c : PX)
  | andv (a r : PX) | orv (a r : PX) | one (a : PX)
  | tru (a : PX)
  | ite (c a b : PX)
  | call (f : Nat) (es : List PX)
  | bi (b : BI) (es : List PX)
  | minN (a : PX)
  | dct (ks : List Key) (es : List PX)
  | meth (m : Mth) (o : PX) (es : List PX)
  | lrg (mu : Bool) (a : PX)
  | idx (a i : PX)
  | slc (a : PX) (lo hi : Option PX)
  | comp (mu : Bool) (elt : PX) (p : PP) (own : List (Str × Nat)) (rng : IK) (src : List PX) (cond : Option PX)
  | comp2 (elt : PX) (p : PP) (own : List (Str × Nat)) (rng : IK) (src : List PX) (cond : Option PX) (vs1 : List Nat) (p1 : PP) (rng1 : IK) (src1 : List PX) (cond1 : Option PX)
  | tupX (es : List PX)
  | dcomp (kx vx : PX) (p : PP) (own : List (Str × Nat)) (rng : IK) (src : List PX) (cond : Option PX)
inductive PSt where
  | asg (p : PP) (e : PX)
  | sub (o i e : PX)
  | augS (o i : PX) (op : BOp) (e : PX)
  | par (i j : Nat) (a b : PX)
  | par3 (i j l : Nat) (a b c : PX)
  | aug (i : Nat) (op : BOp) (e : PX)
  | expr (e : PX)
  | ret (e : PX) | retN
  | ite (c : PX) (t e : List PSt)
  | forS (p : PP) (rng : IK) (src : List PX) (b : List PSt)
  | whil (c : PX) (b : List PSt)
  | pass | brk | cont
  /-- what is never come to -/
  | bad

structure DEnds where
  nx : DEnv → Sto → Prop
  rt : WK
  bk : DEnv → Sto → Prop := fun _ _ => False
  ct : DEnv → Sto → Prop := fun _ _ => False

abbrev Calls := Nat → List D → Sto → WK → Prop

mutual
def bindW : PP → D → DEnv → (DEnv → Prop) → Prop
  | .nm i, d, σ, k => k (σ.set i (some d))
  | .tp ps, d, σ, k => match d with
    | .tup ds => ds.length = ps.length ∧ bindWs ps ds σ k
    | _ => False
def bindWs : List PP → List D → DEnv → (DEnv → Prop) → Prop
  | [], ds, σ, k => match ds with
    | [] => k σ
    | _ :: _ => False
  | p :: ps, ds, σ, k => match ds with
    | [] => False
    | d :: ds => bindW p d σ fun σ1 => bindWs ps ds σ1 k
end

def rangeD (lo : Int) (n : Nat) : List D := (List.range n).map fun (i : Nat) => D.int (lo + i)
def downD (lo : Int) (n : Nat) : List D := (List.range n).map fun (i : Nat) => D.int (lo - i)
def enumD (xs : List D) : List D := xs.zipIdx.map fun p => D.tup [.int (p.2 : Nat), p.1]
def big62 (i : Int) : Prop := -(2 ^ 62) ≤ i ∧ i < 2 ^ 62
def pairD (x y : D) : D := .tup [x, y]
/-- what a zip goes over -/
def zsrc : D → Option (List D)
  | .tup xs => some xs
  | .ro xs => some xs
  | .str z => some (charsD z)
  | _ => none
/-- what a loop goes over: its items, and the number of the list if it may change -/
def itW (rng : IK) (ds : List D) (S : Sto) (k : List D → Option Nat → Prop) : Prop :=
  match rng, ds with
  | .rg, [.int n] => big62 n ∧ k (rangeD 0 n.toNat) none
  | .rg, [.int lo, .int hi] => (big62 lo ∧ big62 hi) ∧ k (rangeD lo (hi - lo).toNat) none
  | .rg, [.int lo, .int hi, .int c] => c = -1 ∧ (big62 lo ∧ big62 hi) ∧ k (downD lo (lo - hi).toNat) none
  | .sq, [.tup xs] => k xs none
  | .sq, [.ro xs] => k xs none
  | .sq, [.str z] => k (charsD z) none
  | .sq, [.rng a b] => k (rangeD a (b - a).toNat) none
  | .sq, [.frt xs] => k xs none
  | .sq, [.ptr n] => match S[n]? with
    | some xs => k xs (some n)
    | none => False
  | .en, [.tup xs] => k (enumD xs) none
  | .en, [.ro xs] => k (enumD xs) none
  | .zp, [x, y] => match zsrc x with
    | some xs => match zsrc y with
      | some ys => k (List.zipWith pairD xs ys) none
      | none => False
    | none => False
  | _, _ => False
/-- the list that is gone over stands still -/
def still (src : Option Nat) (xs : List D) (S : Sto) : Prop :=
  match src with
  | none => True
  | some n => S[n]? = some xs

def compW (body : D → Sto → (Bool → D → Sto → Prop) → Prop) (src : Option Nat) (all : List D) : List D → Sto → (List D → Sto → Prop) → Prop
  | [], S, k => still src all S ∧ k [] S
  | x :: xs, S, k => still src all S ∧ body x S fun b d S1 => compW body src all xs S1 fun ds S2 => k (if b = true then d :: ds else ds) S2

/-- a loop that makes one list on -/
def accW (body : D → Sto → List D → (List D → Sto → Prop) → Prop) (src : Option Nat) (all : List D) : List D → Sto → List D → (List D → Sto → Prop) → Prop
  | [], S, out, k => still src all S ∧ k out S
  | x :: xs, S, out, k => still src all S ∧ body x S out fun out1 S1 => accW body src all xs S1 out1 k

def forW (body : D → DEnv → Sto → DEnds → Prop) (src : Option Nat) (all : List D) : List D → DEnv → Sto → DEnds → Prop
  | [], σ, S, e => still src all S ∧ e.nx σ S
  | x :: xs, σ, S, e => still src all S ∧ body x σ S { nx := fun σ1 S1 => forW body src all xs σ1 S1 e, rt := e.rt, bk := e.nx, ct := fun σ1 S1 => forW body src all xs σ1 S1 e }

def wipeD (σ : DEnv) : List Nat → DEnv
  | [] => σ
  | v :: vs => (wipeD σ vs).set v none

mutual
def wE (C : Calls) : PX → DEnv → Sto → WK → Prop
  | .var i, σ, S, k => match σ[i]? with
    | some (some d) => k d S
    | _ => False
  | .con _ d, _, S, k => k (.int d) S
  | .dat _ d, _, S, k => k d S
  | .tab _ ks ds i, σ, S, k => wE C i σ S fun y S1 => tabW ks ds y S1 k
  | .non, _, S, k => k .non S
  | .bl b, _, S, k => k (.bl b) S
  | .int i, _, S, k => k (.int i) S
  | .str s, _, S, k => k (.str s) S
  | .tup es, σ, S, k => wEs C es σ S fun ds S1 => k (.tup ds) S1
  | .tupX es, σ, S, k => wEs C es σ S fun ds S1 => k (.frt ds) S1
  | .ls es, σ, S, k => wEs C es σ S fun ds S1 => k (.ro ds) S1
  | .mls es, σ, S, k => wEs C es σ S fun ds S1 => k (.ptr S1.length) (S1 ++ [ds])
  | .bin op a b, σ, S, k => wE C a σ S fun x S1 => wE C b σ S1 fun y S2 => binW op x y S2 k
  | .neg a, σ, S, k => wE C a σ S fun x S1 => match x with
    | .int i => k (.int (-i)) S1
    | _ => False
  | .notv a, σ, S, k => wE C a σ S fun x S1 => truthW x S1 fun b S2 => k (.bl (!b)) S2
  | .cmp op a b, σ, S, k => wE C a σ S fun x S1 => wE C b σ S1 fun y S2 => cmpW op x y S2 k
  | .chain op op' a b c, σ, S, k => wE C a σ S fun x S1 => wE C b σ S1 fun y S2 => cmpW op x y S2 fun d S3 => match d with
    | .bl true => wE C c σ S3 fun z S4 => cmpW op' y z S4 k
    | .bl false => k (.bl false) S3
    | _ => False
  | .andv a r, σ, S, k => wE C a σ S fun x S1 => match x with
    | .bl true => wE C r σ S1 k
    | .bl false => k (.bl false) S1
    | _ => False
  | .orv a r, σ, S, k => wE C a σ S fun x S1 => match x with
    | .bl true => k (.bl true) S1
    | .bl false => wE C r σ S1 k
    | _ => False
  | .one a, σ, S, k => wE C a σ S k
  | .tru a, σ, S, k => wE C a σ S k
  | .ite c a b, σ, S, k => wT C c σ S fun t S1 => (t = true → wE C a σ S1 k) ∧ (t = false → wE C b σ S1 k)
  | .call f es, σ, S, k => wEs C es σ S fun ds S1 => C f ds S1 k
  | .bi b es, σ, S, k => wEs C es σ S fun ds S1 => biW b ds S1 k
  | .minN a, σ, S, k => wE C a σ S fun x S1 => minNW x S1 k
  | .dct ks es, σ, S, k => wEs C es σ S fun ds S1 => k (.dic ks ds) S1
  | .meth m o es, σ, S, k => wE C o σ S fun x S1 => mthTy m x ∧ wEs C es σ S1 fun ds S2 => methW m x ds S2 k
  | .lrg mu a, σ, S, k => wE C a σ S fun x S1 => match x with
    | .int n => (-(2 ^ 62) ≤ n ∧ n ≤ 16777216) ∧ if mu = true then k (.ptr S1.length) (S1 ++ [rangeD 0 n.toNat]) else k (.ro (rangeD 0 n.toNat)) S1
    | _ => False
  | .idx a i, σ, S, k => wE C a σ S fun x S1 => wE C i σ S1 fun y S2 => idxW x y S2 k
  | .slc a lo hi, σ, S, k => wE C a σ S fun x S1 => wO C lo σ S1 fun l S2 => wO C hi σ S2 fun h S3 => slcW x l h S3 k
  | .comp mu elt p own rng src cond, σ, S, k => wEs C src σ S fun ds S1 => itW rng ds S1 fun xs sr => xs.length < sizeLine ∧
      compW (fun x S2 kk => bindW p x (wipeD σ (own.map (·.2))) fun σ1 => wC C cond σ1 S2 fun b S3 => (b = true → wE C elt σ1 S3 fun d S4 => kk true d S4) ∧ (b = false → kk false .non S3)) sr xs xs S1
        fun out S2 => if mu = true then k (.ptr S2.length) (S2 ++ [out]) else k (.ro out) S2
  | .dcomp kx vx p own rng src cond, σ, S, k => wEs C src σ S fun ds S1 => itW rng ds S1 fun xs sr => True ∧
      accW (fun x S2 out kk => bindW p x (wipeD σ (own.map (·.2))) fun σ1 => wC C cond σ1 S2 fun b S3 => (b = true → wE C kx σ1 S3 fun y S4 => wE C vx σ1 S4 fun z S5 => putW y z out fun o => kk o S5) ∧ (b = false → kk out S3)) sr xs xs S1 [] fun out S2 => k (.dic (keysD out) (valsD out)) S2
  | .comp2 elt p own rng src cond vs1 p1 rng1 src1 cond1, σ, S, k => wEs C src σ S fun ds S1 => itW rng ds S1 fun xs sr => True ∧
      accW (fun x S2 out kk => bindW p x (wipeD σ (own.map (·.2))) fun σ1 => wC C cond σ1 S2 fun b S3 => (b = true → wEs C src1 σ1 S3 fun ds1 S4 => itW rng1 ds1 S4 fun ys sr1 => True ∧
          accW (fun y S5 out1 kk1 => bindW p1 y (wipeD σ1 vs1) fun σ2 => wC C cond1 σ2 S5 fun b1 S6 => (b1 = true → wE C elt σ2 S6 fun d S7 => out1.length < sizeLine ∧ kk1 (out1 ++ [d]) S7) ∧ (b1 = false → kk1 out1 S6)) sr1 ys ys S4 out kk) ∧
        (b = false → kk out S3)) sr xs xs S1 [] fun out S2 => k (.ro out) S2
def wEs (C : Calls) : List PX → DEnv → Sto → (List D → Sto → Prop) → Prop
  | [], _, S, k => k [] S
  | e :: es, σ, S, k => wE C e σ S fun d S1 => wEs C es σ S1 fun ds S2 => k (d :: ds) S2
def wO (C : Calls) : Option PX → DEnv → Sto → (Option Int → Sto → Prop) → Prop
  | none, _, S, k => k none S
  | some e, σ, S, k => wE C e σ S fun d S1 => match d with
    | .int i => k (some i) S1
    | _ => False
def wC (C : Calls) : Option PX → DEnv → Sto → (Bool → Sto → Prop) → Prop
  | none, _, S, k => k true S
  | some e, σ, S, k => wT C e σ S k
def wT (C : Calls) : PX → DEnv → Sto → (Bool → Sto → Prop) → Prop
  | .andv a r, σ, S, k => wT C a σ S fun b S1 => (b = true → wT C r σ S1 k) ∧ (b = false → k false S1)
  | .orv a r, σ, S, k => wT C a σ S fun b S1 => (b = true → k true S1) ∧ (b = false → wT C r σ S1 k)
  | .one a, σ, S, k => wT C a σ S k
  | .notv a, σ, S, k => wT C a σ S fun b S1 => k (!b) S1
  | .tru e, σ, S, k => wE C e σ S fun d S1 => truthW d S1 k
  | .cmp op a b, σ, S, k => wE C a σ S fun x S1 => wE C b σ S1 fun y S2 => cmpW op x y S2 fun d S3 => match d with
    | .bl t => k t S3
    | _ => False
  | .chain op op' a b c, σ, S, k => wE C a σ S fun x S1 => wE C b σ S1 fun y S2 => cmpW op x y S2 fun d S3 => match d with
    | .bl true => wE C c σ S3 fun z S4 => cmpW op' y z S4 fun d S5 => match d with
      | .bl t => k t S5
      | _ => False
    | .bl false => k false S3
    | _ => False
  | _, _, _, _ => False
termination_by structural p => p
end
end Ov

namespace Ov
open PySem L2
def augW (op : BOp) (x y : D) (k : D → Prop) : Prop :=
  match op, x, y with
  | .add, .int a, .int b => k (.int (a + b))
  | .sub, .int a, .int b => k (.int (a - b))
  | _, _, _ => False
def subW (x y d : D) (S : Sto) (k : Sto → Prop) : Prop :=
  match x, y with
  | .ptr n, .int j => match S[n]? with
    | some xs => match ixN xs.length j with
      | some m => k (S.set n (xs.set m d))
      | none => False
    | none => False
  | _, _ => False
def getW (x y : D) (S : Sto) (k : D → Prop) : Prop :=
  match x, y with
  | .ptr n, .int j => match S[n]? with
    | some xs => match atI xs j with
      | some d => 0 ≤ j ∧ k d
      | none => False
    | none => False
  | _, _ => False
mutual
def wS (C : Calls) : PSt → DEnv → Sto → DEnds → Prop
  | .asg p e, σ, S, E => wE C e σ S fun d S1 => bindW p d σ fun σ1 => E.nx σ1 S1
  | .sub o i e, σ, S, E => wE C e σ S fun d S1 => wE C o σ S1 fun x S2 => wE C i σ S2 fun y S3 => subW x y d S3 fun S4 => E.nx σ S4
  | .augS o i op e, σ, S, E => wE C o σ S fun x S1 => wE C i σ S1 fun y S2 => getW x y S2 fun d => wE C e σ S2 fun z S3 => augW op d z fun v => subW x y v S3 fun S4 => E.nx σ S4
  | .par i j a b, σ, S, E => wE C a σ S fun x S1 => wE C b σ S1 fun y S2 => E.nx ((σ.set i (some x)).set j (some y)) S2
  | .par3 i j l a b c, σ, S, E => wE C a σ S fun x S1 => wE C b σ S1 fun y S2 => wE C c σ S2 fun z S3 => E.nx (((σ.set i (some x)).set j (some y)).set l (some z)) S3
  | .aug i op e, σ, S, E => match σ[i]? with
    | some (some x) => wE C e σ S fun y S1 => augW op x y fun z => E.nx (σ.set i (some z)) S1
    | _ => False
  | .expr e, σ, S, E => wE C e σ S fun _ S1 => E.nx σ S1
  | .ret e, σ, S, E => wE C e σ S E.rt
  | .retN, _, S, E => E.rt .non S
  | .ite c t e, σ, S, E => wT C c σ S fun b S1 => (b = true → wSs C t σ S1 E) ∧ (b = false → wSs C e σ S1 E)
  | .forS p rng src b, σ, S, E => wEs C src σ S fun ds S1 => itW rng ds S1 fun xs sr => True ∧
      forW (fun x σ1 S2 E2 => bindW p x σ1 fun σ2 => wSs C b σ2 S2 E2) sr xs xs σ S1 E
  | .whil c b, σ, S, E => ∃ W : Nat → DEnv → Sto → Prop, (∃ m, W m σ S) ∧ ∀ m σ S, W m σ S → wT C c σ S fun t S1 =>
      (t = true → wSs C b σ S1 { nx := fun σ' S' => ∃ m', m' < m ∧ W m' σ' S', rt := E.rt, bk := E.nx, ct := fun σ' S' => ∃ m', m' < m ∧ W m' σ' S' }) ∧ (t = false → E.nx σ S1)
  | .pass, σ, S, E => E.nx σ S
  | .brk, σ, S, E => E.bk σ S
  | .cont, σ, S, E => E.ct σ S
  | .bad, _, _, _ => False
termination_by structural p => p
def wSs (C : Calls) : List PSt → DEnv → Sto → DEnds → Prop
  | [], σ, S, E => E.nx σ S
  | s :: r, σ, S, E => wS C s σ S { E with nx := fun σ1 S1 => wSs C r σ1 S1 E }
termination_by structural p => p
end

/-- a def: its name, its slots (parameters first), how many parameters, its body -/
structure DDef where
  name : Str
  names : List Str
  np : Nat
  body : List PSt
def startD (d : DDef) (ds : List D) : DEnv := ds.map some ++ List.replicate (d.names.length - ds.length) none
def callW (T : List DDef) : Nat → Calls
  | 0 => fun _ _ _ _ => False
  | n + 1 => fun f ds S k => match T[f]? with
    | some d => ds.length = d.np ∧ wSs (callW T n) d.body (startD d ds) S { nx := fun _ S1 => k .non S1, rt := k }
    | none => False
end Ov
-- OvM
/-! What is wanted may be weakened. -/
namespace Ov
open PySem L2
section
variable {k k' : WK}
theorem catW_mono {x y : D} {S : Sto} (i : ∀ d S, k d S → k' d S) : catW x y S k → catW x y S k' := by
  unfold catW
  split
  · exact fun h => ⟨h.1, i _ _ h.2⟩
  · exact fun h => h
theorem binW_mono {op : BOp} {x y : D} {S : Sto} (i : ∀ d S, k d S → k' d S) : binW op x y S k → binW op x y S k' := by
  unfold binW
  split <;> (first | exact fun h => catW_mono i h | exact fun h => i _ _ h | exact fun h => ⟨h.1, i _ _ h.2⟩ | exact fun h => h)
theorem ordC_mono {op : COp} {x y : D} {S : Sto} (i : ∀ d S, k d S → k' d S) : ordC op x y S k → ordC op x y S k' := by
  unfold ordC
  split
  · (first | exact fun h => i _ _ h | exact fun h => ⟨h.1, i _ _ h.2⟩ | exact fun h => h)
  · split <;> (first | exact fun h => i _ _ h | exact fun h => ⟨h.1, i _ _ h.2⟩ | exact fun h => h)
  · (first | exact fun h => i _ _ h | exact fun h => ⟨h.1, i _ _ h.2⟩ | exact fun h => h)
theorem cmpW_mono {op : COp} {x y : D} {S : Sto} (i : ∀ d S, k d S → k' d S) : cmpW op x y S k → cmpW op x y S k' := by
  cases op
  · exact fun h => ⟨h.1, i _ _ h.2⟩
  · exact fun h => ⟨h.1, i _ _ h.2⟩
  · exact ordC_mono i
  · exact ordC_mono i
  · exact ordC_mono i
  · exact ordC_mono i
  · simp only [cmpW]
    split
    · (first | exact fun h => i _ _ h | exact fun h => ⟨h.1, i _ _ h.2⟩ | exact fun h => h)
    · split <;> (first | exact fun h => i _ _ h | exact fun h => ⟨h.1, i _ _ h.2⟩ | exact fun h => h)
    · (first | exact fun h => i _ _ h | exact fun h => ⟨h.1, i _ _ h.2⟩ | exact fun h => h)
  · simp only [cmpW]
    split
    · (first | exact fun h => i _ _ h | exact fun h => ⟨h.1, i _ _ h.2⟩ | exact fun h => h)
    · split <;> (first | exact fun h => i _ _ h | exact fun h => ⟨h.1, i _ _ h.2⟩ | exact fun h => h)
    · (first | exact fun h => i _ _ h | exact fun h => ⟨h.1, i _ _ h.2⟩ | exact fun h => h)
  · simp only [cmpW]
    split
    · (first | exact fun h => i _ _ h | exact fun h => ⟨h.1, i _ _ h.2⟩ | exact fun h => h)
    · (first | exact fun h => i _ _ h | exact fun h => ⟨h.1, i _ _ h.2⟩ | exact fun h => h)
    · (first | exact fun h => i _ _ h | exact fun h => ⟨h.1, i _ _ h.2⟩ | exact fun h => h)
    · split
      · exact fun h => ⟨h.1, h.2.1, i _ _ h.2.2⟩
      · (first | exact fun h => i _ _ h | exact fun h => ⟨h.1, i _ _ h.2⟩ | exact fun h => h)
  · simp only [cmpW]
    split
    · (first | exact fun h => i _ _ h | exact fun h => ⟨h.1, i _ _ h.2⟩ | exact fun h => h)
    · (first | exact fun h => i _ _ h | exact fun h => ⟨h.1, i _ _ h.2⟩ | exact fun h => h)
    · split
      · exact fun h => ⟨h.1, h.2.1, i _ _ h.2.2⟩
      · (first | exact fun h => i _ _ h | exact fun h => ⟨h.1, i _ _ h.2⟩ | exact fun h => h)
theorem truthW_mono {x : D} {S : Sto} {k k' : Bool → Sto → Prop} (i : ∀ d S, k d S → k' d S) : truthW x S k → truthW x S k' := by
  unfold truthW
  split
  · (first | exact fun h => i _ _ h | exact fun h => ⟨h.1, i _ _ h.2⟩ | exact fun h => h)
  · (first | exact fun h => i _ _ h | exact fun h => ⟨h.1, i _ _ h.2⟩ | exact fun h => h)
  · (first | exact fun h => i _ _ h | exact fun h => ⟨h.1, i _ _ h.2⟩ | exact fun h => h)
  · (first | exact fun h => i _ _ h | exact fun h => ⟨h.1, i _ _ h.2⟩ | exact fun h => h)
  · (first | exact fun h => i _ _ h | exact fun h => ⟨h.1, i _ _ h.2⟩ | exact fun h => h)
  · (first | exact fun h => i _ _ h | exact fun h => ⟨h.1, i _ _ h.2⟩ | exact fun h => h)
  · split <;> (first | exact fun h => i _ _ h | exact fun h => ⟨h.1, i _ _ h.2⟩ | exact fun h => h)
  · exact fun h => h
  · exact fun h => h
  · exact fun h => i _ _ h
theorem sortW_mono {x : D} {S : Sto} {k k' : List D → Prop} (i : ∀ d, k d → k' d) : sortW x S k → sortW x S k' := by
  unfold sortW
  split
  · split
    · exact fun h ns' a b => i _ (h ns' a b)
    · split
      · exact fun h ns' a b => i _ (h ns' a b)
      · split
        · exact fun h ns' a b => i _ (h ns' a b)
        · exact fun h => h
  · exact fun h => h
theorem minTW_mono {x : D} {S : Sto} (i : ∀ d S, k d S → k' d S) : minTW x S k → minTW x S k' := by
  unfold minTW
  split
  · split
    · exact fun h => ⟨h.1, fun p a b => i _ _ (h.2 p a b)⟩
    · exact fun h => h
  · exact fun h => h
theorem biW_mono {b : BI} {ds : List D} {S : Sto} (i : ∀ d S, k d S → k' d S) : biW b ds S k → biW b ds S k' := by
  unfold biW
  split <;> first
    | (first | exact fun h => i _ _ h | exact fun h => ⟨h.1, i _ _ h.2⟩ | exact fun h => h)
    | exact sortW_mono (fun d hd => i _ _ hd)
    | (split <;> first
        | (first | exact fun h => i _ _ h | exact fun h => ⟨h.1, i _ _ h.2⟩ | exact fun h => h)
        | exact fun h => ⟨h.1, fun m a b => i _ _ (h.2 m a b)⟩
        | exact minTW_mono i
        | (split <;> (first | exact fun h => i _ _ h | exact fun h => ⟨h.1, i _ _ h.2⟩ | exact fun h => h)))
theorem countW_mono {o d : D} {S : Sto} (i : ∀ d S, k d S → k' d S) : countW o d S k → countW o d S k' := by
  unfold countW
  split
  · exact fun h => i _ _ h
  · exact fun h => h
theorem indexW_mono {o : Option (List D)} {d : D} {S : Sto} (i : ∀ d S, k d S → k' d S) : indexW o d S k → indexW o d S k' := by
  unfold indexW
  split
  · rintro ⟨h1, h2, h⟩
    refine ⟨h1, h2, ?_⟩
    split at h
    · exact i _ _ h
    · exact h
  · exact fun h => h
theorem countLW_mono {o : Option (List D)} {d : D} {S : Sto} (i : ∀ d S, k d S → k' d S) : countLW o d S k → countLW o d S k' := by
  unfold countLW
  split
  · exact fun h => ⟨h.1, i _ _ h.2⟩
  · exact fun h => h
theorem indexSW_mono {o d : D} {S : Sto} (i : ∀ d S, k d S → k' d S) : indexSW o d S k → indexSW o d S k' := by
  unfold indexSW
  split
  · refine fun h => ⟨h.1, ?_⟩
    have h := h.2
    split at h
    · exact i _ _ h
    · exact h
  · exact fun h => h
theorem stripW_mono {o d : D} {S : Sto} (i : ∀ d S, k d S → k' d S) : stripW o d S k → stripW o d S k' := by
  unfold stripW
  split
  · exact fun h => ⟨h.1, i _ _ h.2⟩
  · exact fun h => h
theorem indexTW_mono {o d : D} {S : Sto} (i : ∀ d S, k d S → k' d S) : indexTW o d S k → indexTW o d S k' := by
  unfold indexTW
  split
  · split
    · exact fun h => ⟨h.1, i _ _ h.2⟩
    · exact fun h => h
  · split
    · exact fun h => ⟨h.1, i _ _ h.2⟩
    · exact fun h => h
  · exact fun h => h
theorem methW_mono {m : Mth} {o : D} {ds : List D} {S : Sto} (i : ∀ d S, k d S → k' d S) : methW m o ds S k → methW m o ds S k' := by
  unfold methW
  split
  · split
    · unfold appendW
      split
      · split <;> (first | exact fun h => i _ _ h | exact fun h => ⟨h.1, i _ _ h.2⟩ | exact fun h => h)
      · (first | exact fun h => i _ _ h | exact fun h => ⟨h.1, i _ _ h.2⟩ | exact fun h => h)
    · (first | exact fun h => i _ _ h | exact fun h => ⟨h.1, i _ _ h.2⟩ | exact fun h => h)
  · split
    · unfold popW
      split
      · split
        · split <;> (first | exact fun h => i _ _ h | exact fun h => ⟨h.1, i _ _ h.2⟩ | exact fun h => h)
        · (first | exact fun h => i _ _ h | exact fun h => ⟨h.1, i _ _ h.2⟩ | exact fun h => h)
      · (first | exact fun h => i _ _ h | exact fun h => ⟨h.1, i _ _ h.2⟩ | exact fun h => h)
    · unfold popAtW
      split
      · split
        · split
          · split <;> (first | exact fun h => i _ _ h | exact fun h => ⟨h.1, i _ _ h.2⟩ | exact fun h => h)
          · (first | exact fun h => i _ _ h | exact fun h => ⟨h.1, i _ _ h.2⟩ | exact fun h => h)
        · (first | exact fun h => i _ _ h | exact fun h => ⟨h.1, i _ _ h.2⟩ | exact fun h => h)
      · (first | exact fun h => i _ _ h | exact fun h => ⟨h.1, i _ _ h.2⟩ | exact fun h => h)
    · (first | exact fun h => i _ _ h | exact fun h => ⟨h.1, i _ _ h.2⟩ | exact fun h => h)
  · split
    · unfold joinW
      split
      · split <;> (first | exact fun h => i _ _ h | exact fun h => ⟨h.1, i _ _ h.2⟩ | exact fun h => h)
      · (first | exact fun h => i _ _ h | exact fun h => ⟨h.1, i _ _ h.2⟩ | exact fun h => h)
    · (first | exact fun h => i _ _ h | exact fun h => ⟨h.1, i _ _ h.2⟩ | exact fun h => h)
  · split
    · exact countW_mono i
    · exact fun h => h
  · split
    · exact indexW_mono i
    · exact fun h => h
  · split
    · exact countLW_mono i
    · exact fun h => h
  · split
    · exact indexSW_mono i
    · exact fun h => h
  · split
    · exact stripW_mono i
    · exact fun h => h
  · split
    · exact indexTW_mono i
    · exact fun h => h
theorem idxW_mono {x y : D} {S : Sto} (i : ∀ d S, k d S → k' d S) : idxW x y S k → idxW x y S k' := by
  unfold idxW
  split
  · split
    · intro h
      refine ⟨h.1, ?_⟩
      have h := h.2
      revert h
      split <;> (first | exact fun h => i _ _ h | exact fun h => ⟨h.1, i _ _ h.2⟩ | exact fun h => h)
    · split <;> (first | exact fun h => i _ _ h | exact fun h => h)
    · split
      · split <;> (first | exact fun h => i _ _ h | exact fun h => ⟨h.1, i _ _ h.2⟩ | exact fun h => h)
      · (first | exact fun h => i _ _ h | exact fun h => ⟨h.1, i _ _ h.2⟩ | exact fun h => h)
  · split
    · split <;> (first | exact fun h => i _ _ h | exact fun h => h)
    · exact fun h => h
  · (first | exact fun h => i _ _ h | exact fun h => ⟨h.1, i _ _ h.2⟩ | exact fun h => h)
theorem tabW_mono {ks : List Leaf} {ds : List D} {y : D} {S : Sto} (i : ∀ d S, k d S → k' d S) : tabW ks ds y S k → tabW ks ds y S k' := by
  unfold tabW
  split
  · split
    · exact fun h => i _ _ h
    · exact fun h => h
  · exact fun h => h
theorem minNW_mono {x : D} {S : Sto} (i : ∀ d S, k d S → k' d S) : minNW x S k → minNW x S k' := by
  unfold minNW
  split
  · exact fun h => ⟨fun e => i _ _ (h.1 e), fun m h1 h2 => i _ _ (h.2 m h1 h2)⟩
  · exact fun h => h
theorem slcW_mono {x : D} {lo hi : Option Int} {S : Sto} (i : ∀ d S, k d S → k' d S) : slcW x lo hi S k → slcW x lo hi S k' := by
  unfold slcW
  split
  · (first | exact fun h => i _ _ h | exact fun h => ⟨h.1, i _ _ h.2⟩ | exact fun h => h)
  · (first | exact fun h => i _ _ h | exact fun h => ⟨h.1, i _ _ h.2⟩ | exact fun h => h)
  · (first | exact fun h => i _ _ h | exact fun h => ⟨h.1, i _ _ h.2⟩ | exact fun h => h)
  · split <;> (first | exact fun h => i _ _ h | exact fun h => ⟨h.1, i _ _ h.2⟩ | exact fun h => h)
end
mutual
theorem bindW_mono {k k' : DEnv → Prop} (i : ∀ σ, k σ → k' σ) : ∀ (p : PP) (d : D) (σ : DEnv), bindW p d σ k → bindW p d σ k'
  | .nm j, d, σ, h => i _ h
  | .tp ps, d, σ, h => by
    cases d with
    | tup ds =>
      have h : ds.length = ps.length ∧ bindWs ps ds σ k := h
      exact ⟨h.1, bindWs_mono i ps ds σ h.2⟩
    | _ => exact (show False from h).elim
theorem bindWs_mono {k k' : DEnv → Prop} (i : ∀ σ, k σ → k' σ) : ∀ (ps : List PP) (ds : List D) (σ : DEnv), bindWs ps ds σ k → bindWs ps ds σ k'
  | [], ds, σ, h => by
    cases ds with
    | nil => exact i _ h
    | cons _ _ => exact (show False from h).elim
  | p :: ps, ds, σ, h => by
    cases ds with
    | nil => exact (show False from h).elim
    | cons d ds =>
      have h : bindW p d σ fun σ1 => bindWs ps ds σ1 k := h
      exact bindW_mono (fun σ1 h1 => bindWs_mono i ps ds σ1 h1) p d σ h
end
theorem augW_mono {op : BOp} {x y : D} {k k' : D → Prop} (i : ∀ d, k d → k' d) : augW op x y k → augW op x y k' := by
  unfold augW
  split
  · exact fun h => i _ h
  · exact fun h => i _ h
  · exact fun h => h
theorem subW_mono {x y d : D} {S : Sto} {k k' : Sto → Prop} (i : ∀ d, k d → k' d) : subW x y d S k → subW x y d S k' := by
  unfold subW
  split
  · split
    · split
      · exact fun h => i _ h
      · exact fun h => h
    · exact fun h => h
  · exact fun h => h
theorem getW_mono {x y : D} {S : Sto} {k k' : D → Prop} (i : ∀ d, k d → k' d) : getW x y S k → getW x y S k' := by
  unfold getW
  split
  · split
    · split
      · exact fun h => ⟨h.1, i _ h.2⟩
      · exact fun h => h
    · exact fun h => h
  · exact fun h => h
theorem itW_mono {rng : IK} {ds : List D} {S : Sto} {k k' : List D → Option Nat → Prop} (i : ∀ xs sr, k xs sr → k' xs sr) : itW rng ds S k → itW rng ds S k' := by
  unfold itW
  split
  · exact fun h => ⟨h.1, i _ _ h.2⟩
  · exact fun h => ⟨h.1, i _ _ h.2⟩
  · exact fun h => ⟨h.1, h.2.1, i _ _ h.2.2⟩
  · exact fun h => i _ _ h
  · exact fun h => i _ _ h
  · exact fun h => i _ _ h
  · exact fun h => i _ _ h
  · exact fun h => i _ _ h
  · split
    · exact fun h => i _ _ h
    · exact fun h => h
  · exact fun h => i _ _ h
  · exact fun h => i _ _ h
  · split
    · split
      · exact fun h => i _ _ h
      · exact fun h => h
    · exact fun h => h
  · exact fun h => h
theorem compW_mono {body : D → Sto → (Bool → D → Sto → Prop) → Prop} {src : Option Nat} {all : List D} (hb : ∀ x S (k k' : Bool → D → Sto → Prop), (∀ b d S, k b d S → k' b d S) → body x S k → body x S k') :
    ∀ (xs : List D) (S : Sto) (k k' : List D → Sto → Prop), (∀ d S, k d S → k' d S) → compW body src all xs S k → compW body src all xs S k'
  | [], S, k, k', i, h => ⟨h.1, i _ _ h.2⟩
  | x :: xs, S, k, k', i, h => ⟨h.1, hb x S _ _ (fun b d S1 h1 => compW_mono hb xs S1 _ _ (fun ds S2 h2 => i _ _ h2) h1) h.2⟩

theorem putW_mono {y z : D} {out : List D} {k k' : List D → Prop} (i : ∀ o, k o → k' o) : putW y z out k → putW y z out k' := by
  unfold putW
  split
  · exact fun h => ⟨h.1, i _ h.2⟩
  · exact fun h => h
theorem accW_mono {body : D → Sto → List D → (List D → Sto → Prop) → Prop} {src : Option Nat} {all : List D} (hb : ∀ x S out (k k' : List D → Sto → Prop), (∀ o S, k o S → k' o S) → body x S out k → body x S out k') :
    ∀ (xs : List D) (S : Sto) (out : List D) (k k' : List D → Sto → Prop), (∀ d S, k d S → k' d S) → accW body src all xs S out k → accW body src all xs S out k'
  | [], S, out, k, k', i, h => ⟨h.1, i _ _ h.2⟩
  | x :: xs, S, out, k, k', i, h => ⟨h.1, hb x S out _ _ (fun o S1 h1 => accW_mono hb xs S1 o _ _ i h1) h.2⟩

/-- weaker ends -/
structure DEnds.Le (E E' : DEnds) : Prop where
  nx : ∀ σ S, E.nx σ S → E'.nx σ S
  rt : ∀ d S, E.rt d S → E'.rt d S
  bk : ∀ σ S, E.bk σ S → E'.bk σ S
  ct : ∀ σ S, E.ct σ S → E'.ct σ S
theorem forW_mono {body : D → DEnv → Sto → DEnds → Prop} {src : Option Nat} {all : List D} (hb : ∀ x σ S (E E' : DEnds), E.Le E' → body x σ S E → body x σ S E') :
    ∀ (xs : List D) (σ : DEnv) (S : Sto) (E E' : DEnds), E.Le E' → forW body src all xs σ S E → forW body src all xs σ S E'
  | [], σ, S, E, E', i, h => ⟨h.1, i.nx _ _ h.2⟩
  | x :: xs, σ, S, E, E', i, h => by
    refine ⟨h.1, hb x σ S _ _ ?_ h.2⟩
    exact ⟨fun σ1 S1 h1 => forW_mono hb xs σ1 S1 E E' i h1, i.rt, i.nx, fun σ1 S1 h1 => forW_mono hb xs σ1 S1 E E' i h1⟩

def MonoC (C : Calls) : Prop := ∀ f ds S (k k' : WK), (∀ d S, k d S → k' d S) → C f ds S k → C f ds S k'
section
variable {C : Calls} (hC : MonoC C)
include hC
mutual
theorem wE_mono : ∀ (p : PX) (σ : DEnv) (S : Sto) (k k' : WK), (∀ d S, k d S → k' d S) → wE C p σ S k → wE C p σ S k'
  | .var j, σ, S, k, k', i, h => by
    have h : (match σ[j]? with
      | some (some d) => k d S
      | _ => False) := h
    show (match σ[j]? with
      | some (some d) => k' d S
      | _ => False)
    split at h
    · exact i _ _ h
    · exact h.elim
  | .con _ _, σ, S, k, k', i, h => i _ _ h
  | .dat _ _, σ, S, k, k', i, h => i _ _ h
  | .tab _ ks ds j, σ, S, k, k', i, h => wE_mono j σ S _ _ (fun y S1 h1 => tabW_mono i h1) h
  | .non, σ, S, k, k', i, h => i _ _ h
  | .bl _, σ, S, k, k', i, h => i _ _ h
  | .int _, σ, S, k, k', i, h => i _ _ h
  | .str _, σ, S, k, k', i, h => i _ _ h
  | .tup es, σ, S, k, k', i, h => wEs_mono es σ S _ _ (fun ds S1 h1 => i _ _ h1) h
  | .tupX es, σ, S, k, k', i, h => wEs_mono es σ S _ _ (fun ds S1 h1 => i _ _ h1) h
  | .ls es, σ, S, k, k', i, h => wEs_mono es σ S _ _ (fun ds S1 h1 => i _ _ h1) h
  | .mls es, σ, S, k, k', i, h => wEs_mono es σ S _ _ (fun ds S1 h1 => i _ _ h1) h
  | .bin op a b, σ, S, k, k', i, h => wE_mono a σ S _ _ (fun x S1 h1 => wE_mono b σ S1 _ _ (fun y S2 h2 => binW_mono i h2) h1) h
  | .neg a, σ, S, k, k', i, h => wE_mono a σ S _ _ (fun x S1 h1 => by
    cases x with
    | int j => exact i _ _ h1
    | _ => exact (show False from h1).elim) h
  | .notv a, σ, S, k, k', i, h => wE_mono a σ S _ _ (fun x S1 h1 => truthW_mono (fun b S2 h2 => i _ _ h2) h1) h
  | .cmp op a b, σ, S, k, k', i, h => wE_mono a σ S _ _ (fun x S1 h1 => wE_mono b σ S1 _ _ (fun y S2 h2 => cmpW_mono i h2) h1) h
  | .chain op op' a b c, σ, S, k, k', i, h => wE_mono a σ S _ _ (fun x S1 h1 => wE_mono b σ S1 _ _ (fun y S2 h2 => cmpW_mono (fun d S3 h3 => by
    cases d with
    | bl t =>
      cases t with
      | true => exact wE_mono c σ S3 _ _ (fun z S4 h4 => cmpW_mono i h4) h3
      | false => exact i _ _ h3
    | _ => exact (show False from h3).elim) h2) h1) h
  | .andv a r, σ, S, k, k', i, h => wE_mono a σ S _ _ (fun x S1 h1 => by
    cases x with
    | bl t =>
      cases t with
      | true => exact wE_mono r σ S1 _ _ i h1
      | false => exact i _ _ h1
    | _ => exact (show False from h1).elim) h
  | .orv a r, σ, S, k, k', i, h => wE_mono a σ S _ _ (fun x S1 h1 => by
    cases x with
    | bl t =>
      cases t with
      | false => exact wE_mono r σ S1 _ _ i h1
      | true => exact i _ _ h1
    | _ => exact (show False from h1).elim) h
  | .one a, σ, S, k, k', i, h => wE_mono a σ S k k' i h
  | .tru a, σ, S, k, k', i, h => wE_mono a σ S k k' i h
  | .ite c a b, σ, S, k, k', i, h => wT_mono c σ S _ _ (fun t S1 h1 => ⟨fun e => wE_mono a σ S1 k k' i (h1.1 e), fun e => wE_mono b σ S1 k k' i (h1.2 e)⟩) h
  | .call f es, σ, S, k, k', i, h => wEs_mono es σ S _ _ (fun ds S1 h1 => hC f ds S1 k k' i h1) h
  | .bi b es, σ, S, k, k', i, h => wEs_mono es σ S _ _ (fun ds S1 h1 => biW_mono i h1) h
  | .minN a, σ, S, k, k', i, h => wE_mono a σ S _ _ (fun x S1 h1 => minNW_mono i h1) h
  | .dct ks es, σ, S, k, k', i, h => wEs_mono es σ S _ _ (fun ds S1 h1 => i _ _ h1) h
  | .meth m o es, σ, S, k, k', i, h => wE_mono o σ S _ _ (fun x S1 h1 => ⟨h1.1, wEs_mono es σ S1 _ _ (fun ds S2 h2 => methW_mono i h2) h1.2⟩) h
  | .lrg mu a, σ, S, k, k', i, h => wE_mono a σ S _ _ (fun x S1 h1 => by
    cases x with
    | int n =>
      refine ⟨h1.1, ?_⟩
      have h2 := h1.2
      by_cases hm : mu = true
      · rw [if_pos hm] at h2 ⊢
        exact i _ _ h2
      · rw [if_neg hm] at h2 ⊢
        exact i _ _ h2
    | _ => exact (show False from h1).elim) h
  | .idx a b, σ, S, k, k', i, h => wE_mono a σ S _ _ (fun x S1 h1 => wE_mono b σ S1 _ _ (fun y S2 h2 => idxW_mono i h2) h1) h
  | .slc a lo hi, σ, S, k, k', i, h => wE_mono a σ S _ _ (fun x S1 h1 => wO_mono lo σ S1 _ _ (fun l S2 h2 => wO_mono hi σ S2 _ _ (fun u S3 h3 => slcW_mono i h3) h2) h1) h
  | .comp mu elt p own rng src cond, σ, S, k, k', i, h => wEs_mono src σ S _ _ (fun ds S1 h1 => itW_mono (fun xs sr h2 => ⟨h2.1, compW_mono (fun x S k k' i hb =>
      bindW_mono (fun σ1 h3 => wC_mono cond σ1 S _ _ (fun b S3 h4 => ⟨fun e => wE_mono elt σ1 S3 _ _ (fun d S4 h5 => i _ _ _ h5) (h4.1 e), fun e => i _ _ _ (h4.2 e)⟩) h3) p x _ hb) xs S1 _ _ (fun out S2 h3 => by
        by_cases hm : mu = true
        · simp only [hm, if_true] at h3 ⊢
          exact i _ _ h3
        · simp only [hm, if_false] at h3 ⊢
          exact i _ _ h3) h2.2⟩) h1) h
  | .dcomp kx vx p own rng src cond, σ, S, k, k', i, h => wEs_mono src σ S _ _ (fun ds S1 h1 => itW_mono (fun xs sr h2 => ⟨trivial, accW_mono (fun x S out k k' i hb =>
      bindW_mono (fun σ1 h3 => wC_mono cond σ1 S _ _ (fun b S3 h4 => ⟨fun e => wE_mono kx σ1 S3 _ _ (fun y S4 h5 => wE_mono vx σ1 S4 _ _ (fun z S5 h6 => putW_mono (fun o h7 => i _ _ h7) h6) h5) (h4.1 e), fun e => i _ _ (h4.2 e)⟩) h3) p x _ hb) xs S1 [] _ _ (fun out S2 h3 => i _ _ h3) h2.2⟩) h1) h
  | .comp2 elt p own rng src cond vs1 p1 rng1 src1 cond1, σ, S, k, k', i, h => wEs_mono src σ S _ _ (fun ds S1 h1 => itW_mono (fun xs sr h2 => ⟨trivial, accW_mono (fun x S out k k' i hb =>
      bindW_mono (fun σ1 h3 => wC_mono cond σ1 S _ _ (fun b S3 h4 => ⟨fun e => wEs_mono src1 σ1 S3 _ _ (fun ds1 S4 h5 => itW_mono (fun ys sr1 h6 => ⟨trivial, accW_mono (fun y S out k k' i hb =>
        bindW_mono (fun σ2 h7 => wC_mono cond1 σ2 S _ _ (fun b1 S6 h8 => ⟨fun e => wE_mono elt σ2 S6 _ _ (fun d S7 h9 => ⟨h9.1, i _ _ h9.2⟩) (h8.1 e), fun e => i _ _ (h8.2 e)⟩) h7) p1 y _ hb) ys S4 out _ _ i h6.2⟩) h5) (h4.1 e), fun e => i _ _ (h4.2 e)⟩) h3) p x _ hb) xs S1 [] _ _ (fun out S2 h3 => i _ _ h3) h2.2⟩) h1) h
theorem wEs_mono : ∀ (ps : List PX) (σ : DEnv) (S : Sto) (k k' : List D → Sto → Prop), (∀ d S, k d S → k' d S) → wEs C ps σ S k → wEs C ps σ S k'
  | [], σ, S, k, k', i, h => i _ _ h
  | p :: ps, σ, S, k, k', i, h => wE_mono p σ S _ _ (fun d S1 h1 => wEs_mono ps σ S1 _ _ (fun ds S2 h2 => i _ _ h2) h1) h
theorem wO_mono : ∀ (p : Option PX) (σ : DEnv) (S : Sto) (k k' : Option Int → Sto → Prop), (∀ d S, k d S → k' d S) → wO C p σ S k → wO C p σ S k'
  | none, σ, S, k, k', i, h => i _ _ h
  | some p, σ, S, k, k', i, h => wE_mono p σ S _ _ (fun d S1 h1 => by
    cases d with
    | int j => exact i _ _ h1
    | _ => exact (show False from h1).elim) h
theorem wC_mono : ∀ (p : Option PX) (σ : DEnv) (S : Sto) (k k' : Bool → Sto → Prop), (∀ d S, k d S → k' d S) → wC C p σ S k → wC C p σ S k'
  | none, σ, S, k, k', i, h => i _ _ h
  | some p, σ, S, k, k', i, h => wT_mono p σ S k k' i h
theorem wT_mono : ∀ (p : PX) (σ : DEnv) (S : Sto) (k k' : Bool → Sto → Prop), (∀ d S, k d S → k' d S) → wT C p σ S k → wT C p σ S k'
  | .andv a r, σ, S, k, k', i, h => wT_mono a σ S _ _ (fun b S1 h1 => ⟨fun e => wT_mono r σ S1 k k' i (h1.1 e), fun e => i _ _ (h1.2 e)⟩) h
  | .orv a r, σ, S, k, k', i, h => wT_mono a σ S _ _ (fun b S1 h1 => ⟨fun e => i _ _ (h1.1 e), fun e => wT_mono r σ S1 k k' i (h1.2 e)⟩) h
  | .one a, σ, S, k, k', i, h => wT_mono a σ S k k' i h
  | .notv a, σ, S, k, k', i, h => wT_mono a σ S _ _ (fun b S1 h1 => i _ _ h1) h
  | .tru a, σ, S, k, k', i, h => wE_mono a σ S _ _ (fun d S1 h1 => truthW_mono i h1) h
  | .cmp op a b, σ, S, k, k', i, h => wE_mono a σ S _ _ (fun x S1 h1 => wE_mono b σ S1 _ _ (fun y S2 h2 => cmpW_mono (fun d S3 h3 => by
    cases d with
    | bl t => exact i _ _ h3
    | _ => exact (show False from h3).elim) h2) h1) h
  | .chain op op' a b c, σ, S, k, k', i, h => wE_mono a σ S _ _ (fun x S1 h1 => wE_mono b σ S1 _ _ (fun y S2 h2 => cmpW_mono (fun d S3 h3 => by
    cases d with
    | bl t =>
      cases t with
      | true => exact wE_mono c σ S3 _ _ (fun z S4 h4 => cmpW_mono (fun d S5 h5 => by
        cases d with
        | bl t => exact i _ _ h5
        | _ => exact (show False from h5).elim) h4) h3
      | false => exact i _ _ h3
    | _ => exact (show False from h3).elim) h2) h1) h
  | .var _, _, _, _, _, _, h => h
  | .con _ _, _, _, _, _, _, h => h
  | .dat _ _, _, _, _, _, _, h => h
  | .tab _ _ _ _, _, _, _, _, _, h => h
  | .non, _, _, _, _, _, h => h
  | .bl _, _, _, _, _, _, h => h
  | .int _, _, _, _, _, _, h => h
  | .str _, _, _, _, _, _, h => h
  | .tup _, _, _, _, _, _, h => h
  | .ls _, _, _, _, _, _, h => h
  | .mls _, _, _, _, _, _, h => h
  | .bin _ _ _, _, _, _, _, _, h => h
  | .neg _, _, _, _, _, _, h => h
  | .ite _ _ _, _, _, _, _, _, h => h
  | .call _ _, _, _, _, _, _, h => h
  | .bi _ _, _, _, _, _, _, h => h
  | .meth _ _ _, _, _, _, _, _, h => h
  | .lrg _ _, _, _, _, _, _, h => h
  | .idx _ _, _, _, _, _, _, h => h
  | .slc _ _ _, _, _, _, _, _, h => h
  | .comp _ _ _ _ _ _ _, _, _, _, _, _, h => h
  | .comp2 _ _ _ _ _ _ _ _ _ _ _, _, _, _, _, _, h => h
end
theorem wEs_len : ∀ (ps : List PX) (σ : DEnv) (S : Sto) (k : List D → Sto → Prop), wEs C ps σ S k → wEs C ps σ S fun ds S1 => ds.length = ps.length ∧ k ds S1
  | [], σ, S, k, h => ⟨rfl, h⟩
  | p :: ps, σ, S, k, h => wE_mono hC p σ S _ _ (fun d S1 h1 => wEs_mono hC ps σ S1 _ _ (fun ds S2 h2 => ⟨by rw [List.length_cons, h2.1, List.length_cons], h2.2⟩) (wEs_len ps σ S1 _ h1)) h

mutual
theorem wS_mono : ∀ (s : PSt) (σ : DEnv) (S : Sto) (E E' : DEnds), E.Le E' → wS C s σ S E → wS C s σ S E'
  | .asg p e, σ, S, E, E', i, h => wE_mono hC e σ S _ _ (fun d S1 h1 => bindW_mono (fun σ1 h2 => i.nx _ _ h2) p d σ h1) h
  | .sub o j e, σ, S, E, E', i, h => wE_mono hC e σ S _ _ (fun d S1 h1 => wE_mono hC o σ S1 _ _ (fun x S2 h2 => wE_mono hC j σ S2 _ _ (fun y S3 h3 => subW_mono (fun S4 q => i.nx _ _ q) h3) h2) h1) h
  | .augS o j op e, σ, S, E, E', i, h => wE_mono hC o σ S _ _ (fun x S1 h1 => wE_mono hC j σ S1 _ _ (fun y S2 h2 => getW_mono (fun d h3 => wE_mono hC e σ S2 _ _ (fun z S3 h4 => augW_mono (fun v h5 => subW_mono (fun S4 q => i.nx _ _ q) h5) h4) h3) h2) h1) h
  | .par a b e f, σ, S, E, E', i, h => wE_mono hC e σ S _ _ (fun d S1 h1 => wE_mono hC f σ S1 _ _ (fun x S2 h2 => i.nx _ _ h2) h1) h
  | .par3 a b c e f g, σ, S, E, E', i, h => wE_mono hC e σ S _ _ (fun d S1 h1 => wE_mono hC f σ S1 _ _ (fun x S2 h2 => wE_mono hC g σ S2 _ _ (fun y S3 h3 => i.nx _ _ h3) h2) h1) h
  | .aug j op e, σ, S, E, E', i, h => by
    have h : (match σ[j]? with
      | some (some x) => wE C e σ S fun y S1 => augW op x y fun z => E.nx (σ.set j (some z)) S1
      | _ => False) := h
    show (match σ[j]? with
      | some (some x) => wE C e σ S fun y S1 => augW op x y fun z => E'.nx (σ.set j (some z)) S1
      | _ => False)
    revert h
    split
    · exact fun h => wE_mono hC e σ S _ _ (fun y S1 h1 => augW_mono (fun z q => i.nx _ _ q) h1) h
    · exact fun h => h
  | .expr e, σ, S, E, E', i, h => wE_mono hC e σ S _ _ (fun d S1 h1 => i.nx _ _ h1) h
  | .ret e, σ, S, E, E', i, h => wE_mono hC e σ S _ _ (fun d S1 h1 => i.rt _ _ h1) h
  | .retN, σ, S, E, E', i, h => i.rt _ _ h
  | .ite c t e, σ, S, E, E', i, h => wT_mono hC c σ S _ _ (fun b S1 h1 => ⟨fun q => wSs_mono t σ S1 E E' i (h1.1 q), fun q => wSs_mono e σ S1 E E' i (h1.2 q)⟩) h
  | .forS p rng src b, σ, S, E, E', i, h => wEs_mono hC src σ S _ _ (fun ds S1 h1 => itW_mono (fun xs sr h2 => ⟨trivial, forW_mono (fun x σ1 S2 F F' j hb => bindW_mono (fun σ2 h3 => wSs_mono b σ2 S2 F F' j h3) p x σ1 hb) xs σ S1 E E' i h2.2⟩) h1) h
  | .whil c b, σ, S, E, E', i, h => by
    obtain ⟨W, w0, turn⟩ := h
    refine ⟨W, w0, fun m σ S w => wT_mono hC c σ S _ _ (fun t S1 h1 => ⟨fun q => ?_, fun q => i.nx _ _ (h1.2 q)⟩) (turn m σ S w)⟩
    refine wSs_mono b σ S1 _ _ ?_ (h1.1 q)
    exact ⟨fun _ _ h => h, i.rt, i.nx, fun _ _ h => h⟩
  | .pass, σ, S, E, E', i, h => i.nx _ _ h
  | .brk, σ, S, E, E', i, h => i.bk _ _ h
  | .cont, σ, S, E, E', i, h => i.ct _ _ h
  | .bad, σ, S, E, E', i, h => h.elim
theorem wSs_mono : ∀ (s : List PSt) (σ : DEnv) (S : Sto) (E E' : DEnds), E.Le E' → wSs C s σ S E → wSs C s σ S E'
  | [], σ, S, E, E', i, h => i.nx _ _ h
  | s :: r, σ, S, E, E', i, h => by
    have h : wS C s σ S { E with nx := fun σ1 S1 => wSs C r σ1 S1 E } := h
    show wS C s σ S { E' with nx := fun σ1 S1 => wSs C r σ1 S1 E' }
    refine wS_mono s σ S _ _ ?_ h
    exact ⟨fun σ1 S1 h1 => wSs_mono r σ1 S1 E E' i h1, i.rt, i.bk, i.ct⟩
end
end
theorem callW_mono (T : List DDef) : ∀ n, MonoC (callW T n)
  | 0 => fun f ds S k k' i h => h
  | n + 1 => fun f ds S k k' i h => by
    have h : (match T[f]? with
      | some d => ds.length = d.np ∧ wSs (callW T n) d.body (startD d ds) S { nx := fun _ S1 => k .non S1, rt := k }
      | none => False) := h
    show (match T[f]? with
      | some d => ds.length = d.np ∧ wSs (callW T n) d.body (startD d ds) S { nx := fun _ S1 => k' .non S1, rt := k' }
      | none => False)
    split at h
    · refine ⟨h.1, wSs_mono (callW_mono T n) _ _ _ _ _ ?_ h.2⟩
      exact ⟨fun _ _ q => i _ _ q, i, fun _ _ q => q, fun _ _ q => q⟩
    · exact h.elim
end Ov
-- OvB
namespace Ov
open PySem PySem.Spec PyProof.Rows L2

/-! ### what of the heap a datum is -/
section
variable (K : PySem.W.Frag)
/-- what the module itself holds: read while nothing is tracked -/
def bare : Hp := fun _ => none
def WrL (a : Addr) (xs : List V) : Prop := SqL K bare a xs
def WrT (a : Addr) (xs : List V) : Prop := SqT K bare a xs
theorem bare_rd {a : Addr} {o : HO} (h : Rd bare a o) : False := h.elim (fun e => nomatch e) fun ⟨_, e⟩ => nomatch e
variable (φ : List Addr)
def FixL (ι : List Addr) (H : Hp) (a : Addr) (xs : List V) : Prop := (Rd H a (.lst xs) ∧ a ∉ ι ∧ a ∉ φ) ∨ WrL K a xs
def FixT (ι : List Addr) (H : Hp) (a : Addr) (xs : List V) : Prop := (Rd H a (.tup xs) ∧ a ∉ ι ∧ a ∉ φ) ∨ WrT K a xs
def FixD (ι : List Addr) (H : Hp) (a : Addr) (xs : List (Key × V)) : Prop := Rd H a (.dK xs) ∧ a ∉ ι ∧ a ∉ φ
def FixR (ι : List Addr) (H : Hp) (a : Addr) (lo hi : Int) : Prop := H a = some (.rng lo hi) ∧ a ∉ ι ∧ a ∉ φ
def FixX (ι : List Addr) (H : Hp) (a : Addr) (xs : List V) : Prop := ∃ o : Obj, H a = some (.frz o (.tup xs)) ∧ o.dict = none ∧ a ∉ ι ∧ a ∉ φ
def rgOk (lo hi : Int) : Prop := (-(2 ^ 62) ≤ lo ∧ lo < 2 ^ 62) ∧ -(2 ^ 62) ≤ hi ∧ hi < 2 ^ 62
variable {K} {φ}
theorem FixL.sq {ι : List Addr} {H : Hp} {a : Addr} {xs : List V} (h : FixL K φ ι H a xs) : SqL K H a xs :=
  h.elim (fun r => .inl r.1) fun r => r.elim (fun e => (bare_rd e).elim) .inr
theorem FixT.sq {ι : List Addr} {H : Hp} {a : Addr} {xs : List V} (h : FixT K φ ι H a xs) : SqT K H a xs :=
  h.elim (fun r => .inl r.1) fun r => r.elim (fun e => (bare_rd e).elim) .inr
variable (K) (φ)
mutual
def rep (ι : List Addr) (H : Hp) : D → V → Prop
  | .non, v => v = .non
  | .bl b, v => v = .bl b
  | .int i, v => v = .int i
  | .str s, v => v = .str s
  | .tup ds, v => ∃ a xs, v = .ref a ∧ FixT K φ ι H a xs ∧ reps ι H ds xs
  | .ro ds, v => ∃ a xs, v = .ref a ∧ FixL K φ ι H a xs ∧ reps ι H ds xs
  | .ptr n, v => ∃ a, ι[n]? = some a ∧ v = .ref a
  | .dic ks ds, v => ∃ a xs, v = .ref a ∧ FixD φ ι H a (ks.zip xs) ∧ reps ι H ds xs
  | .rng lo hi, v => ∃ a, v = .ref a ∧ FixR φ ι H a lo hi ∧ rgOk lo hi
  | .frt ds, v => ∃ a xs, v = .ref a ∧ FixX φ ι H a xs ∧ reps ι H ds xs
def reps (ι : List Addr) (H : Hp) : List D → List V → Prop
  | [], vs => vs = []
  | d :: ds, vs => ∃ v r, vs = v :: r ∧ rep ι H d v ∧ reps ι H ds r
end
/-- more may stand, the lists at ι may have changed -/
structure Ext (ι : List Addr) (H : Hp) (ι' : List Addr) (H' : Hp) : Prop where
  more : ∃ m, ι' = ι ++ m
  keep : ∀ a o, H a = some o → a ∉ ι → a ∉ ι' ∧ H' a = some o
structure RelS (ι : List Addr) (H : Hp) (S : Sto) : Prop where
  len : ι.length = S.length
  nd : ι.Nodup
  pv : ∀ a, a ∈ φ → a ∉ ι ∧ ∃ o, H a = some o
  cell : ∀ (n : Nat) (xs : List D), S[n]? = some xs → ∃ a vs, ι[n]? = some a ∧ H a = some (.lst vs) ∧ reps K φ ι H xs vs
structure RelE (ι : List Addr) (H : Hp) (σd : DEnv) (σ : L2.St) : Prop where
  len : σd.length = σ.length
  get : ∀ (i : Nat) (d : D), σd[i]? = some (some d) → ∃ v, σ[i]? = some (some v) ∧ rep K φ ι H d v
end

section
variable {K : PySem.W.Frag} {φ ι ι' ι2 : List Addr} {H H' H2 : Hp} {S : Sto}
theorem Ext.refl : Ext ι H ι H := ⟨⟨[], by simp⟩, fun _ _ h n => ⟨n, h⟩⟩
theorem Ext.trans (a : Ext ι H ι' H') (b : Ext ι' H' ι2 H2) : Ext ι H ι2 H2 := by
  obtain ⟨⟨m, rfl⟩, ka⟩ := a
  obtain ⟨⟨m2, rfl⟩, kb⟩ := b
  refine ⟨⟨m ++ m2, by simp⟩, fun a o h n => ?_⟩
  obtain ⟨n1, h1⟩ := ka a o h n
  exact kb a o h1 n1
theorem Ext.rd {a : Addr} {u : HO} (e : Ext ι H ι' H') (h : Rd H a u) (n : a ∉ ι) : Rd H' a u ∧ a ∉ ι' := by
  rcases h with h | ⟨o, h⟩
  · obtain ⟨x, y⟩ := e.keep a _ h n
    exact ⟨.inl y, x⟩
  · obtain ⟨x, y⟩ := e.keep a _ h n
    exact ⟨.inr ⟨o, y⟩, x⟩
theorem FixL.mono {a : Addr} {xs : List V} (e : Ext ι H ι' H') (h : FixL K φ ι H a xs) : FixL K φ ι' H' a xs := by
  rcases h with ⟨h, n, n2⟩ | h
  · exact .inl ⟨(e.rd h n).1, (e.rd h n).2, n2⟩
  · exact .inr h
theorem FixT.mono {a : Addr} {xs : List V} (e : Ext ι H ι' H') (h : FixT K φ ι H a xs) : FixT K φ ι' H' a xs := by
  rcases h with ⟨h, n, n2⟩ | h
  · exact .inl ⟨(e.rd h n).1, (e.rd h n).2, n2⟩
  · exact .inr h
theorem FixD.mono {a : Addr} {xs : List (Key × V)} (e : Ext ι H ι' H') (h : FixD φ ι H a xs) : FixD φ ι' H' a xs := ⟨(e.rd h.1 h.2.1).1, (e.rd h.1 h.2.1).2, h.2.2⟩
theorem Ext.at {n : Nat} {a : Addr} (e : Ext ι H ι' H') (h : ι[n]? = some a) : ι'[n]? = some a := by
  obtain ⟨⟨m, rfl⟩, _⟩ := e
  have hn : n < ι.length := (List.getElem?_eq_some_iff.mp h).1
  rw [List.getElem?_append_left hn]
  exact h
mutual
theorem rep_mono (e : Ext ι H ι' H') : ∀ (d : D) (v : V), rep K φ ι H d v → rep K φ ι' H' d v
  | .non, _, h => h
  | .bl _, _, h => h
  | .int _, _, h => h
  | .str _, _, h => h
  | .tup ds, v, h => by
    obtain ⟨a, xs, r, f, q⟩ := h
    exact ⟨a, xs, r, f.mono e, reps_mono e ds xs q⟩
  | .ro ds, v, h => by
    obtain ⟨a, xs, r, f, q⟩ := h
    exact ⟨a, xs, r, f.mono e, reps_mono e ds xs q⟩
  | .ptr n, v, h => by
    obtain ⟨a, f, q⟩ := h
    exact ⟨a, e.at f, q⟩
  | .dic ks ds, v, h => by
    obtain ⟨a, xs, r, f, q⟩ := h
    exact ⟨a, xs, r, f.mono e, reps_mono e ds xs q⟩
  | .rng lo hi, v, h => by
    obtain ⟨a, r, ⟨f, n1, n2⟩, q⟩ := h
    exact ⟨a, r, ⟨(e.keep a _ f n1).2, (e.keep a _ f n1).1, n2⟩, q⟩
  | .frt ds, v, h => by
    obtain ⟨a, xs, r, ⟨o, f, hd, n1, n2⟩, q⟩ := h
    exact ⟨a, xs, r, ⟨o, (e.keep a _ f n1).2, hd, (e.keep a _ f n1).1, n2⟩, reps_mono e ds xs q⟩
theorem reps_mono (e : Ext ι H ι' H') : ∀ (ds : List D) (vs : List V), reps K φ ι H ds vs → reps K φ ι' H' ds vs
  | [], _, h => h
  | d :: ds, vs, h => by
    obtain ⟨v, r, q, h1, h2⟩ := h
    exact ⟨v, r, q, rep_mono e d v h1, reps_mono e ds r h2⟩
end
theorem reps_len : ∀ {ds : List D} {vs : List V}, reps K φ ι H ds vs → vs.length = ds.length
  | [], _, h => by
    obtain rfl : _ = [] := h
    rfl
  | d :: ds, vs, h => by
    obtain ⟨v, r, rfl, _, h2⟩ := h
    rw [List.length_cons, List.length_cons, reps_len h2]
theorem reps_get : ∀ {ds : List D} {vs : List V} {i : Nat} {d : D}, reps K φ ι H ds vs → ds[i]? = some d → ∃ v, vs[i]? = some v ∧ rep K φ ι H d v
  | [], _, _, _, _, e => by simp at e
  | x :: ds, vs, 0, d, h, e => by
    obtain ⟨v, r, rfl, h1, _⟩ := h
    simp at e
    subst e
    exact ⟨v, rfl, h1⟩
  | x :: ds, vs, i + 1, d, h, e => by
    obtain ⟨v, r, rfl, _, h2⟩ := h
    simp at e
    obtain ⟨w, q1, q2⟩ := reps_get h2 e
    exact ⟨w, by simpa using q1, q2⟩
theorem reps_append : ∀ {ds es : List D} {vs us : List V}, reps K φ ι H ds vs → reps K φ ι H es us → reps K φ ι H (ds ++ es) (vs ++ us)
  | [], _, _, _, h, q => by
    obtain rfl : _ = [] := h
    exact q
  | d :: ds, es, vs, us, h, q => by
    obtain ⟨v, r, rfl, h1, h2⟩ := h
    exact ⟨v, r ++ us, rfl, h1, reps_append h2 q⟩
theorem reps_take : ∀ {ds : List D} {vs : List V} (n : Nat), reps K φ ι H ds vs → reps K φ ι H (ds.take n) (vs.take n)
  | [], _, n, h => by
    obtain rfl : _ = [] := h
    simp [reps]
  | d :: ds, vs, 0, h => by simp [reps]
  | d :: ds, vs, n + 1, h => by
    obtain ⟨v, r, rfl, h1, h2⟩ := h
    exact ⟨v, r.take n, rfl, h1, reps_take n h2⟩
theorem reps_drop : ∀ {ds : List D} {vs : List V} (n : Nat), reps K φ ι H ds vs → reps K φ ι H (ds.drop n) (vs.drop n)
  | [], _, n, h => by
    obtain rfl : _ = [] := h
    simp [reps]
  | d :: ds, vs, 0, h => h
  | d :: ds, vs, n + 1, h => by
    obtain ⟨v, r, rfl, h1, h2⟩ := h
    exact reps_drop n h2
theorem reps_set : ∀ {ds : List D} {vs : List V} {d : D} {v : V} (n : Nat), reps K φ ι H ds vs → rep K φ ι H d v → reps K φ ι H (ds.set n d) (vs.set n v)
  | [], _, _, _, n, h, _ => by
    obtain rfl : _ = [] := h
    simp [reps]
  | x :: ds, vs, d, v, 0, h, q => by
    obtain ⟨w, r, rfl, h1, h2⟩ := h
    exact ⟨v, r, rfl, q, h2⟩
  | x :: ds, vs, d, v, n + 1, h, q => by
    obtain ⟨w, r, rfl, h1, h2⟩ := h
    exact ⟨w, r.set n v, rfl, h1, reps_set n h2 q⟩
theorem reps_erase : ∀ {ds : List D} {vs : List V} (n : Nat), reps K φ ι H ds vs → reps K φ ι H (ds.eraseIdx n) (vs.eraseIdx n)
  | [], _, n, h => by
    obtain rfl : _ = [] := h
    simp [reps]
  | x :: ds, vs, 0, h => by
    obtain ⟨w, r, rfl, h1, h2⟩ := h
    exact h2
  | x :: ds, vs, n + 1, h => by
    obtain ⟨w, r, rfl, h1, h2⟩ := h
    exact ⟨w, r.eraseIdx n, rfl, h1, reps_erase n h2⟩
theorem reps_dropLast {ds : List D} {vs : List V} (h : reps K φ ι H ds vs) : reps K φ ι H ds.dropLast vs.dropLast := by
  have e := reps_len h
  rw [List.dropLast_eq_take, List.dropLast_eq_take, e]
  exact reps_take _ h
theorem reps_isEmpty {ds : List D} {vs : List V} (h : reps K φ ι H ds vs) : vs.isEmpty = ds.isEmpty := by
  have e := reps_len h
  cases ds <;> cases vs <;> simp at e ⊢

/-- a new object that no datum is -/
theorem Ext.new {p : Addr} {o : HO} (h : H p = none) : Ext ι H ι (upd H p o) :=
  ⟨⟨[], by simp⟩, fun a u e n => ⟨n, by rw [upd_ne (ne_of_none e h)]; exact e⟩⟩
theorem RelS.mono (R : RelS K φ ι H S) (e : Ext ι H ι H') (k : ∀ a, a ∈ ι → H' a = H a) : RelS K φ ι H' S := ⟨R.len, R.nd, fun a ha => by
    obtain ⟨n, o, h⟩ := R.pv a ha
    exact ⟨n, o, (e.keep a o h n).2⟩, fun n xs h => by
  obtain ⟨a, vs, h1, h2, h3⟩ := R.cell n xs h
  refine ⟨a, vs, h1, ?_, reps_mono e _ _ h3⟩
  rw [k a (List.mem_of_getElem? h1)]
  exact h2⟩
theorem RelS.mem (R : RelS K φ ι H S) {a : Addr} (h : a ∈ ι) : ∃ vs, H a = some (.lst vs) := by
  obtain ⟨n, hn, e⟩ := List.getElem_of_mem h
  have hl : n < S.length := by rw [← R.len]; exact hn
  obtain ⟨b, vs, h1, h2, _⟩ := R.cell n S[n] (List.getElem?_eq_getElem hl)
  rw [List.getElem?_eq_getElem hn, e] at h1
  cases h1
  exact ⟨vs, h2⟩
theorem RelS.notMem (R : RelS K φ ι H S) {p : Addr} (h : H p = none) : p ∉ ι := fun hp => by
  obtain ⟨vs, e⟩ := R.mem hp
  rw [h] at e
  cases e
theorem RelS.priv (R : RelS K φ ι H S) {p : Addr} (h : H p = none) : p ∉ φ := fun hp => by
  obtain ⟨_, o, e⟩ := R.pv p hp
  rw [h] at e
  cases e
theorem RelS.new {p : Addr} {o : HO} (R : RelS K φ ι H S) (h : H p = none) : RelS K φ ι (upd H p o) S :=
  R.mono (.new h) fun a ha => upd_ne fun e => R.notMem h (e ▸ ha)
/-- a new list that may change -/
theorem Ext.newPtr {p : Addr} {o : HO} (h : H p = none) : Ext ι H (ι ++ [p]) (upd H p o) :=
  ⟨⟨[p], rfl⟩, fun a u e n => ⟨by
    have := ne_of_none e h
    simp [n, this], by rw [upd_ne (ne_of_none e h)]; exact e⟩⟩
theorem RelS.newPtr {p : Addr} {ds : List D} {vs : List V} (R : RelS K φ ι H S) (h : H p = none) (r : reps K φ ι H ds vs) : RelS K φ (ι ++ [p]) (upd H p (.lst vs)) (S ++ [ds]) := by
  have hp := R.notMem h
  have E : Ext ι H (ι ++ [p]) (upd H p (.lst vs)) := .newPtr h
  refine ⟨by simp [R.len], ?_, fun a ha => by
    obtain ⟨n, o, h⟩ := R.pv a ha
    exact ⟨(E.keep a o h n).1, o, (E.keep a o h n).2⟩, fun n xs e => ?_⟩
  · rw [List.nodup_append]
    refine ⟨R.nd, by simp, fun a ha b hb => ?_⟩
    rw [List.mem_singleton] at hb
    subst hb
    exact fun z => hp (z ▸ ha)
  · by_cases hn : n < S.length
    · rw [List.getElem?_append_left hn] at e
      obtain ⟨a, ws, h1, h2, h3⟩ := R.cell n xs e
      have ha : a ≠ p := fun z => by
        rw [z, h] at h2
        cases h2
      exact ⟨a, ws, E.at h1, by rw [upd_ne ha]; exact h2, reps_mono E _ _ h3⟩
    · have hn2 : n = S.length := by
        have := (List.getElem?_eq_some_iff.mp e).1
        simp at this
        omega
      subst hn2
      rw [List.getElem?_append_right (Nat.le_refl _)] at e
      simp at e
      subst e
      refine ⟨p, vs, ?_, upd_same, reps_mono E _ _ r⟩
      rw [← R.len, List.getElem?_append_right (Nat.le_refl _)]
      simp
/-- a list that may change, changed -/
theorem Ext.set {n : Nat} {a : Addr} {o : HO} (h : ι[n]? = some a) : Ext ι H ι (upd H a o) :=
  ⟨⟨[], by simp⟩, fun b u e nb => ⟨nb, by
    have hb : b ≠ a := fun z => nb (by rw [z]; exact List.mem_of_getElem? h)
    rw [upd_ne hb]; exact e⟩⟩
theorem RelS.set {n : Nat} {a : Addr} {ds : List D} {vs : List V} (R : RelS K φ ι H S) (h : ι[n]? = some a) (r : reps K φ ι H ds vs) : RelS K φ ι (upd H a (.lst vs)) (S.set n ds) := by
  have E : Ext ι H ι (upd H a (.lst vs)) := .set h
  refine ⟨by simp [R.len], R.nd, fun a ha => by
    obtain ⟨n, o, h⟩ := R.pv a ha
    exact ⟨n, o, (E.keep a o h n).2⟩, fun m xs e => ?_⟩
  by_cases hm : m = n
  · subst hm
    have hl : m < S.length := by
      have := (List.getElem?_eq_some_iff.mp e).1
      simpa using this
    rw [List.getElem?_set_self hl] at e
    cases e
    exact ⟨a, vs, h, upd_same, reps_mono E _ _ r⟩
  · rw [List.getElem?_set_ne (Ne.symm hm)] at e
    obtain ⟨b, ws, h1, h2, h3⟩ := R.cell m xs e
    have hb : b ≠ a := fun z => by
      subst z
      have h1' := List.getElem?_eq_some_iff.mp h1
      have h2' := List.getElem?_eq_some_iff.mp h
      exact hm ((List.getElem_inj R.nd).mp (h1'.2.trans h2'.2.symm))
    exact ⟨b, ws, h1, by rw [upd_ne hb]; exact h2, reps_mono E _ _ h3⟩
theorem RelE.mono {σd : DEnv} {σ : L2.St} (E : Ext ι H ι' H') (R : RelE K φ ι H σd σ) : RelE K φ ι' H' σd σ :=
  ⟨R.len, fun i d h => by
    obtain ⟨v, h1, h2⟩ := R.get i d h
    exact ⟨v, h1, rep_mono E _ _ h2⟩⟩
theorem RelE.set {σd : DEnv} {σ : L2.St} {i : Nat} {d : D} {v : V} (R : RelE K φ ι H σd σ) (r : rep K φ ι H d v) : RelE K φ ι H (σd.set i (some d)) (σ.set i (some v)) := by
  refine ⟨by simp [R.len], fun j e h => ?_⟩
  by_cases hj : j = i
  · subst hj
    have hl : j < σd.length := by
      have := (List.getElem?_eq_some_iff.mp h).1
      simpa using this
    rw [List.getElem?_set_self hl] at h
    cases h
    exact ⟨v, List.getElem?_set_self (by rw [← R.len]; exact hl), r⟩
  · rw [List.getElem?_set_ne (Ne.symm hj)] at h
    obtain ⟨w, h1, h2⟩ := R.get j e h
    exact ⟨w, by rw [List.getElem?_set_ne (Ne.symm hj)]; exact h1, h2⟩
theorem RelE.wipe {σd : DEnv} {σ : L2.St} (R : RelE K φ ι H σd σ) : ∀ vs : List Nat, RelE K φ ι H (wipeD σd vs) (wipe σ vs)
  | [] => R
  | v :: vs => by
    have ih := RelE.wipe R vs
    refine ⟨by simp only [wipeD, L2.wipe, List.length_set]; exact ih.len, fun j e h => ?_⟩
    have h : ((wipeD σd vs).set v none)[j]? = some (some e) := h
    by_cases hj : j = v
    · subst hj
      by_cases hl : j < (wipeD σd vs).length
      · rw [List.getElem?_set_self hl] at h
        cases h
      · rw [List.getElem?_eq_none (by simpa using hl)] at h
        cases h
    · rw [List.getElem?_set_ne (Ne.symm hj)] at h
      obtain ⟨w, h1, h2⟩ := ih.get j e h
      exact ⟨w, by show ((L2.wipe σ vs).set v none)[j]? = _; rw [List.getElem?_set_ne (Ne.symm hj)]; exact h1, h2⟩
theorem FixX.fix {K : PySem.W.Frag} {φ ι : List Addr} {H : Hp} {a : Addr} {xs : List V} (h : FixX φ ι H a xs) : FixT K φ ι H a xs := by
  obtain ⟨o, f, _, n1, n2⟩ := h
  exact .inl ⟨.inr ⟨o, f⟩, n1, n2⟩
theorem frt_tup {K : PySem.W.Frag} {φ ι : List Addr} {H : Hp} {ds : List D} {v : V} (h : rep K φ ι H (.frt ds) v) : rep K φ ι H (.tup ds) v := by
  obtain ⟨a, xs, r, f, q⟩ := h
  exact ⟨a, xs, r, f.fix, q⟩
theorem seq_of {d : D} {v : V} {xs : List D} (R : RelS K φ ι H S) (h : rep K φ ι H d v) (e : seqOf S d = some xs) : ∃ a vs, v = .ref a ∧ (SqL K H a vs ∨ SqT K H a vs) ∧ reps K φ ι H xs vs := by
  cases d with
  | ro ds =>
    obtain ⟨a, vs, rfl, f, q⟩ := h
    cases e
    exact ⟨a, vs, rfl, .inl f.sq, q⟩
  | tup ds =>
    obtain ⟨a, vs, rfl, f, q⟩ := h
    cases e
    exact ⟨a, vs, rfl, .inr f.sq, q⟩
  | ptr n =>
    obtain ⟨a, ha, rfl⟩ := h
    obtain ⟨b, vs, h1, h2, h3⟩ := R.cell n xs e
    rw [ha] at h1
    cases h1
    exact ⟨a, vs, rfl, .inl (SqL.of h2), h3⟩
  | non => cases e
  | bl => cases e
  | int => cases e
  | str => cases e
  | dic => cases e
  | rng => cases e
  | frt ds =>
    obtain ⟨a, vs, rfl, f, q⟩ := h
    cases e
    exact ⟨a, vs, rfl, .inr f.fix.sq, q⟩
theorem list_of {d : D} {v : V} {xs : List D} (R : RelS K φ ι H S) (h : rep K φ ι H d v) (e : listOf S d = some xs) : ∃ a vs, v = .ref a ∧ SqL K H a vs ∧ reps K φ ι H xs vs := by
  cases d with
  | ro ds =>
    obtain ⟨a, vs, rfl, f, q⟩ := h
    cases e
    exact ⟨a, vs, rfl, f.sq, q⟩
  | ptr n =>
    obtain ⟨a, ha, rfl⟩ := h
    obtain ⟨b, vs, h1, h2, h3⟩ := R.cell n xs e
    rw [ha] at h1
    cases h1
    exact ⟨a, vs, rfl, SqL.of h2, h3⟩
  | tup => cases e
  | non => cases e
  | bl => cases e
  | int => cases e
  | str => cases e
  | dic => cases e
  | rng => cases e
  | frt => cases e
theorem ints_of : ∀ {xs : List D} {vs : List V} {ns : List Int}, reps K φ ι H xs vs → intsOf xs = some ns → vs = ns.map V.int
  | [], vs, ns, h, e => by
    obtain rfl : vs = [] := h
    cases e
    rfl
  | .int i :: xs, vs, ns, h, e => by
    obtain ⟨v, r, rfl, h1, h2⟩ := h
    obtain rfl : v = .int i := h1
    obtain ⟨ms, e1, e2⟩ := Option.map_eq_some_iff.mp (show (intsOf xs).map (i :: ·) = some ns from e)
    subst e2
    rw [ints_of h2 e1]
    rfl
  | .non :: _, _, _, _, e => by cases e
  | .bl _ :: _, _, _, _, e => by cases e
  | .str _ :: _, _, _, _, e => by cases e
  | .tup _ :: _, _, _, _, e => by cases e
  | .ro _ :: _, _, _, _, e => by cases e
  | .ptr _ :: _, _, _, _, e => by cases e
  | .dic _ _ :: _, _, _, _, e => by cases e
  | .rng _ _ :: _, _, _, _, e => by cases e
  | .frt _ :: _, _, _, _, e => by cases e
theorem bools_of : ∀ {xs : List D} {vs : List V} {ns : List Bool}, reps K φ ι H xs vs → boolsOf xs = some ns → vs = ns.map V.bl
  | [], vs, ns, h, e => by
    obtain rfl : vs = [] := h
    cases e
    rfl
  | .bl i :: xs, vs, ns, h, e => by
    obtain ⟨v, r, rfl, h1, h2⟩ := h
    obtain rfl : v = .bl i := h1
    obtain ⟨ms, e1, e2⟩ := Option.map_eq_some_iff.mp (show (boolsOf xs).map (i :: ·) = some ns from e)
    subst e2
    rw [bools_of h2 e1]
    rfl
  | .non :: _, _, _, _, e => by cases e
  | .int _ :: _, _, _, _, e => by cases e
  | .str _ :: _, _, _, _, e => by cases e
  | .tup _ :: _, _, _, _, e => by cases e
  | .ro _ :: _, _, _, _, e => by cases e
  | .ptr _ :: _, _, _, _, e => by cases e
  | .dic _ _ :: _, _, _, _, e => by cases e
  | .rng _ _ :: _, _, _, _, e => by cases e
  | .frt _ :: _, _, _, _, e => by cases e
theorem strs_of : ∀ {xs : List D} {vs : List V} {ns : List Str}, reps K φ ι H xs vs → strsOf xs = some ns → vs = ns.map V.str
  | [], vs, ns, h, e => by
    obtain rfl : vs = [] := h
    cases e
    rfl
  | .str i :: xs, vs, ns, h, e => by
    obtain ⟨v, r, rfl, h1, h2⟩ := h
    obtain rfl : v = .str i := h1
    obtain ⟨ms, e1, e2⟩ := Option.map_eq_some_iff.mp (show (strsOf xs).map (i :: ·) = some ns from e)
    subst e2
    rw [strs_of h2 e1]
    rfl
  | .non :: _, _, _, _, e => by cases e
  | .int _ :: _, _, _, _, e => by cases e
  | .bl _ :: _, _, _, _, e => by cases e
  | .tup _ :: _, _, _, _, e => by cases e
  | .ro _ :: _, _, _, _, e => by cases e
  | .ptr _ :: _, _, _, _, e => by cases e
  | .dic _ _ :: _, _, _, _, e => by cases e
  | .rng _ _ :: _, _, _, _, e => by cases e
  | .frt _ :: _, _, _, _, e => by cases e
mutual
theorem dp_of : ∀ {d : D} {v : V}, noPtr d = true → rep K φ ι H d v → Dp K H v (toPy d)
  | .non, v, _, h => by
    obtain rfl : v = .non := h
    exact .non
  | .bl b, v, _, h => by
    obtain rfl : v = .bl b := h
    exact .bl b
  | .int b, v, _, h => by
    obtain rfl : v = .int b := h
    exact .int b
  | .str b, v, _, h => by
    obtain rfl : v = .str b := h
    exact .str b
  | .tup ds, v, n, h => by
    obtain ⟨a, xs, rfl, f, q⟩ := h
    exact .tup f.sq (dps_of n q)
  | .ro ds, v, n, h => by
    obtain ⟨a, xs, rfl, f, q⟩ := h
    exact .lst f.sq (dps_of n q)
  | .ptr _, _, n, _ => by cases n
  | .dic _ _, _, n, _ => by cases n
  | .rng _ _, _, n, _ => by cases n
  | .frt _, _, n, _ => by cases n
theorem dps_of : ∀ {ds : List D} {vs : List V}, noPtrs ds = true → reps K φ ι H ds vs → DpAll K H vs (toPys ds)
  | [], vs, _, h => by
    obtain rfl : vs = [] := h
    exact .nil
  | d :: ds, vs, n, h => by
    obtain ⟨v, r, rfl, h1, h2⟩ := h
    have n : (noPtr d && noPtrs ds) = true := n
    rw [Bool.and_eq_true] at n
    exact .cons (dp_of n.1 h1) (dps_of n.2 h2)
end
end
end Ov
-- OvC
namespace Ov
open PySem PySem.Spec PyProof.Rows L2

/-- what is wanted behind an expression, of the heap -/
def Post (K : PySem.W.Frag) (φ ι : List Addr) (H : Hp) (k : WK) (Q : VK) : Prop :=
  ∀ d S' ι' H' v, k d S' → Ext ι H ι' H' → RelS K φ ι' H' S' → rep K φ ι' H' d v → Q v H'
section
variable {K : PySem.W.Frag} {φ ι ι' : List Addr} {H H' : Hp} {S : Sto} {k : WK} {Q : VK}
theorem Post.step (P : Post K φ ι H k Q) (e : Ext ι H ι' H') : Post K φ ι' H' k Q := fun d S' ι2 H2 v h e2 R r => P d S' ι2 H2 v h (e.trans e2) R r
theorem Post.here (P : Post K φ ι H k Q) (R : RelS K φ ι H S) {d : D} {v : V} (h : k d S) (r : rep K φ ι H d v) : Q v H := P d S ι H v h .refl R r
/-- a new tuple, a new list that is only read -/
theorem Post.tup (P : Post K φ ι H k Q) (R : RelS K φ ι H S) {ds : List D} {vs : List V} (h : k (.tup ds) S) (r : reps K φ ι H ds vs) {p : Addr} (hp : H p = none) : Q (.ref p) (upd H p (.tup vs)) :=
  P _ S ι _ _ h (.new hp) (R.new hp) ⟨p, vs, rfl, .inl ⟨.inl upd_same, R.notMem hp, R.priv hp⟩, reps_mono (.new hp) _ _ r⟩
theorem Post.ro (P : Post K φ ι H k Q) (R : RelS K φ ι H S) {ds : List D} {vs : List V} (h : k (.ro ds) S) (r : reps K φ ι H ds vs) {p : Addr} (hp : H p = none) : Q (.ref p) (upd H p (.lst vs)) :=
  P _ S ι _ _ h (.new hp) (R.new hp) ⟨p, vs, rfl, .inl ⟨.inl upd_same, R.notMem hp, R.priv hp⟩, reps_mono (.new hp) _ _ r⟩
theorem Post.mls (P : Post K φ ι H k Q) (R : RelS K φ ι H S) {ds : List D} {vs : List V} (h : k (.ptr S.length) (S ++ [ds])) (r : reps K φ ι H ds vs) {p : Addr} (hp : H p = none) : Q (.ref p) (upd H p (.lst vs)) :=
  P _ _ (ι ++ [p]) _ _ h (.newPtr hp) (R.newPtr hp r) ⟨p, by rw [← R.len, List.getElem?_append_right (Nat.le_refl _)]; simp, rfl⟩
/-- a list that may change, changed -/
theorem Post.set (P : Post K φ ι H k Q) (R : RelS K φ ι H S) {n : Nat} {a : Addr} {ds : List D} {vs : List V} {d : D} {v : V} (h : k d (S.set n ds)) (ha : ι[n]? = some a) (r : reps K φ ι H ds vs) (rv : rep K φ ι H d v) : Q v (upd H a (.lst vs)) :=
  P _ _ ι _ _ h (.set ha) (R.set ha r) (rep_mono (.set ha) _ _ rv)
end

/-! ### the best rule for an operation -/
section
variable (X : Cx)
def OpB (f : Value → Value → Sem Value) : R2 := fun x y H Q => ∃ r, OpR X f r ∧ r x y H Q
def UnB (f : Value → Sem Value) : V → Hp → VK → Prop := fun x H Q => ∃ r, UnR X f r ∧ r x H Q
def CallB (f : Value) : List V → Hp → VK → Prop := fun xs H Q => ∃ r, CallR X f r ∧ r xs H Q
def IxB : R2 := fun x y H Q => ∃ r, IxR X r ∧ r x y H Q
def SlB : V → Option Int → Option Int → Hp → VK → Prop := fun x lo hi H Q => ∃ r, SlR X r ∧ r x lo hi H Q
def MtB (id : String) : V → List V → Hp → VK → Prop := fun x xs H Q => ∃ r, MtR X id r ∧ r x xs H Q
variable {X}
theorem opB {f : Value → Value → Sem Value} : OpR X f (OpB X f) := fun pins s σ H x y v u Q I rx ry ⟨_, h, q⟩ => h pins s σ H x y v u Q I rx ry q
theorem unB {f : Value → Sem Value} : UnR X f (UnB X f) := fun pins s σ H x v Q I rx ⟨_, h, q⟩ => h pins s σ H x v Q I rx q
theorem callB {f : Value} : CallR X f (CallB X f) := fun pins s σ H xs us Q I r ⟨_, h, q⟩ => h pins s σ H xs us Q I r q
theorem ixB : IxR X (IxB X) := fun value slice pins s σ H x y v u Q I rx ry ⟨_, h, q⟩ hs => h value slice pins s σ H x y v u Q I rx ry q hs
theorem slB : SlR X (SlB X) := fun pins s σ H x v vl vu lo hi sl Q I rx hs pl pu ⟨_, h, q⟩ => h pins s σ H x v vl vu lo hi sl Q I rx hs pl pu q
theorem mtB {id : String} : MtR X id (MtB X id) := fun pins s σ H x xs v us Q I rx rs ⟨_, h, q⟩ => h pins s σ H x xs v us Q I rx rs q
end

/-- a list put behind a list, whoever holds them -/
def rCatS (K : PySem.W.Frag) : R2 := fun x y H Q => ∃ a b xs ys, x = .ref a ∧ y = .ref b ∧ SqL K H a xs ∧ SqL K H b ys ∧ xs.length + ys.length ≤ sizeLine ∧ ∀ p, H p = none → Q (.ref p) (upd H p (.lst (xs ++ ys)))
theorem op_catS {X : Cx} : OpR X (binaryOp .Add) (rCatS X.K) := by
  rintro pins s σ H _ _ v u Q I rx ry ⟨a, b, xs, ys, rfl, rfl, ha, hb, hz, q⟩
  cases rx
  cases ry
  obtain ⟨its, r, ⟨⟨_, da, _, sa⟩, na, ga, rfl, _, rfl⟩, _⟩ := I.list ha
  obtain ⟨its2, r2, ⟨⟨_, db, _, sb⟩, nb, gb, rfl, _, rfl⟩, _⟩ := I.list hb
  have hs : its.toArray.size + its2.toArray.size ≤ sizeLine := by
    rw [List.size_toArray, List.size_toArray, ← r.length, ← r2.length]
    exact hz
  refine concat_meets ⟨_, ga, rfl⟩ ⟨_, gb, rfl⟩ noFill_list_add seq_list_add PySem.F.slot_list_add PySem.F.entry_list_add (PySem.F.args_list_add_2 _ _) (list_addW a b its.toArray its2.toArray na nb da db sa sb hs) ⟨ga, gb, ?_⟩
  have new := I.lnew (t' := s.toks) (r.append r2) (by rw [List.length_append]; exact hz)
  rw [← List.append_toArray] at new
  exact ⟨.ref _, _, new, rfl, q _ I.fresh⟩
def opOf : BOp → Operator
  | .add => .Add | .sub => .Sub | .mul => .Mult | .fdiv => .FloorDiv | .mod => .Mod | .pow => .Pow
def cpOf : COp → CmpOp
  | .eq => .Eq | .ne => .NotEq | .lt => .Lt | .le => .LtE | .gt => .Gt | .ge => .GtE | .is => .Is | .isnot => .IsNot | .isIn => .In | .notIn => .NotIn

theorem cutV_reps {K : PySem.W.Frag} {φ ι : List Addr} {H : Hp} {ds : List D} {vs : List V} (r : reps K φ ι H ds vs) (lo hi : Option Int) : reps K φ ι H (cutD ds lo hi) (cutV vs lo hi) := by
  unfold cutD cutV
  rw [reps_len r]
  exact reps_take _ (reps_drop _ r)

theorem atI_reps {K : PySem.W.Frag} {φ ι : List Addr} {H : Hp} {ds : List D} {vs : List V} {i : Int} {d : D} (r : reps K φ ι H ds vs) (h : atI ds i = some d) : ∃ v, atI vs i = some v ∧ rep K φ ι H d v := by
  unfold atI at h ⊢
  rw [reps_len r]
  cases e : ixN ds.length i with
  | none => rw [e] at h; cases h
  | some j =>
    rw [e] at h
    exact reps_get r h
theorem seqOf_list {S : Sto} {x : D} {xs : List D} (h : listOf S x = some xs) : seqOf S x = some xs := by
  cases x with
  | tup ds => cases h
  | ro ds => exact h
  | ptr m => exact h
  | non => cases h
  | bl => cases h
  | int => cases h
  | str => cases h
  | dic => cases h
  | rng => cases h
  | frt => cases h
theorem seqOf_tup {S : Sto} {x : D} {xs : List D} (h : seqOf S x = some xs) (n : listOf S x = none) : x = .tup xs ∨ x = .frt xs := by
  cases x with
  | frt ds => cases h; exact .inr rfl
  | tup ds => cases h; exact .inl rfl
  | ro ds => cases n
  | ptr m =>
    have h : S[m]? = some xs := h
    have n : S[m]? = none := n
    rw [n] at h
    cases h
  | non => cases h
  | bl => cases h
  | int => cases h
  | str => cases h
  | dic => cases h
  | rng => cases h

section
variable {X : Cx} {φ ι : List Addr} {H : Hp} {S : Sto} {k : WK} {Q : VK} {x y : D} {v u : V}
theorem cat_ok (R : RelS X.K φ ι H S) (rx : rep X.K φ ι H x v) (ry : rep X.K φ ι H y u) (h : catW x y S k) (P : Post X.K φ ι H k Q) : OpB X (binaryOp .Add) v u H Q := by
  unfold catW at h
  split at h
  · rename_i xs ys ex ey
    obtain ⟨a, as, rfl, fa, qa⟩ := list_of R rx ex
    obtain ⟨b, bs, rfl, fb, qb⟩ := list_of R ry ey
    exact ⟨_, op_catS, a, b, as, bs, rfl, rfl, fa, fb, by rw [reps_len qa, reps_len qb]; exact h.1, fun p hp => P.ro R h.2 (reps_append qa qb) hp⟩
  · exact h.elim
theorem reps_rep {ds : List D} {vs : List V} (r : reps X.K φ ι H ds vs) : ∀ n : Nat, reps X.K φ ι H (List.replicate n ds).flatten (List.replicate n vs).flatten
  | 0 => rfl
  | n + 1 => reps_append r (reps_rep r n)
theorem bin_ok {op : BOp} (R : RelS X.K φ ι H S) (rx : rep X.K φ ι H x v) (ry : rep X.K φ ι H y u) (h : binW op x y S k) (P : Post X.K φ ι H k Q) : OpB X (binaryOp (opOf op)) v u H Q := by
  unfold binW at h
  split at h
  · obtain rfl : v = _ := rx
    obtain rfl : u = _ := ry
    exact ⟨_, op_add, _, _, rfl, rfl, P.here R h rfl⟩
  · obtain rfl : v = _ := rx
    obtain rfl : u = _ := ry
    exact ⟨_, op_add_str, _, _, rfl, rfl, h.1, P.here R h.2 rfl⟩
  · obtain ⟨a, as, rfl, fa, qa⟩ := id rx
    obtain ⟨b, bs, rfl, fb, qb⟩ := id ry
    refine ⟨_, op_catA, a, b, as, bs, rfl, rfl, fa.sq, fb.sq, by rw [reps_len qa, reps_len qb]; exact h.1, fun e => ?_, fun _ e => ?_, fun _ _ p hp => P.tup R h.2 (reps_append qa qb) hp⟩
    · subst e
      have e2 := reps_len qa
      have e3 := List.eq_nil_of_length_eq_zero e2.symm
      subst e3
      exact P.here R h.2 ry
    · subst e
      have e2 := reps_len qb
      have e3 := List.eq_nil_of_length_eq_zero e2.symm
      subst e3
      exact P.here R h.2 (by rw [List.append_nil]; exact rx)
  · exact cat_ok R rx ry h P
  · exact cat_ok R rx ry h P
  · obtain rfl : v = _ := rx
    obtain rfl : u = _ := ry
    exact ⟨_, op_sub, _, _, rfl, rfl, P.here R h rfl⟩
  · obtain rfl : v = _ := rx
    obtain rfl : u = _ := ry
    exact ⟨_, op_mul, _, _, rfl, rfl, h.1, P.here R h.2 rfl⟩
  · rename_i j
    obtain ⟨a, as, rfl, fa, qa⟩ := id rx
    obtain rfl : u = _ := ry
    obtain ⟨⟨h1, h2, h3, h4⟩, h5⟩ := h
    have hl := reps_len qa
    refine ⟨_, op_repA, a, _, as, rfl, rfl, fa.sq, fun e => ?_, h3, h4, by rw [hl]; exact h2, fun e => ?_, fun _ p hp => P.tup R h5 (reps_rep qa _) hp⟩
    · rw [e] at hl
      have := List.eq_nil_of_length_eq_zero hl.symm
      rw [this] at h1
      cases h1
    · have e2 : ∀ l : List D, (List.replicate j.toNat l).flatten = l := fun l => by
        rw [e]
        show l ++ [] = l
        exact List.append_nil l
      rw [e2] at h5
      exact P.here R h5 rx
  · obtain rfl : v = _ := rx
    obtain rfl : u = _ := ry
    exact ⟨_, op_mulS, _, _, rfl, rfl, h.1.1, h.1.2.1, h.1.2.2, P.here R h.2 rfl⟩
  · obtain rfl : v = _ := rx
    obtain rfl : u = _ := ry
    exact ⟨_, op_fdiv, _, _, rfl, rfl, h.1, P.here R h.2 rfl⟩
  · obtain rfl : v = _ := rx
    obtain rfl : u = _ := ry
    exact ⟨_, op_mod, _, _, rfl, rfl, h.1, P.here R h.2 rfl⟩
  · obtain rfl : v = _ := rx
    obtain rfl : u = _ := ry
    exact ⟨_, op_pow, _, _, rfl, rfl, h.1, P.here R h.2 rfl⟩
  · exact h.elim

theorem scal_rep (rx : rep X.K φ ι H x v) (ry : rep X.K φ ι H y u) (h : scalD x y = true) : scal v u = true ∧ decide (v = u) = eqD x y := by
  have fs : ∀ {a b : Bool}, (a = true ↔ b = true) → a = b := fun {a b} h => by cases a <;> cases b <;> simp at h ⊢
  cases x <;> cases y <;> first
    | (simp [scalD, kindD] at h; done)
    | (cases (show v = _ from rx)
       cases (show u = _ from ry)
       refine ⟨rfl, ?_⟩
       first
         | (simp [eqD, toPy, PyData.eqv]; done)
         | (rw [decide_eq_true rfl]; rfl)
         | (apply fs; simp [eqD, toPy, PyData.eqv]))

theorem eq_ok (hu : X.A.units + 64 < cLine) (R : RelS X.K φ ι H S) (rx : rep X.K φ ι H x v) (ry : rep X.K φ ι H y u) (h : eqOk x y = true ∧ k (.bl (eqD x y)) S) (P : Post X.K φ ι H k Q) : OpB X (compareOp .Eq) v u H Q := by
  obtain ⟨h1, h2⟩ := h
  unfold eqOk at h1
  rw [Bool.or_eq_true] at h1
  rcases h1 with h1 | h1
  · obtain ⟨a, b⟩ := scal_rep rx ry h1
    exact ⟨_, op_eq, a, by rw [b]; exact P.here R h2 rfl⟩
  · rw [Bool.and_eq_true] at h1
    obtain ⟨a, b⟩ := h1
    unfold okEq at a b
    rw [Bool.and_eq_true] at a b
    exact ⟨_, op_eqD hu, toPy x, toPy y, dp_of a.1 rx, dp_of b.1 ry, a.2, b.2, P.here R h2 rfl⟩
theorem ne_ok (hu : X.A.units + 64 < cLine) (R : RelS X.K φ ι H S) (rx : rep X.K φ ι H x v) (ry : rep X.K φ ι H y u) (h : eqOk x y = true ∧ k (.bl (!eqD x y)) S) (P : Post X.K φ ι H k Q) : OpB X (compareOp .NotEq) v u H Q := by
  obtain ⟨h1, h2⟩ := h
  unfold eqOk at h1
  rw [Bool.or_eq_true] at h1
  rcases h1 with h1 | h1
  · obtain ⟨a, b⟩ := scal_rep rx ry h1
    exact ⟨_, op_ne, a, by rw [b]; exact P.here R h2 rfl⟩
  · rw [Bool.and_eq_true] at h1
    obtain ⟨a, b⟩ := h1
    unfold okEq at a b
    rw [Bool.and_eq_true] at a b
    exact ⟨_, op_neD hu, toPy x, toPy y, dp_of a.1 rx, dp_of b.1 ry, a.2, b.2, P.here R h2 rfl⟩
theorem flat_rep (rx : rep X.K φ ι H x v) (h : flatD x = true) : flatV v = true := by
  cases x <;> first
    | (simp [flatD] at h; done)
    | (cases (show v = _ from rx); rfl)
theorem eqV_rep (rx : rep X.K φ ι H x v) (hx : flatD x = true) (ry : rep X.K φ ι H y u) (hy : flatD y = true) : eqV v u = eqD x y := by
  cases x <;> first
    | (simp [flatD] at hx; done)
    | (cases y <;> first
       | (simp [flatD] at hy; done)
       | (cases (show v = _ from rx)
          cases (show u = _ from ry)
          simp [eqV, eqD, toPy, PyData.eqv]))
theorem flats_rep : ∀ {xs : List D} {vs : List V}, reps X.K φ ι H xs vs → xs.all flatD = true → vs.all flatV = true
  | [], _, r, _ => by
    obtain rfl : _ = [] := r
    rfl
  | d :: ds, vs, r, h => by
    obtain ⟨v, q, rfl, h1, h2⟩ := r
    rw [List.all_cons, Bool.and_eq_true] at h
    rw [List.all_cons, flat_rep h1 h.1, flats_rep h2 h.2]
    rfl
theorem any_rep (rx : rep X.K φ ι H x v) (hx : flatD x = true) : ∀ {xs : List D} {vs : List V}, reps X.K φ ι H xs vs → xs.all flatD = true → (vs.any fun z => eqV z v) = xs.any fun z => eqD z x
  | [], _, r, _ => by
    obtain rfl : _ = [] := r
    rfl
  | d :: ds, vs, r, h => by
    obtain ⟨w, q, rfl, h1, h2⟩ := r
    rw [List.all_cons, Bool.and_eq_true] at h
    rw [List.any_cons, List.any_cons, any_rep rx hx h2 h.2, eqV_rep h1 h.1 rx hx]
theorem str_one {a : Str} (h : a.length = 1) : a = ⟨#[a.cps.getD 0 0]⟩ := by
  obtain ⟨⟨l⟩⟩ := a
  match l, h with
  | [c], _ => rfl
theorem any_py (d : D) : ∀ ys : List D, ((toPys ys).any fun z => PyData.eqv z (toPy d)) = ys.any fun z => eqD z d
  | [] => rfl
  | y :: ys => by
    show (PyData.eqv (toPy y) (toPy d) || (toPys ys).any fun z => PyData.eqv z (toPy d)) = (eqD y d || ys.any fun z => eqD z d)
    rw [any_py d ys]
    rfl
theorem op_inDic (hu : X.A.units + 1 < cLine) : OpR X (compareOp .In) (fun x y H Q => ∃ a o, y = .ref a ∧ DGet H a x o ∧ Q (.bl o.isSome) H) := by
  intro pins s σ H x y v u Q I rx ry h
  obtain ⟨a, o, rfl, g, q⟩ := h
  obtain rfl : u = Value.ref a := ry
  exact d_in hu I g rx fun s3 I3 => ⟨.bl o.isSome, H, I3, rfl, q⟩
theorem zip_some {i : Int} : ∀ {ks : List Key} {vs : List V}, ks.length = vs.length → (valV (ks.zip vs) (.inl i)).isSome = ks.any (isKI i)
  | [], vs, _ => rfl
  | x :: ks, [], h => by cases h
  | x :: ks, v :: vs, h => by
    rw [List.zip_cons_cons, List.any_cons]
    by_cases e : x = .inl i
    · rw [valV_pos e, e]
      show true = ((i == i) || _)
      rw [beq_self_eq_true]
      rfl
    · rw [valV_neg e, zip_some (by simpa using h)]
      have : isKI i x = false := by
        cases x with
        | inl j => exact beq_eq_false_iff_ne.mpr fun z => e (by rw [z])
        | inr _ => rfl
      rw [this]
      rfl
theorem in_ok (hu : X.A.units + 65 < cLine) (R : RelS X.K φ ι H S) (rx : rep X.K φ ι H x v) (ry : rep X.K φ ι H y u) {op : COp} (ho : op = .isIn ∨ op = .notIn) (h : cmpW op x y S k) (P : Post X.K φ ι H k Q) : OpB X (compareOp (cpOf op)) v u H Q := by
  have gen : ∀ (ys : List D), seqOf S y = some ys → flatD x = true → ys.all flatD = true → ∃ p vs, u = .ref p ∧ (SqL X.K H p vs ∨ SqT X.K H p vs) ∧ flatV v = true ∧ vs.all flatV = true ∧ inV v vs = ys.any fun z => eqD z x := fun ys e f1 f2 => by
    obtain ⟨p, vs, rfl, q, r⟩ := seq_of R ry e
    exact ⟨p, vs, rfl, q, flat_rep rx f1, flats_rep r f2, any_rep rx f1 r f2⟩
  rcases ho with rfl | rfl
  · simp only [cmpW] at h
    split at h
    · obtain rfl : v = _ := rx
      obtain rfl : u = _ := ry
      rename_i a z
      exact ⟨_, op_in_sign, a.cps.getD 0 0, z, by rw [← str_one h.1], rfl, P.here R h.2 rfl⟩
    · rename_i xs ys
      obtain ⟨⟨a, b⟩, q⟩ := h
      unfold okEq at a b
      rw [Bool.and_eq_true] at a b
      exact ⟨_, op_inD hu, toPy (.tup xs), toPys ys, dp_of a.1 rx, dp_of b.1 ry, a.2, b.2, by rw [any_py]; exact P.here R q rfl⟩
    · rename_i i ks ds
      obtain rfl : v = _ := rx
      obtain ⟨a, xs, rfl, ⟨f, _, _⟩, r⟩ := ry
      refine ⟨_, op_inDic (by omega), a, valV (ks.zip xs) (.inl i), rfl, .inl ⟨_, .inl i, f, rfl, rfl⟩, ?_⟩
      rw [zip_some (by rw [reps_len r, h.1])]
      exact P.here R h.2 rfl
    · split at h
      · obtain ⟨f1, f2, q⟩ := h
        obtain ⟨p, vs, rfl, h1, h2, h3, h4⟩ := gen _ (by assumption) f1 f2
        refine ⟨_, op_in_seq, p, vs, rfl, h1, h2, h3, ?_⟩
        show Q (V.bl (inV v vs)) H
        rw [h4]
        exact P.here R q rfl
      · exact h.elim
  · simp only [cmpW] at h
    split at h
    · obtain rfl : v = _ := rx
      obtain rfl : u = _ := ry
      rename_i a z
      exact ⟨_, op_notIn_sign, a.cps.getD 0 0, z, by rw [← str_one h.1], rfl, P.here R h.2 rfl⟩
    · rename_i xs ys
      obtain ⟨⟨a, b⟩, q⟩ := h
      unfold okEq at a b
      rw [Bool.and_eq_true] at a b
      exact ⟨_, op_notInD hu, toPy (.tup xs), toPys ys, dp_of a.1 rx, dp_of b.1 ry, a.2, b.2, by rw [any_py]; exact P.here R q rfl⟩
    · split at h
      · obtain ⟨f1, f2, q⟩ := h
        obtain ⟨p, vs, rfl, h1, h2, h3, h4⟩ := gen _ (by assumption) f1 f2
        refine ⟨_, op_notIn_seq, p, vs, rfl, h1, h2, h3, ?_⟩
        show Q (V.bl (!inV v vs)) H
        rw [h4]
        exact P.here R q rfl
      · exact h.elim
theorem isB_none (b : Bool) : OpR X (compareOp .Is) (fun x y H Q => x = .non ∧ y = .bl b ∧ Q (.bl false) H) := by
  intro pins s σ H x y v u Q I rx ry h
  obtain ⟨rfl, rfl, q⟩ := h
  cases rx
  cases ry
  exact wpAny_is_other rfl (fun z => by cases z) ⟨.bl false, H, I, rfl, q⟩
/-- a comparison; right operand known where the operator says so -/
theorem cmp_ok {op : COp} (hu : X.A.units + 65 < cLine) (R : RelS X.K φ ι H S) (rx : rep X.K φ ι H x v) (ry : rep X.K φ ι H y u) (h : cmpW op x y S k) (P : Post X.K φ ι H k Q) : OpB X (compareOp (cpOf op)) v u H Q := by
  have ord : ∀ {f : CmpOp}, (op = .lt ∧ f = .Lt) ∨ (op = .le ∧ f = .LtE) ∨ (op = .gt ∧ f = .Gt) ∨ (op = .ge ∧ f = .GtE) → cpOf op = f → OpB X (compareOp f) v u H Q := by
    intro f ho hf
    have h' : ordC op x y S k := by
      rcases ho with ⟨rfl, _⟩ | ⟨rfl, _⟩ | ⟨rfl, _⟩ | ⟨rfl, _⟩ <;> exact h
    clear h
    unfold ordC at h'
    split at h'
    · obtain rfl : v = _ := rx
      obtain rfl : u = _ := ry
      rcases ho with ⟨rfl, rfl⟩ | ⟨rfl, rfl⟩ | ⟨rfl, rfl⟩ | ⟨rfl, rfl⟩
      · exact ⟨_, op_lt, _, _, rfl, rfl, P.here R h' rfl⟩
      · exact ⟨_, op_le, _, _, rfl, rfl, P.here R h' rfl⟩
      · exact ⟨_, op_gt, _, _, rfl, rfl, P.here R h' rfl⟩
      · exact ⟨_, op_ge, _, _, rfl, rfl, P.here R h' rfl⟩
    · split at h'
      · rename_i e1 e2
        obtain ⟨a, as, rfl, fa, qa⟩ := id rx
        obtain ⟨b, bs, rfl, fb, qb⟩ := id ry
        have q1 := ints_of qa e1
        have q2 := ints_of qb e2
        subst q1
        subst q2
        obtain rfl : f = .Lt := hf.symm
        exact ⟨_, op_ltT (by omega), a, b, _, _, rfl, rfl, fa.sq, fb.sq, P.here R h' rfl⟩
      · exact h'.elim
    · exact h'.elim
  cases op with
  | eq => exact eq_ok (by omega) R rx ry h P
  | ne => exact ne_ok (by omega) R rx ry h P
  | lt => exact ord (.inl ⟨rfl, rfl⟩) rfl
  | le => exact ord (.inr (.inl ⟨rfl, rfl⟩)) rfl
  | gt => exact ord (.inr (.inr (.inl ⟨rfl, rfl⟩))) rfl
  | ge => exact ord (.inr (.inr (.inr ⟨rfl, rfl⟩))) rfl
  | is =>
    simp only [cmpW] at h
    split at h
    · obtain rfl : u = _ := ry
      refine ⟨_, op_isN, rfl, ?_⟩
      have e : decide (v = V.non) = isNonD x := by
        cases x <;> first
          | (cases (show v = _ from rx); rfl)
          | (obtain ⟨a, xs, rfl, _⟩ := rx; rfl)
          | (obtain ⟨a, _, rfl⟩ := rx; rfl)
          | (obtain ⟨a, rfl, _⟩ := rx; rfl)
      rw [e]
      exact P.here R h rfl
    · rename_i b
      obtain rfl : u = _ := ry
      split at h
      · obtain rfl : v = _ := rx
        refine ⟨_, op_isBl, _, _, rfl, rfl, ?_⟩
        have e : ∀ c : Bool, decide (c = b) = (c == b) := fun c => by cases c <;> cases b <;> rfl
        rw [e]
        exact P.here R h rfl
      · obtain rfl : v = _ := rx
        exact ⟨_, isB_none b, rfl, rfl, P.here R h rfl⟩
      · exact h.elim
    · exact h.elim
  | isnot =>
    simp only [cmpW] at h
    split at h
    · obtain rfl : u = _ := ry
      refine ⟨_, op_notN, rfl, ?_⟩
      have e : (!decide (v = V.non)) = !isNonD x := by
        cases x <;> first
          | (cases (show v = _ from rx); rfl)
          | (obtain ⟨a, xs, rfl, _⟩ := rx; rfl)
          | (obtain ⟨a, _, rfl⟩ := rx; rfl)
          | (obtain ⟨a, rfl, _⟩ := rx; rfl)
      rw [e]
      exact P.here R h rfl
    · rename_i b
      obtain rfl : u = _ := ry
      split at h
      · obtain rfl : v = _ := rx
        refine ⟨_, op_notBl, _, _, rfl, rfl, ?_⟩
        have e : ∀ c : Bool, (!decide (c = b)) = !(c == b) := fun c => by cases c <;> cases b <;> rfl
        rw [e]
        exact P.here R h rfl
      · exact h.elim
    · exact h.elim
  | isIn => exact in_ok hu R rx ry (.inl rfl) h P
  | notIn => exact in_ok hu R rx ry (.inr rfl) h P
end
section
variable {X : Cx} {φ ι : List Addr} {H : Hp} {S : Sto} {k : WK} {Q : VK} {x y : D} {v u : V}
theorem neg_ok {i : Int} (R : RelS X.K φ ι H S) (rx : rep X.K φ ι H (.int i) v) (h : k (.int (-i)) S) (P : Post X.K φ ι H k Q) : UnB X (unaryOp .USub) v H Q := by
  obtain rfl : v = _ := rx
  exact ⟨_, un_neg, _, rfl, P.here R h rfl⟩
theorem truth_ok {kb : Bool → Sto → Prop} (R : RelS X.K φ ι H S) (rx : rep X.K φ ι H x v) (h : truthW x S kb) : ∃ t, TruV X.K v H t ∧ kb t S := by
  cases x with
  | non => obtain rfl : v = _ := rx; exact ⟨_, rfl, h⟩
  | bl b => obtain rfl : v = _ := rx; exact ⟨_, rfl, h⟩
  | int b => obtain rfl : v = _ := rx; exact ⟨_, rfl, h⟩
  | str b => obtain rfl : v = _ := rx; exact ⟨_, ⟨h.1, rfl⟩, h.2⟩
  | tup ds =>
    obtain ⟨a, xs, rfl, f, q⟩ := rx
    exact ⟨_, .inr (.inl ⟨xs, f.sq, rfl⟩), by rw [reps_isEmpty q]; exact h⟩
  | ro ds =>
    obtain ⟨a, xs, rfl, f, q⟩ := rx
    exact ⟨_, .inl ⟨xs, f.sq, rfl⟩, by rw [reps_isEmpty q]; exact h⟩
  | ptr n =>
    simp only [truthW] at h
    split at h
    · rename_i e
      obtain ⟨a, vs, rfl, q, r⟩ := list_of R rx (show listOf S (.ptr n) = _ from e)
      exact ⟨_, .inl ⟨vs, q, rfl⟩, by rw [reps_isEmpty r]; exact h⟩
    · exact h.elim
  | dic => exact (show False from h).elim
  | rng => exact (show False from h).elim
  | frt ds =>
    obtain ⟨a, xs, rfl, f, q⟩ := frt_tup rx
    exact ⟨_, .inr (.inl ⟨xs, f.sq, rfl⟩), by rw [reps_isEmpty q]; exact h⟩
/-- d[k], there -/
def rIxDG : R2 := fun x y H Q => ∃ a v, x = .ref a ∧ DGet H a y (some v) ∧ Q v H
theorem ix_dget (hu : X.A.units + 64 < cLine) : IxR X rIxDG := by
  intro value slice pins s σ H x y v u Q I rx ry h hs
  obtain ⟨a, w, rfl, g, q⟩ := h
  obtain rfl : v = Value.ref a := rx
  exact tail_any (dict_typeIs I g) PySem.F.slot_dict_getitem.lookup (d_getItem (by omega) I g ry fun w' s' I' r => ⟨w, H, I', r, q⟩) hs
theorem keyEq_t {a b : Key} (h : keyEq a b = true) : a = b := by
  cases a <;> cases b <;> simp only [keyEq] at h
  · rw [eq_of_beq h]
  · cases h
  · cases h
  · rw [eq_of_beq h]
theorem keyEq_f {a b : Key} (h : keyEq a b = false) : a ≠ b := by
  rintro rfl
  cases a <;> simp [keyEq] at h
theorem look_rep : ∀ {ks : List Key} {ds : List D} {vs : List V} {y : Key} {d : D}, reps X.K φ ι H ds vs → lookD ks ds y = some d → ∃ w, valV (ks.zip vs) y = some w ∧ rep X.K φ ι H d w
  | [], _, _, _, _, _, e => by cases e
  | _ :: _, [], _, _, _, _, e => by cases e
  | k :: ks, d :: ds, vs, y, e0, r, e => by
    obtain ⟨v, us, rfl, r1, r2⟩ := r
    unfold lookD at e
    rw [List.zip_cons_cons]
    cases q : keyEq k y with
    | true =>
      rw [q, if_pos rfl] at e
      cases e
      exact ⟨v, valV_pos (keyEq_t q), r1⟩
    | false =>
      rw [q, if_neg Bool.false_ne_true] at e
      rw [valV_neg (keyEq_f q)]
      exact look_rep r2 e
theorem dic_ok {ks : List Key} {ds : List D} {kk : Key} {d : D} (hu : X.A.units + 64 < cLine) (R : RelS X.K φ ι H S) (rx : rep X.K φ ι H (.dic ks ds) v) (e : lookD ks ds kk = some d) (hk : k d S) (P : Post X.K φ ι H k Q) : IxB X v (kV kk) H Q := by
  obtain ⟨a, xs, rfl, ⟨f, _, _⟩, r⟩ := rx
  obtain ⟨w, e1, rw_⟩ := look_rep r e
  exact ⟨_, ix_dget hu, a, w, rfl, .inl ⟨_, kk, f, rfl, e1.symm⟩, P.here R hk rw_⟩
theorem idx_ok (hu : X.A.units + 64 < cLine) (R : RelS X.K φ ι H S) (rx : rep X.K φ ι H x v) (ry : rep X.K φ ι H y u) (h : idxW x y S k) (P : Post X.K φ ι H k Q) : IxB X v u H Q := by
  unfold idxW at h
  split at h
  · obtain rfl : u = _ := ry
    split at h
    · obtain rfl : v = _ := rx
      obtain ⟨h1, h⟩ := h
      split at h
      · exact ⟨_, ix_str, _, _, _, rfl, rfl, h1, by assumption, P.here R h rfl⟩
      · exact h.elim
    · split at h
      · rename_i e
        exact dic_ok (kk := .inl _) hu R rx e h P
      · exact h.elim
    · split at h
      · rename_i e
        split at h
        · rename_i e2
          obtain ⟨a, vs, rfl, q, r⟩ := seq_of R rx e
          obtain ⟨w, e3, rw_⟩ := atI_reps r e2
          rcases q with q | q
          · exact ⟨_, ix_list, a, vs, _, w, rfl, rfl, q, e3, P.here R h rw_⟩
          · exact ⟨_, ix_tup, a, vs, _, w, rfl, rfl, q, e3, P.here R h rw_⟩
        · exact h.elim
      · exact h.elim
  · obtain rfl : u = _ := ry
    split at h
    · split at h
      · rename_i e
        exact dic_ok (kk := .inr _) hu R rx e h P
      · exact h.elim
    · exact h.elim
  · exact h.elim
theorem Post.frt {K : PySem.W.Frag} {φ ι : List Addr} {H : Hp} {S : Sto} {k : WK} {Q : VK} (P : Post K φ ι H k Q) (R : RelS K φ ι H S) {ds : List D} {vs : List V} (h : k (.frt ds) S) (r : reps K φ ι H ds vs) {p : Addr} {o : Obj} (hd : o.dict = none) (hp : H p = none) : Q (.ref p) (upd H p (.frz o (.tup vs))) :=
  P _ S ι _ _ h (.new hp) (R.new hp) ⟨p, vs, rfl, ⟨o, upd_same, hd, R.notMem hp, R.priv hp⟩, reps_mono (.new hp) _ _ r⟩
/-- t[lo:hi], the object known -/
theorem sl_tupX : SlR X (fun x lo hi H Q => ∃ a xs, x = .ref a ∧ SqT X.K H a xs ∧
    (HT.sIx xs.length 0 lo = 0 ∧ HT.sIx xs.length xs.length hi = xs.length → Q (.ref a) H) ∧ (¬ (HT.sIx xs.length 0 lo = 0 ∧ HT.sIx xs.length xs.length hi = xs.length) → ∀ (p : Addr) (o : Obj), o.dict = none → H p = none → Q (.ref p) (upd H p (.frz o (.tup (cutV xs lo hi)))))) := by
  intro pins s σ H x v vl vu lo hi sl Q I rx hs pl pu h
  obtain ⟨a, xs, rfl, hx, q1, q2⟩ := h
  by_cases hw : HT.sIx xs.length 0 lo = 0 ∧ HT.sIx xs.length xs.length hi = xs.length
  · exact sl_tupA pins s σ H _ v vl vu lo hi sl Q I rx hs pl pu ⟨a, xs, rfl, hx, q1, fun e => absurd hw e⟩
  · cases rx
    obtain ⟨its, r, ht, hz⟩ := I.tuple hx
    have hlen : its.toArray.size = xs.length := by rw [List.size_toArray]; exact r.length.symm
    refine ⟨"tuple", _, PyProof.Rows.slot_tuple_getitem.lookup, ht.typeIs, ?_⟩
    refine HT.getItem_tuple_cut ht hs pl pu (by rw [hlen]; exact hw) ?_ (by rw [hlen]; exact hz)
    rw [hlen]
    refine ⟨.ref s.heap.objs.size, _, I.laid (t' := s.toks) (o := .frz _ (.tup (cutV xs lo hi))) (fun b ob q => Heap.get?_push_of_some _ q) (Nat.le_refl _) ⟨Heap.get?_push_size _ rfl, ?_⟩, rfl, q2 hw _ _ rfl (I.hok.fresh (Nat.le_refl _))⟩
    exact ⟨Nat.le_trans (cutV_length xs lo hi) hz, _, (r.drop (HT.sIx xs.length 0 lo)).take (HT.sIx xs.length xs.length hi - HT.sIx xs.length 0 lo), IsTup.new _ _⟩
theorem cutD_all {ds : List D} {lo hi : Option Int} (h : HT.sIx ds.length 0 lo = 0 ∧ HT.sIx ds.length ds.length hi = ds.length) : cutD ds lo hi = ds := by
  unfold cutD
  rw [h.1, h.2, List.drop_zero, Nat.sub_zero, List.take_length]
theorem slc_ok {lo hi : Option Int} (R : RelS X.K φ ι H S) (rx : rep X.K φ ι H x v) (h : slcW x lo hi S k) (P : Post X.K φ ι H k Q) : SlB X v lo hi H Q := by
  unfold slcW at h
  split at h
  · rename_i ds
    obtain ⟨a, xs, rfl, f, q⟩ := id rx
    refine ⟨_, sl_tupA, a, xs, rfl, f.sq, fun e => ?_, fun _ p hp => P.tup R h (cutV_reps q lo hi) hp⟩
    rw [reps_len q] at e
    rw [cutD_all e] at h
    exact P.here R h rx
  · rename_i ds
    obtain ⟨a, xs, rfl, f, q⟩ := frt_tup rx
    refine ⟨_, sl_tupX, a, xs, rfl, f.sq, fun e => ?_, fun _ p o hd hp => P.frt R h (cutV_reps q lo hi) hd hp⟩
    rw [reps_len q] at e
    rw [cutD_all e] at h
    exact P.here R h rx
  · obtain rfl : v = _ := rx
    exact ⟨_, sl_str, _, rfl, h.1, P.here R h.2 rfl⟩
  · split at h
    · rename_i e
      obtain ⟨a, vs, rfl, q, r⟩ := list_of R rx e
      exact ⟨_, sl_list, a, vs, rfl, q, fun p hp => P.ro R h (cutV_reps r lo hi) hp⟩
    · exact h.elim
end
end Ov
-- OvFt
/-! A tuple made in the run whose object is known: tuple(l), t.index(x). -/
namespace Ov
open PySem PySem.Spec PyProof.Rows L2
section
variable {X : Cx}
theorem call_tupleX : CallR X (.type "tuple") (fun xs H Q => ∃ p ys, xs = [.ref p] ∧ SqL X.K H p ys ∧ ∀ (l : Addr) (o : Obj), o.dict = none → H l = none → Q (.ref l) (upd H l (.frz o (.tup ys)))) := by
  intro pins s σ H xs us Q I r h
  obtain ⟨p, ys, rfl, hq, q⟩ := h
  obtain ⟨u, rfl, rx⟩ := vals1 r
  cases rx
  obtain ⟨its, rv, pl, hz⟩ := I.list hq
  have lv := rv.length
  refine call_tuple_list pl.isList (fun h2 kp => ?_) (by rw [List.size_toArray]; omega)
  have J1 : Inv X pins σ H { s with heap := h2 } := I.kept (t' := s.toks) kp
  let ob : Obj := { cls := .type "tuple", data := .seq its.toArray }
  have ho : (h2.push ob).get? h2.objs.size = some ob := Heap.get?_push_size _ rfl
  have J2 : Inv X pins σ (upd H h2.objs.size (.frz ob (.tup ys))) { s with heap := h2.push ob } :=
    J1.laid (t' := s.toks) (fun _ _ q => Heap.get?_push_of_some _ q) (Nat.le_refl _) ⟨ho, hz, its, rv, IsTup.new _ _⟩
  exact ⟨.ref h2.objs.size, _, J2, rfl, q _ ob rfl (J1.hok.fresh (Nat.le_refl _))⟩
theorem pe_tupX {es : List Expr} {t : TA} {pos : Pos} {x1} (h : PA X es t) : PE X (.Tuple es x1 pos) (fun σ H Q => t σ H fun xs H1 => xs.length ≤ sizeLine ∧ ∀ (p : Addr) (o : Obj), o.dict = none → H1 p = none → Q (.ref p) (upd H1 p (.frz o (.tup xs)))) := by
  refine ⟨fun pins s σ H Q I hq => ?_⟩
  refine wpAny_Tuple_spliced (thn (h.run pos pins s σ H _ I hq) fun us s1 ⟨xs, H1, I1, r, z, q⟩ => ⟨by rw [← r.length]; exact z, ?_⟩)
  have hf : H1 s1.heap.objs.size = none := I1.hok.fresh (Nat.le_refl _)
  refine ⟨.ref s1.heap.objs.size, _, I1.laid (t' := s1.toks) (o := .frz _ (.tup xs)) (fun b u e => Heap.get?_push_of_some _ e) (Nat.le_refl _) ⟨Heap.get?_push_size _ rfl, z, us, r, IsTup.new _ _⟩, rfl, q _ _ rfl hf⟩
/-- t.index(x) among ints, among texts -/
def rIdxT : V → List V → Hp → VK → Prop := fun x vs H Q => ∃ (a : Addr) (ob : Obj) (xs : List V), x = .ref a ∧ H a = some (.frz ob (.tup xs)) ∧
  ((∃ (ns : List Int) (i : Int), xs = ns.map V.int ∧ vs = [.int i] ∧ i ∈ ns ∧ Q (.int (ns.idxOf i : Nat)) H) ∨ ∃ (ys : List Str) (z : Str), xs = ys.map V.str ∧ vs = [.str z] ∧ z ∈ ys ∧ Q (.int (ys.idxOf z : Nat)) H)
theorem mt_idxT : MtR X "tuple.index" rIdxT := by
  intro pins s σ H x vs v us Q I rx rvs h
  obtain ⟨a, ob, xs, rfl, ha, h⟩ := h
  cases rx
  obtain ⟨_, _, its, rv, tp⟩ := I.hok _ _ ha
  rcases h with ⟨ns, i, rfl, rfl, hm, q⟩ | ⟨ys, z, rfl, rfl, hm, q⟩
  · obtain ⟨u, rfl, ru⟩ := rvs.one
    obtain ⟨t, rfl⟩ := ru
    exact PySem.SeqAt.tuple_index_ints (show s.heap.IsTuple a its.toArray from tp) rv.ints hm ⟨.int (ns.idxOf i : Nat), H, I.tok _, ⟨_, rfl⟩, q⟩
  · obtain ⟨u, rfl, ru⟩ := rvs.one
    obtain ⟨t, rfl⟩ := ru
    exact PySem.SeqAt.tuple_index_strs (show s.heap.IsTuple a its.toArray from tp) rv.strs hm ⟨.int (ys.idxOf z : Nat), H, I.tok _, ⟨_, rfl⟩, q⟩
def tIdxT (to : TE) (t : TA) : TE := fun σ H Q => to σ H fun x H1 => (∃ (a : Addr) (ob : Obj) (xs : List V), x = .ref a ∧ H1 a = some (.frz ob (.tup xs)) ∧ ob.dict = none) ∧ t σ H1 fun xs H2 => rIdxT x xs H2 Q
variable {o e : Expr} {es : List Expr} {to : TE} {t : TA} {apos cpos : Pos}
theorem pe_idxT (ho : PE X o to) (ha : PA X (e :: es) t)
    (hb : attributeBase o "index" X.env (eval o X.env) = eval o X.env)
    (hf : ((backTo cpos (starEach (e :: es) X.env)).all (fun x => !x.1) && (backToKw cpos (keywordEach [] X.env)).all (fun x => x.1.isSome)
      && decide ((e :: es).length + ([] : List Keyword).length + (if ([] : List Keyword).isEmpty then 0 else 1) < 30)) = true)
    (hl : (apos.endLine == cpos.line) = true) (hs : starEach (e :: es) X.env = (false, eval e X.env) :: starEach es X.env) (hp : (backTo cpos (starEach es X.env)).any (·.1) = false) :
    PE X (.Call (.Attribute o "index" apos) (e :: es) [] cpos) (tIdxT to t) := by
  refine ⟨fun pins s σ H Q I h => ?_⟩
  refine wpAny_Call_method_late hb hf hl rfl (thn (ho.run pins s σ H _ I h) fun v s1 hx => ?_)
  obtain ⟨x, H1, J1, r1, ⟨a, ob, xs, rfl, hk, hd⟩, q1⟩ := hx
  cases r1
  obtain ⟨hg, _, its, _, ⟨ob2, hg2, hc, _⟩⟩ := J1.hok _ _ hk
  have ty : s1.TypeIs (.ref a) "tuple" := ⟨ob2, hg2, hc⟩
  refine ⟨"tuple", "tuple.index", PySem.F.plainAttrs_tuple, PySem.F.slot_tuple_index, PySem.F.type_tuple_index, ty, fun b eb => ?_, ?_⟩
  · cases eb
    exact ⟨ob, hg, hd⟩
  · have hA := ha.run cpos pins s1 σ H1 _ J1 q1
    rw [hs] at hA ⊢
    refine Calls.callWith_builtin ?_ (Calls.evalArgs_plain (thn hA fun us s2 hy => ?_))
    · show (false || (backTo cpos (starEach es X.env)).any (·.1)) = false
      rw [hp]
      rfl
    · obtain ⟨vs, H2, J2, r2, q2⟩ := hy
      exact mt_idxT pins s2 σ H2 (.ref a) vs (.ref a) us Q J2 rfl r2 q2
end
end Ov
-- OvD
namespace Ov
open PySem PySem.Spec PyProof.Rows L2

def signV (z : Str) : List V := z.cps.toList.map fun c => V.str ⟨#[c]⟩
theorem call_signs {X : Cx} (hc : X.calm = true) : CallR X (.type "list") (fun xs H Q => ∃ z : Str, xs = [.str z] ∧ z.length ≤ sizeLine ∧ ∀ l, H l = none → Q (.ref l) (upd H l (.lst (signV z)))) := by
  rintro pins s σ H _ us Q I r ⟨z, rfl, hz, q⟩
  obtain ⟨u, rfl, t, rfl⟩ := vals1 r
  refine call_list_str (I.ok.hd hc) z t (fun h' tk acc c kp e items => ?_) hz
  have hv : Vals (signV z) acc.toList := by
    have hl : acc.toList.length = z.cps.size := by rw [Array.length_toList]; exact items.1
    have hg := vals_of_get acc.toList (fun j => V.str ⟨#[z.cps.toList.getD j 0]⟩) fun j u hj => by
      obtain ⟨c, tk2, e1, rfl⟩ := items.2 j u (by rw [← hj, Array.getElem?_toList])
      refine ⟨tk2, ?_⟩
      rw [← Array.getElem?_toList] at e1
      rw [List.getD_eq_getElem?_getD, e1]
      rfl
    have e2 : (List.range acc.toList.length).map (fun j => V.str ⟨#[z.cps.toList.getD j 0]⟩) = signV z := by
      rw [hl]
      refine List.ext_getElem (by simp [signV]) fun j h1 h2 => ?_
      simp only [signV, List.length_map] at h2
      simp only [signV, List.getElem_map, List.getElem_range, List.getD_eq_getElem?_getD, List.getElem?_eq_getElem h2, Option.getD_some]
    rw [e2] at hg
    exact hg
  refine ⟨.ref s.heap.objs.size, _, I.laid (t' := tk) kp (Nat.le_refl _) (show ObjOk X.prog X.w _ h' _ (.lst (signV z)) from ⟨by unfold signV; rw [List.length_map, Array.length_toList]; exact hz, acc.toList, c, hv, by rw [Array.toArray_toList]; exact e⟩), rfl, q _ (I.hok.fresh (Nat.le_refl _))⟩
theorem reps_signs {K : PySem.W.Frag} {φ ι : List Addr} {H : Hp} (z : Str) : reps K φ ι H (charsD z) (signV z) := by
  unfold charsD signV
  generalize z.cps.toList = l
  induction l with
  | nil => rfl
  | cons c l ih => exact ⟨_, _, rfl, rfl, ih⟩
def biV : BI → Value
  | .len => .builtin "len" | .int => .type "int" | .abs => .builtin "abs" | .bool => .type "bool" | .tuple => .type "tuple" | .list => .type "list" | .mlist => .type "list"
  | .max => .builtin "max" | .min => .builtin "min" | .sum => .builtin "sum" | .any => .builtin "any" | .all => .builtin "all" | .str => .type "str" | .isI _ => .builtin "isinstance" | .rngv => .type "range" | .tuplex => .type "tuple" | .sorted => .builtin "sorted" | .msorted => .builtin "sorted"
def biN : BI → String
  | .len => "len" | .int => "int" | .abs => "abs" | .bool => "bool" | .tuple => "tuple" | .list => "list" | .mlist => "list"
  | .max => "max" | .min => "min" | .sum => "sum" | .any => "any" | .all => "all" | .str => "str" | .isI _ => "isinstance" | .rngv => "range" | .tuplex => "tuple" | .sorted => "sorted" | .msorted => "sorted"
def isTyp : BI → Bool
  | .int => true | .bool => true | .tuple => true | .list => true | .mlist => true | .str => true | .rngv => true | .tuplex => true | _ => false
def biX (b : BI) (vs : List V) : List V := match b with
  | .isI t => vs ++ [.ty t]
  | _ => vs

theorem reps1 {K : PySem.W.Frag} {φ ι : List Addr} {H : Hp} {d : D} {vs : List V} (h : reps K φ ι H [d] vs) : ∃ v, vs = [v] ∧ rep K φ ι H d v := by
  obtain ⟨v, r, rfl, h1, h2⟩ := h
  obtain rfl : r = [] := h2
  exact ⟨v, rfl, h1⟩
theorem reps2 {K : PySem.W.Frag} {φ ι : List Addr} {H : Hp} {d e : D} {vs : List V} (h : reps K φ ι H [d, e] vs) : ∃ v u, vs = [v, u] ∧ rep K φ ι H d v ∧ rep K φ ι H e u := by
  obtain ⟨v, r, rfl, h1, h2⟩ := h
  obtain ⟨u, rfl, h3⟩ := reps1 h2
  exact ⟨v, u, rfl, h1, h3⟩
theorem isiB_kit {K : PySem.W.Frag} {a t : String} {r : Bool} (h : kitB a t = some r) : PySem.W.kitOne K (.type a) (.type t) = some r := kit_ty h
/-- one of five names -/
theorem five {p : String → Prop} {t : String} (h : t = "int" ∨ t = "bool" ∨ t = "str" ∨ t = "tuple" ∨ t = "list") (a : p "int") (b : p "bool") (c : p "str") (d : p "tuple") (e : p "list") : p t := by
  rcases h with rfl | rfl | rfl | rfl | rfl <;> assumption
def isDic : D → Bool
  | .dic _ _ => true
  | .rng _ _ => true
  | .frt _ => true
  | _ => false
def tyN : D → String
  | .non => "NoneType" | .bl _ => "bool" | .int _ => "int" | .str _ => "str" | .tup _ => "tuple" | .ro _ => "list" | .ptr _ => "list" | .dic _ _ => "list" | .rng _ _ => "list" | .frt _ => "tuple"
theorem kit5 : ∀ s ∈ ["NoneType", "bool", "int", "str", "tuple", "list"], ∀ t ∈ ["bool", "int", "str", "tuple", "list"],
    kitB s t = some (decide (s = t) || (decide (s = "bool") && decide (t = "int"))) := by decide +kernel
theorem isi_kit {x : D} {t : String} {b : Bool} (h : isiB t x = some b) : kitB (tyN x) t = some b := by
  have hs : tyN x ∈ ["NoneType", "bool", "int", "str", "tuple", "list"] := by cases x <;> simp [tyN]
  have ht : t ∈ ["bool", "int", "str", "tuple", "list"] := by
    cases x <;> simp only [isiB] at h <;> repeat' split at h
    all_goals first
      | (cases h; done)
      | (simp_all; done)
      | (rename_i q; rcases q with rfl | rfl | rfl | rfl | rfl <;> simp)
      | (rename_i q; rcases q with rfl | rfl | rfl | rfl <;> simp)
      | (rename_i q; rcases q with rfl | rfl | rfl <;> simp)
      | (rename_i q; rcases q with rfl | rfl <;> simp)
      | (rename_i q; subst q; simp)
  rw [kit5 _ hs _ ht]
  cases x <;> simp only [isiB] at h <;> repeat' split at h
  all_goals first
    | (cases h; done)
    | (rename_i q; rcases q with rfl | rfl | rfl | rfl | rfl <;> (cases h; rfl))
    | (rename_i q; rcases q with rfl | rfl | rfl | rfl <;> (cases h; rfl))
    | (rename_i q; rcases q with rfl | rfl | rfl <;> (cases h; rfl))
    | (rename_i q; rcases q with rfl | rfl <;> (cases h; rfl))
    | (rename_i q; subst q; cases h; rfl)

section
variable {X : Cx} {φ ι : List Addr} {H : Hp} {S : Sto} {k : WK} {Q : VK} {x y : D} {v u : V}
theorem ty_rep (R : RelS X.K φ ι H S) (rx : rep X.K φ ι H x v) (hx : isDic x = false) : TyX X.K H v (.type (tyN x)) := by
  cases x with
  | non => cases (show v = _ from rx); exact .base .non
  | bl b => cases (show v = _ from rx); exact .base (.bl b)
  | int b => cases (show v = _ from rx); exact .base (.int b)
  | str b => cases (show v = _ from rx); exact .base (.str b)
  | tup ds =>
    obtain ⟨a, xs, rfl, (⟨(f | ⟨o, f⟩), _⟩ | (f | ⟨o, its, n, f, c, _⟩)), _⟩ := rx
    · exact .base (.tup f)
    · exact .fTuple f
    · exact (bare_rd f).elim
    · exact .kTuple f c
  | ro ds =>
    obtain ⟨a, xs, rfl, (⟨(f | ⟨o, f⟩), _⟩ | (f | ⟨o, its, n, f, c, _⟩)), _⟩ := rx
    · exact .base (.lst f)
    · exact .base (.frz f)
    · exact (bare_rd f).elim
    · exact .kList f c
  | ptr n =>
    obtain ⟨a, ha, rfl⟩ := rx
    obtain ⟨vs, e⟩ := R.mem (List.mem_of_getElem? ha)
    exact .base (.lst e)
  | dic => cases hx
  | rng => cases hx
  | frt => cases hx
theorem isi_ok {t : String} {b : Bool} (R : RelS X.K φ ι H S) (rx : rep X.K φ ι H x v) (h : isiB t x = some b) (hk : k (.bl b) S) (P : Post X.K φ ι H k Q) : CallB X (.builtin "isinstance") [v, .ty t] H Q :=
  ⟨_, call_isi, v, .ty t, _, _, b, rfl, .ty t, ty_rep R rx (by cases x <;> first | rfl | (cases h)), kit_ty (isi_kit h), P.here R hk rfl⟩

theorem pairs_rep : ∀ {xs : List D} {vs : List V} {ps : List (Int × Int)}, reps X.K φ ι H xs vs → pairsOf xs = some ps → vs.length = ps.length ∧ ∀ z ∈ vs.zip ps, rep X.K φ ι H (pairI z.2) z.1
  | [], vs, ps, r, h => by
    obtain rfl : vs = [] := r
    cases h
    exact ⟨rfl, fun z hz => by cases hz⟩
  | d :: xs, vs, ps, r, h => by
    obtain ⟨v, us, rfl, r1, r2⟩ := r
    unfold pairsOf at h
    split at h
    · rename_i e
      cases e
    · rename_i a b r' e
      cases e
      obtain ⟨q, hq, rfl⟩ := Option.map_eq_some_iff.mp h
      obtain ⟨l, m⟩ := pairs_rep r2 hq
      refine ⟨by simp [l], fun z hz => ?_⟩
      rw [List.zip_cons_cons] at hz
      rcases List.mem_cons.mp hz with rfl | hz
      · exact r1
      · exact m z hz
    · cases h
theorem trips_rep : ∀ {xs : List D} {vs : List V} {ps : List T3}, reps X.K φ ι H xs vs → tripsOf xs = some ps → vs.length = ps.length ∧ ∀ z ∈ vs.zip ps, rep X.K φ ι H (tripI z.2) z.1
  | [], vs, ps, r, h => by
    obtain rfl : vs = [] := r
    cases h
    exact ⟨rfl, fun z hz => by cases hz⟩
  | d :: xs, vs, ps, r, h => by
    obtain ⟨v, us, rfl, r1, r2⟩ := r
    unfold tripsOf at h
    split at h
    · rename_i e
      cases e
    · rename_i a b c r' e
      cases e
      obtain ⟨q, hq, rfl⟩ := Option.map_eq_some_iff.mp h
      obtain ⟨l, m⟩ := trips_rep r2 hq
      refine ⟨by simp [l], fun z hz => ?_⟩
      rw [List.zip_cons_cons] at hz
      rcases List.mem_cons.mp hz with rfl | hz
      · exact r1
      · exact m z hz
    · cases h
theorem trip_sq {p : T3} {v : V} (r : rep X.K φ ι H (tripI p) v) : ∃ t, v = V.ref t ∧ SqT X.K H t [.int p.1, .int p.2.1, .int p.2.2] := by
  obtain ⟨t, us, e3, f, r3⟩ := r
  obtain ⟨u1, us2, rfl, r4, r5⟩ := r3
  obtain ⟨u2, u3, rfl, r6, r7⟩ := reps2 r5
  obtain rfl : u1 = _ := r4
  obtain rfl : u2 = _ := r6
  obtain rfl : u3 = _ := r7
  exact ⟨t, e3, f.sq⟩
theorem reps_zipT : ∀ {zs : List (V × T3)}, (∀ z ∈ zs, rep X.K φ ι H (tripI z.2) z.1) → reps X.K φ ι H ((zs.map (·.2)).map tripI) (zs.map (·.1))
  | [], _ => rfl
  | z :: zs, h => ⟨z.1, zs.map (·.1), rfl, h z List.mem_cons_self, reps_zipT fun y hy => h y (List.mem_cons_of_mem _ hy)⟩
theorem reps_zip : ∀ {zs : List (V × (Int × Int))}, (∀ z ∈ zs, rep X.K φ ι H (pairI z.2) z.1) → reps X.K φ ι H ((zs.map (·.2)).map pairI) (zs.map (·.1))
  | [], _ => rfl
  | z :: zs, h => ⟨z.1, zs.map (·.1), rfl, h z List.mem_cons_self, reps_zip fun y hy => h y (List.mem_cons_of_mem _ hy)⟩
theorem reps_int : ∀ ns : List Int, reps X.K φ ι H (ns.map D.int) (ns.map V.int)
  | [] => rfl
  | n :: ns => ⟨.int n, ns.map V.int, rfl, rfl, reps_int ns⟩
theorem sort_ok {kk : List D → Prop} (R : RelS X.K φ ι H S) (rx : rep X.K φ ι H x v) (h : sortW x S kk) (q : ∀ ys vs p, kk ys → reps X.K φ ι H ys vs → H p = none → Q (.ref p) (upd H p (.lst vs))) : CallB X (.builtin "sorted") [v] H Q := by
  unfold sortW at h
  split at h
  · rename_i e
    obtain ⟨a, ws, rfl, hq, r⟩ := seq_of R rx e
    split at h
    · rename_i e2
      rw [ints_of r e2] at hq
      exact ⟨_, cr_sortIA, a, _, rfl, hq, fun ns' p h1 h2 h3 => q _ _ p (h ns' h1 h2) (reps_int ns') h3⟩
    · split at h
      · rename_i e2
        obtain ⟨l, m⟩ := pairs_rep r e2
        refine ⟨_, cr_sortPA, a, ws, _, rfl, hq, l, fun z hz => ?_, fun zs p h1 h2 h3 => ?_⟩
        · obtain ⟨t, us, e3, f, r3⟩ := m z hz
          obtain ⟨u1, u2, rfl, r4, r5⟩ := reps2 r3
          obtain rfl : u1 = _ := r4
          obtain rfl : u2 = _ := r5
          exact ⟨t, e3, f.sq⟩
        · have hp : (zs.map (·.2)).Perm _ := (h1.map (·.2)).trans (List.Perm.of_eq (List.map_snd_zip (by omega)))
          exact q _ _ p (h _ hp h2) (reps_zip fun z hz => m z (h1.mem_iff.mp hz)) h3
      · split at h
        · rename_i e2
          obtain ⟨l, m⟩ := trips_rep r e2
          refine ⟨_, cr_sortTA, a, ws, _, rfl, hq, l, fun z hz => trip_sq (m z hz), fun zs p h1 h2 h3 => ?_⟩
          have hp : (zs.map (·.2)).Perm _ := (h1.map (·.2)).trans (List.Perm.of_eq (List.map_snd_zip (by omega)))
          exact q _ _ p (h _ hp h2) (reps_zipT fun z hz => m z (h1.mem_iff.mp hz)) h3
        · exact h.elim
  · exact h.elim
theorem min_ok (hc : X.calm = true) (hu : X.A.units + 64 < cLine) (R : RelS X.K φ ι H S) (rx : rep X.K φ ι H x v) (h : minTW x S k) (P : Post X.K φ ι H k Q) : CallB X (.builtin "min") [v] H Q := by
  unfold minTW at h
  split at h
  · split at h
    · rename_i e2
      obtain ⟨a, ws, rfl, f, r⟩ := id rx
      obtain ⟨l, m⟩ := trips_rep r e2
      refine ⟨_, cr_minTA hc hu, a, ws, _, rfl, f.sq, l, fun z hz => trip_sq (m z hz), h.1, fun z hz hb => P.here R (h.2 z.2 ?_ hb) (m z hz)⟩
      exact (List.of_mem_zip hz).2
    · exact h.elim
  · exact h.elim
theorem bi_ok {b : BI} {ds : List D} {vs : List V} (hc : X.calm = true) (hu : X.A.units + 64 < cLine) (R : RelS X.K φ ι H S) (r : reps X.K φ ι H ds vs) (h : biW b ds S k) (P : Post X.K φ ι H k Q) : CallB X (biV b) (biX b vs) H Q := by
  unfold biW at h
  split at h
  · obtain ⟨v, rfl, r1⟩ := reps1 r
    clear r
    have r := r1
    clear r1
    split at h
    · cases (show v = _ from r)
      exact ⟨_, call_len_str, _, rfl, h.1, P.here R h.2 rfl⟩
    · split at h
      · rename_i e
        obtain ⟨a, ws, rfl, q, r⟩ := seq_of R r e
        exact ⟨_, call_len_seq, a, ws, rfl, q, by rw [reps_len r]; exact P.here R h rfl⟩
      · exact h.elim
  · obtain ⟨v, rfl, r1⟩ := reps1 r
    clear r
    have r := r1
    clear r1
    split at h
    · cases (show v = _ from r)
      exact ⟨_, call_int1, .inl ⟨_, rfl, P.here R h rfl⟩⟩
    · cases (show v = _ from r)
      exact ⟨_, call_int1, .inr ⟨_, rfl, P.here R h rfl⟩⟩
    · exact h.elim
  · obtain ⟨v, rfl, r1⟩ := reps1 r
    clear r
    have r := r1
    clear r1
    cases (show v = _ from r)
    exact ⟨_, call_abs, _, rfl, P.here R h rfl⟩
  · obtain ⟨v, rfl, r1⟩ := reps1 r
    clear r
    have r := r1
    clear r1
    split at h
    · cases (show v = _ from r)
      exact ⟨_, call_bool1, .inl ⟨_, rfl, P.here R h rfl⟩⟩
    · cases (show v = _ from r)
      exact ⟨_, call_bool1, .inr ⟨_, rfl, P.here R h rfl⟩⟩
    · exact h.elim
  · obtain ⟨v, rfl, r1⟩ := reps1 r
    clear r
    have r := r1
    clear r1
    split at h
    · rename_i e
      cases hl : listOf S ‹D› with
      | some ys =>
        have e2 := (seqOf_list hl).symm.trans e
        cases e2
        obtain ⟨a, ws, rfl, q, r⟩ := list_of R r hl
        exact ⟨_, call_tuple_of, a, ws, rfl, .inl ⟨q, fun l hp => P.tup R h r hp⟩⟩
      | none =>
        rcases seqOf_tup e hl with e2 | e2
        · subst e2
          obtain ⟨a, ws, rfl, f, q⟩ := id r
          exact ⟨_, call_tuple_of, a, ws, rfl, .inr ⟨f.sq, P.here R h r⟩⟩
        · subst e2
          have r := frt_tup r
          obtain ⟨a, ws, rfl, f, q⟩ := id r
          exact ⟨_, call_tuple_of, a, ws, rfl, .inr ⟨f.sq, P.here R h r⟩⟩
    · exact h.elim
  · obtain ⟨v, rfl, r1⟩ := reps1 r
    split at h
    · rename_i e
      obtain ⟨a, ws, rfl, q, r2⟩ := list_of R r1 e
      exact ⟨_, call_tupleX, a, ws, rfl, q, fun l o hd hp => P.frt R h r2 hd hp⟩
    · exact h.elim
  · obtain ⟨v, rfl, r1⟩ := reps1 r
    cases (show v = _ from r1)
    exact ⟨_, call_signs hc, _, rfl, h.1, fun l hp => P.ro R h.2 (reps_signs _) hp⟩
  · obtain ⟨v, rfl, r1⟩ := reps1 r
    clear r
    have r := r1
    clear r1
    split at h
    · rename_i e
      obtain ⟨a, ws, rfl, q, r⟩ := seq_of R r e
      exact ⟨_, call_list_of, a, ws, rfl, q, fun l hp => P.ro R h r hp⟩
    · exact h.elim
  · obtain ⟨v, rfl, r1⟩ := reps1 r
    cases (show v = _ from r1)
    exact ⟨_, call_signs hc, _, rfl, h.1, fun l hp => P.mls R h.2 (reps_signs _) hp⟩
  · obtain ⟨v, rfl, r1⟩ := reps1 r
    clear r
    have r := r1
    clear r1
    split at h
    · rename_i e
      obtain ⟨a, ws, rfl, q, r⟩ := seq_of R r e
      exact ⟨_, call_list_of, a, ws, rfl, q, fun l hp => P.mls R h r hp⟩
    · exact h.elim
  · obtain ⟨v, u, rfl, r1, r2⟩ := reps2 r
    cases (show v = _ from r1)
    cases (show u = _ from r2)
    exact ⟨_, call_max2 hc, _, _, rfl, P.here R h rfl⟩
  · obtain ⟨v, u, rfl, r1, r2⟩ := reps2 r
    cases (show v = _ from r1)
    cases (show u = _ from r2)
    exact ⟨_, call_min2 hc, _, _, rfl, P.here R h rfl⟩
  · obtain ⟨v, rfl, r1⟩ := reps1 r
    clear r
    have r := r1
    clear r1
    split at h
    · rename_i e
      obtain ⟨ds, e1, e2⟩ := Option.bind_eq_some_iff.mp e
      obtain ⟨a, ws, rfl, q, r⟩ := seq_of R r e1
      rw [ints_of r e2] at q
      exact ⟨_, cr_maxA hc, a, _, rfl, q, h.1, fun m h1 h2 => P.here R (h.2 m h1 h2) rfl⟩
    · exact h.elim
  · obtain ⟨v, rfl, r1⟩ := reps1 r
    clear r
    have r := r1
    clear r1
    split at h
    · rename_i e
      obtain ⟨ds, e1, e2⟩ := Option.bind_eq_some_iff.mp e
      obtain ⟨a, ws, rfl, q, r⟩ := seq_of R r e1
      rw [ints_of r e2] at q
      exact ⟨_, cr_minA hc, a, _, rfl, q, h.1, fun m h1 h2 => P.here R (h.2 m h1 h2) rfl⟩
    · exact min_ok hc hu R r h P
  · obtain ⟨v, rfl, r1⟩ := reps1 r
    clear r
    have r := r1
    clear r1
    split at h
    · rename_i e
      obtain ⟨ds, e1, e2⟩ := Option.bind_eq_some_iff.mp e
      obtain ⟨a, ws, rfl, q, r⟩ := seq_of R r e1
      rw [ints_of r e2] at q
      exact ⟨_, cr_sumA hc, a, _, rfl, q, P.here R h rfl⟩
    · exact h.elim
  · obtain ⟨v, rfl, r1⟩ := reps1 r
    clear r
    have r := r1
    clear r1
    split at h
    · rename_i e
      obtain ⟨ds, e1, e2⟩ := Option.bind_eq_some_iff.mp e
      obtain ⟨a, ws, rfl, q, r⟩ := list_of R r e1
      rw [bools_of r e2] at q
      exact ⟨_, cr_any hc, a, _, rfl, q, P.here R h rfl⟩
    · exact h.elim
  · obtain ⟨v, rfl, r1⟩ := reps1 r
    clear r
    have r := r1
    clear r1
    split at h
    · rename_i e
      obtain ⟨ds, e1, e2⟩ := Option.bind_eq_some_iff.mp e
      obtain ⟨a, ws, rfl, q, r⟩ := list_of R r e1
      rw [bools_of r e2] at q
      exact ⟨_, cr_all hc, a, _, rfl, q, P.here R h rfl⟩
    · exact h.elim
  · obtain ⟨v, rfl, r1⟩ := reps1 r
    exact sort_ok R r1 h fun ys vs p hk rr hp => P.ro R hk rr hp
  · obtain ⟨v, rfl, r1⟩ := reps1 r
    exact sort_ok R r1 h fun ys vs p hk rr hp => P.mls R hk rr hp
  · obtain ⟨v, rfl, r1⟩ := reps1 r
    clear r
    have r := r1
    clear r1
    cases (show v = _ from r)
    exact ⟨_, call_str_int, _, rfl, h.1, P.here R h.2 rfl⟩
  · obtain ⟨v, rfl, r1⟩ := reps1 r
    clear r
    have r := r1
    clear r1
    split at h
    · rename_i e
      exact isi_ok R r e h P
    · exact h.elim
  · obtain ⟨v, u, rfl, r1, r2⟩ := reps2 r
    cases (show v = _ from r1)
    cases (show u = _ from r2)
    exact ⟨_, cr_range2, _, _, rfl, fun p hp => P _ _ _ _ _ h.2 (.new hp) (R.new hp) ⟨p, rfl, ⟨upd_same, R.notMem hp, R.priv hp⟩, h.1⟩⟩
  · exact h.elim
end

/-! ### methods -/
def mtT : Mth → String
  | .append => "list" | .pop => "list" | .join => "str" | .count => "str" | .indexL => "list" | .countL => "list" | .indexS => "str" | .strip => "str" | .indexT => "tuple"
def mtN : Mth → String
  | .append => "append" | .pop => "pop" | .join => "join" | .count => "count" | .indexL => "index" | .countL => "count" | .indexS => "index" | .strip => "strip" | .indexT => "index"
section
variable {X : Cx} {φ ι : List Addr} {H : Hp} {S : Sto} {k : WK} {Q : VK} {x y : D} {v u : V} {ds : List D} {vs : List V}
theorem append_ok {d : D} (R : RelS X.K φ ι H S) (rx : rep X.K φ ι H x v) (ry : rep X.K φ ι H d u) (h : appendW x d S k) (P : Post X.K φ ι H k Q) : MtB X "list.append" v [u] H Q := by
  unfold appendW at h
  split at h
  · obtain ⟨a, ha, rfl⟩ := rx
    split at h
    · rename_i e
      obtain ⟨b, ws, h1, h2, h3⟩ := R.cell _ _ e
      rw [ha] at h1
      cases h1
      exact ⟨_, mt_append, a, ws, u, rfl, rfl, h2, by rw [reps_len h3]; exact h.1, P.set R h.2 ha (reps_append h3 ⟨u, [], rfl, ry, rfl⟩) rfl⟩
    · exact h.elim
  · exact h.elim
theorem pop_ok (R : RelS X.K φ ι H S) (rx : rep X.K φ ι H x v) (h : popW x S k) (P : Post X.K φ ι H k Q) : MtB X "list.pop" v [] H Q := by
  unfold popW at h
  split at h
  · obtain ⟨a, ha, rfl⟩ := rx
    split at h
    · rename_i e
      obtain ⟨b, ws, h1, h2, h3⟩ := R.cell _ _ e
      rw [ha] at h1
      cases h1
      split at h
      · rename_i e2
        obtain ⟨w, e3, rw_⟩ := reps_get h3 e2
        exact ⟨_, mt_pop, a, ws, w, rfl, rfl, h2, by rw [reps_len h3]; exact e3, P.set R h ha (reps_dropLast h3) rw_⟩
      · exact h.elim
    · exact h.elim
  · exact h.elim
theorem popAt_ok {d : D} (R : RelS X.K φ ι H S) (rx : rep X.K φ ι H x v) (ry : rep X.K φ ι H d u) (h : popAtW x d S k) (P : Post X.K φ ι H k Q) : MtB X "list.pop" v [u] H Q := by
  unfold popAtW at h
  split at h
  · obtain ⟨a, ha, rfl⟩ := rx
    obtain rfl : u = _ := ry
    split at h
    · rename_i e
      obtain ⟨b, ws, h1, h2, h3⟩ := R.cell _ _ e
      rw [ha] at h1
      cases h1
      split at h
      · rename_i e1
        split at h
        · rename_i e2
          obtain ⟨w, e3, rw_⟩ := reps_get h3 e2
          exact ⟨_, mt_popAt, a, ws, _, _, w, rfl, rfl, h2, h.1.1, h.1.2, by rw [reps_len h3]; exact e1, e3, P.set R h.2 ha (reps_erase _ h3) rw_⟩
        · exact h.elim
      · exact h.elim
    · exact h.elim
  · exact h.elim
theorem index_rep {xs : List D} {vs : List V} {d : D} {j : Nat} (rs : reps X.K φ ι H xs vs) (ru : rep X.K φ ι H d u) (f1 : flatD d = true) (f2 : xs.all flatD = true) (hj : xs.findIdx? (fun z => eqD z d) = some j) :
    ∃ z, vs[j]? = some z ∧ eqV z u = true ∧ ∀ (m : Nat) (z' : V), m < j → vs[m]? = some z' → eqV z' u = false := by
  obtain ⟨hjl, hz, hno⟩ := List.findIdx?_eq_some_iff_getElem.mp hj
  obtain ⟨w, hw, rw_⟩ := reps_get rs (List.getElem?_eq_getElem hjl)
  refine ⟨w, hw, ?_, fun m z' hm hz' => ?_⟩
  · rw [eqV_rep rw_ (List.all_eq_true.mp f2 _ (List.getElem_mem hjl)) ru f1]
    exact hz
  · have hml : m < xs.length := by omega
    obtain ⟨w2, hw2, rw2⟩ := reps_get rs (List.getElem?_eq_getElem hml)
    rw [hw2] at hz'
    cases hz'
    rw [eqV_rep rw2 (List.all_eq_true.mp f2 _ (List.getElem_mem hml)) ru f1]
    have := hno m hm
    simpa using this
theorem indexT_ok {xs : List D} {d : D} (R : RelS X.K φ ι H S) (rx : rep X.K φ ι H (.frt xs) v) (ry : rep X.K φ ι H d u) (h : indexTW (.frt xs) d S k) (P : Post X.K φ ι H k Q) : rIdxT v [u] H Q := by
  obtain ⟨a, ws, rfl, ⟨ob, ha, hd, _, _⟩, rs⟩ := rx
  refine ⟨a, ob, ws, rfl, ha, ?_⟩
  cases d with
  | int i =>
    have h : (match intsOf xs with | some ns => i ∈ ns ∧ k (.int (ns.idxOf i : Nat)) S | none => False) := h
    split at h
    · rename_i ns e
      obtain rfl : u = .int i := ry
      exact .inl ⟨ns, i, ints_of rs e, rfl, h.1, P.here R h.2 rfl⟩
    · exact h.elim
  | str z =>
    have h : (match strsOf xs with | some ys => z ∈ ys ∧ k (.int (ys.idxOf z : Nat)) S | none => False) := h
    split at h
    · rename_i ys e
      obtain rfl : u = .str z := ry
      exact .inr ⟨ys, z, strs_of rs e, rfl, h.1, P.here R h.2 rfl⟩
    · exact h.elim
  | _ => exact (show False from h).elim
theorem indexL_ok {d : D} (R : RelS X.K φ ι H S) (rx : rep X.K φ ι H x v) (ry : rep X.K φ ι H d u) (h : indexW (listOf S x) d S k) (P : Post X.K φ ι H k Q) : MtB X "list.index" v [u] H Q := by
  unfold indexW at h
  split at h
  · rename_i xs e
    obtain ⟨f1, f2, h⟩ := h
    split at h
    · rename_i j hj
      obtain ⟨a, vs, rfl, hs, rs⟩ := list_of R rx e
      obtain ⟨z, h1, h2, h3⟩ := index_rep rs ry f1 f2 hj
      exact ⟨_, mt_index, a, vs, u, j, z, rfl, rfl, hs, flat_rep ry f1, flats_rep rs f2, h1, h2, h3, P.here R h rfl⟩
    · exact h.elim
  · exact h.elim
theorem countP_rep {d : D} {u : V} (ru : rep X.K φ ι H d u) (f1 : flatD d = true) : ∀ {xs : List D} {vs : List V}, reps X.K φ ι H xs vs → xs.all flatD = true → vs.countP (fun z => eqV z u) = xs.countP (fun z => eqD z d)
  | [], vs, h, _ => by
    obtain rfl : vs = [] := h
    rfl
  | x :: xs, vs, h, f => by
    obtain ⟨v, r, rfl, h1, h2⟩ := h
    rw [List.all_cons, Bool.and_eq_true] at f
    rw [List.countP_cons, List.countP_cons, countP_rep ru f1 h2 f.2, eqV_rep h1 f.1 ru f1]
theorem countL_ok {d : D} (R : RelS X.K φ ι H S) (rx : rep X.K φ ι H x v) (ry : rep X.K φ ι H d u) (h : countLW (listOf S x) d S k) (P : Post X.K φ ι H k Q) : MtB X "list.count" v [u] H Q := by
  unfold countLW at h
  split at h
  · rename_i xs e
    obtain ⟨⟨f1, f2⟩, h⟩ := h
    obtain ⟨a, vs, rfl, hs, rs⟩ := list_of R rx e
    exact ⟨_, mt_lcountF, a, vs, u, rfl, rfl, hs, flat_rep ry f1, flats_rep rs f2, P.here R h (by rw [countP_rep ry f1 rs f2]; rfl)⟩
  · exact h.elim
theorem one_sign {b : Str} (h : b.length = 1) : b = ⟨#[b.cps.getD 0 0]⟩ := by
  obtain ⟨⟨l⟩⟩ := b
  match l, h with
  | [c], _ => rfl
theorem indexS_ok {d : D} (R : RelS X.K φ ι H S) (rx : rep X.K φ ι H x v) (ry : rep X.K φ ι H d u) (h : indexSW x d S k) (P : Post X.K φ ι H k Q) : MtB X "str.index" v [u] H Q := by
  unfold indexSW at h
  split at h
  · rename_i a b
    obtain ⟨h1, h⟩ := h
    split at h
    · rename_i j hj
      obtain rfl : v = _ := rx
      obtain rfl : u = _ := ry
      refine ⟨_, mt_sindex, a, b, j, [], rfl, rfl, ?_, P.here R h rfl⟩
      rw [one_sign h1]
      exact index_one hj
    · exact h.elim
  · exact h.elim
theorem strip_ok {d : D} (R : RelS X.K φ ι H S) (rx : rep X.K φ ι H x v) (ry : rep X.K φ ι H d u) (h : stripW x d S k) (P : Post X.K φ ι H k Q) : MtB X "str.strip" v [u] H Q := by
  unfold stripW at h
  split at h
  · rename_i a b
    obtain rfl : v = _ := rx
    obtain rfl : u = _ := ry
    exact ⟨_, mt_stripChars, a, b, rfl, rfl, h.1, P.here R h.2 rfl⟩
  · exact h.elim
theorem join_ok {d : D} (R : RelS X.K φ ι H S) (rx : rep X.K φ ι H x v) (ry : rep X.K φ ι H d u) (h : joinW x d S k) (P : Post X.K φ ι H k Q) : ∃ a p ys, v = V.str a ∧ [u] = [V.ref p] ∧ (SqL X.K H p (ys.map V.str) ∨ SqT X.K H p (ys.map V.str)) ∧ (ys.map (fun x => Str.length x)).sum + ys.length * a.length ≤ 16777216 ∧ Q (V.str (Txt.join a ys)) H := by
  unfold joinW at h
  split at h
  · obtain rfl : v = _ := rx
    split at h
    · rename_i e
      obtain ⟨ds, e1, e2⟩ := Option.bind_eq_some_iff.mp e
      obtain ⟨a, ws, rfl, q, r⟩ := seq_of R ry e1
      rw [strs_of r e2] at q
      exact ⟨_, a, _, rfl, rfl, q, h.1, P.here R h.2 rfl⟩
    · exact h.elim
  · exact h.elim
end
end Ov
-- OvE
namespace Ov
open PySem PySem.Spec PyProof.Rows L2

/-! ### a private list -/
section
variable {K : PySem.W.Frag} {φ ι : List Addr} {H : Hp} {S : Sto} {D0 : Addr} {o : HO}
theorem Rd.priv {a : Addr} {u : HO} (h : Rd H a u) (n : a ≠ D0) : Rd (upd H D0 o) a u := by
  rcases h with h | ⟨p, h⟩
  · exact .inl (by rw [upd_ne n]; exact h)
  · exact .inr ⟨p, by rw [upd_ne n]; exact h⟩
mutual
theorem rep_priv (hD : D0 ∈ φ) : ∀ (d : D) (v : V), rep K φ ι H d v → rep K φ ι (upd H D0 o) d v
  | .non, _, h => h
  | .bl _, _, h => h
  | .int _, _, h => h
  | .str _, _, h => h
  | .tup ds, v, h => by
    obtain ⟨a, xs, r, (⟨f, n1, n2⟩ | f), q⟩ := h
    · exact ⟨a, xs, r, .inl ⟨Rd.priv f fun e => n2 (e ▸ hD), n1, n2⟩, reps_priv hD ds xs q⟩
    · exact ⟨a, xs, r, .inr f, reps_priv hD ds xs q⟩
  | .ro ds, v, h => by
    obtain ⟨a, xs, r, (⟨f, n1, n2⟩ | f), q⟩ := h
    · exact ⟨a, xs, r, .inl ⟨Rd.priv f fun e => n2 (e ▸ hD), n1, n2⟩, reps_priv hD ds xs q⟩
    · exact ⟨a, xs, r, .inr f, reps_priv hD ds xs q⟩
  | .ptr n, v, h => h
  | .dic ks ds, v, h => by
    obtain ⟨a, xs, r, ⟨f, n1, n2⟩, q⟩ := h
    exact ⟨a, xs, r, ⟨Rd.priv f fun e => n2 (e ▸ hD), n1, n2⟩, reps_priv hD ds xs q⟩
  | .rng lo hi, v, h => by
    obtain ⟨a, r, ⟨f, n1, n2⟩, q⟩ := h
    exact ⟨a, r, ⟨by rw [upd_ne (show a ≠ D0 from fun e => n2 (by rw [e]; exact hD))]; exact f, n1, n2⟩, q⟩
  | .frt ds, v, h => by
    obtain ⟨a, xs, r, ⟨u, f, hd, n1, n2⟩, q⟩ := h
    exact ⟨a, xs, r, ⟨u, by rw [upd_ne (show a ≠ D0 from fun e => n2 (by rw [e]; exact hD))]; exact f, hd, n1, n2⟩, reps_priv hD ds xs q⟩
theorem reps_priv (hD : D0 ∈ φ) : ∀ (ds : List D) (vs : List V), reps K φ ι H ds vs → reps K φ ι (upd H D0 o) ds vs
  | [], _, h => h
  | d :: ds, vs, h => by
    obtain ⟨v, r, q, h1, h2⟩ := h
    exact ⟨v, r, q, rep_priv hD d v h1, reps_priv hD ds r h2⟩
end
theorem RelS.priv_upd (R : RelS K φ ι H S) (hD : D0 ∈ φ) : RelS K φ ι (upd H D0 o) S := ⟨R.len, R.nd, fun a ha => by
    obtain ⟨n, u, h⟩ := R.pv a ha
    by_cases e : a = D0
    · subst e
      exact ⟨n, o, upd_same⟩
    · exact ⟨n, u, by rw [upd_ne e]; exact h⟩, fun n xs h => by
    obtain ⟨a, vs, h1, h2, h3⟩ := R.cell n xs h
    have na : a ≠ D0 := fun e => (R.pv D0 hD).1 (e ▸ List.mem_of_getElem? h1)
    exact ⟨a, vs, h1, by rw [upd_ne na]; exact h2, reps_priv hD _ _ h3⟩⟩
mutual
theorem rep_pub : ∀ (d : D) (v : V), rep K (D0 :: φ) ι H d v → rep K φ ι H d v
  | .non, _, h => h
  | .bl _, _, h => h
  | .int _, _, h => h
  | .str _, _, h => h
  | .tup ds, v, h => by
    obtain ⟨a, xs, r, (⟨f, n1, n2⟩ | f), q⟩ := h
    · exact ⟨a, xs, r, .inl ⟨f, n1, fun z => n2 (List.mem_cons_of_mem _ z)⟩, reps_pub ds xs q⟩
    · exact ⟨a, xs, r, .inr f, reps_pub ds xs q⟩
  | .ro ds, v, h => by
    obtain ⟨a, xs, r, (⟨f, n1, n2⟩ | f), q⟩ := h
    · exact ⟨a, xs, r, .inl ⟨f, n1, fun z => n2 (List.mem_cons_of_mem _ z)⟩, reps_pub ds xs q⟩
    · exact ⟨a, xs, r, .inr f, reps_pub ds xs q⟩
  | .ptr n, v, h => h
  | .dic ks ds, v, h => by
    obtain ⟨a, xs, r, ⟨f, n1, n2⟩, q⟩ := h
    exact ⟨a, xs, r, ⟨f, n1, fun z => n2 (List.mem_cons_of_mem _ z)⟩, reps_pub ds xs q⟩
  | .rng lo hi, v, h => by
    obtain ⟨a, r, ⟨f, n1, n2⟩, q⟩ := h
    exact ⟨a, r, ⟨f, n1, fun z => n2 (List.mem_cons_of_mem _ z)⟩, q⟩
  | .frt ds, v, h => by
    obtain ⟨a, xs, r, ⟨u, f, hd, n1, n2⟩, q⟩ := h
    exact ⟨a, xs, r, ⟨u, f, hd, n1, fun z => n2 (List.mem_cons_of_mem _ z)⟩, reps_pub ds xs q⟩
theorem reps_pub : ∀ (ds : List D) (vs : List V), reps K (D0 :: φ) ι H ds vs → reps K φ ι H ds vs
  | [], _, h => h
  | d :: ds, vs, h => by
    obtain ⟨v, r, q, h1, h2⟩ := h
    exact ⟨v, r, q, rep_pub d v h1, reps_pub ds r h2⟩
end
theorem RelS.pub (R : RelS K (D0 :: φ) ι H S) : RelS K φ ι H S := ⟨R.len, R.nd, fun a ha => R.pv a (List.mem_cons_of_mem _ ha), fun n xs h => by
    obtain ⟨a, vs, h1, h2, h3⟩ := R.cell n xs h
    exact ⟨a, vs, h1, h2, reps_pub _ _ h3⟩⟩
theorem Rd.some {a : Addr} {u : HO} (h : Rd H a u) : ∃ p, H a = some p := by
  rcases h with h | ⟨p, h⟩
  · exact ⟨_, h⟩
  · exact ⟨_, h⟩
mutual
theorem rep_hide (hD : H D0 = none) : ∀ (d : D) (v : V), rep K φ ι H d v → rep K (D0 :: φ) ι (upd H D0 o) d v
  | .non, _, h => h
  | .bl _, _, h => h
  | .int _, _, h => h
  | .str _, _, h => h
  | .tup ds, v, h => by
    obtain ⟨a, xs, r, (⟨f, n1, n2⟩ | f), q⟩ := h
    · obtain ⟨p, e⟩ := Rd.some f
      have na := ne_of_none e hD
      exact ⟨a, xs, r, .inl ⟨Rd.priv f na, n1, by simp [na, n2]⟩, reps_hide hD ds xs q⟩
    · exact ⟨a, xs, r, .inr f, reps_hide hD ds xs q⟩
  | .ro ds, v, h => by
    obtain ⟨a, xs, r, (⟨f, n1, n2⟩ | f), q⟩ := h
    · obtain ⟨p, e⟩ := Rd.some f
      have na := ne_of_none e hD
      exact ⟨a, xs, r, .inl ⟨Rd.priv f na, n1, by simp [na, n2]⟩, reps_hide hD ds xs q⟩
    · exact ⟨a, xs, r, .inr f, reps_hide hD ds xs q⟩
  | .ptr n, v, h => h
  | .dic ks ds, v, h => by
    obtain ⟨a, xs, r, ⟨f, n1, n2⟩, q⟩ := h
    obtain ⟨p, e⟩ := Rd.some f
    have na := ne_of_none e hD
    exact ⟨a, xs, r, ⟨Rd.priv f na, n1, by simp [na, n2]⟩, reps_hide hD ds xs q⟩
  | .rng lo hi, v, h => by
    obtain ⟨a, r, ⟨f, n1, n2⟩, q⟩ := h
    have na := ne_of_none f hD
    exact ⟨a, r, ⟨by rw [upd_ne na]; exact f, n1, by simp [na, n2]⟩, q⟩
  | .frt ds, v, h => by
    obtain ⟨a, xs, r, ⟨u, f, hd, n1, n2⟩, q⟩ := h
    have na := ne_of_none f hD
    exact ⟨a, xs, r, ⟨u, by rw [upd_ne na]; exact f, hd, n1, by simp [na, n2]⟩, reps_hide hD ds xs q⟩
theorem reps_hide (hD : H D0 = none) : ∀ (ds : List D) (vs : List V), reps K φ ι H ds vs → reps K (D0 :: φ) ι (upd H D0 o) ds vs
  | [], _, h => h
  | d :: ds, vs, h => by
    obtain ⟨v, r, q, h1, h2⟩ := h
    exact ⟨v, r, q, rep_hide hD d v h1, reps_hide hD ds r h2⟩
end
theorem RelS.hide (R : RelS K φ ι H S) (hD : H D0 = none) : RelS K (D0 :: φ) ι (upd H D0 o) S := ⟨R.len, R.nd, fun a ha => by
    rcases List.mem_cons.mp ha with e | ha
    · rw [e]
      exact ⟨R.notMem hD, o, upd_same⟩
    · obtain ⟨n, u, h⟩ := R.pv a ha
      exact ⟨n, u, by rw [upd_ne (ne_of_none h hD)]; exact h⟩, fun n xs h => by
    obtain ⟨a, vs, h1, h2, h3⟩ := R.cell n xs h
    exact ⟨a, vs, h1, by rw [upd_ne (ne_of_none h2 hD)]; exact h2, reps_hide hD _ _ h3⟩⟩
theorem RelE.hide {σd : DEnv} {σ : L2.St} (R : RelE K φ ι H σd σ) (hD : H D0 = none) : RelE K (D0 :: φ) ι (upd H D0 o) σd σ := ⟨R.len, fun i d h => by
  obtain ⟨v, h1, h2⟩ := R.get i d h
  exact ⟨v, h1, rep_hide hD _ _ h2⟩⟩
theorem RelE.priv_upd {σd : DEnv} {σ : L2.St} (R : RelE K φ ι H σd σ) (hD : D0 ∈ φ) : RelE K φ ι (upd H D0 o) σd σ := ⟨R.len, fun i d h => by
  obtain ⟨v, h1, h2⟩ := R.get i d h
  exact ⟨v, h1, rep_priv hD _ _ h2⟩⟩
end

/-! ### readings by data -/
section
variable (K : PySem.W.Frag)
def tD (w : DEnv → Sto → WK → Prop) : TE := fun σ H Q => ∃ φ ι σd S k, RelS K φ ι H S ∧ RelE K φ ι H σd σ ∧ w σd S k ∧ Post K φ ι H k Q
def tDs (w : DEnv → Sto → (List D → Sto → Prop) → Prop) : TA := fun σ H Q => ∃ φ ι σd S k, RelS K φ ι H S ∧ RelE K φ ι H σd σ ∧ w σd S k ∧
  ∀ ds S' ι' H' vs, k ds S' → Ext ι H ι' H' → RelS K φ ι' H' S' → reps K φ ι' H' ds vs → Q vs H'
def tDT (w : DEnv → Sto → (Bool → Sto → Prop) → Prop) : TT := fun σ H Q => ∃ φ ι σd S k, RelS K φ ι H S ∧ RelE K φ ι H σd σ ∧ w σd S k ∧
  ∀ b S' ι' H', k b S' → Ext ι H ι' H' → RelS K φ ι' H' S' → Q b H'
def tDO (w : DEnv → Sto → (Option Int → Sto → Prop) → Prop) : TO := fun σ H Q => ∃ φ ι σd S k, RelS K φ ι H S ∧ RelE K φ ι H σd σ ∧ w σd S k ∧
  ∀ b S' ι' H', k b S' → Ext ι H ι' H' → RelS K φ ι' H' S' → Q b H'
/-- vs: slots that the target's own lie among -/
def tDG (vs : List Nat) (w : D → DEnv → (DEnv → Prop) → Prop) : TG := fun v σ H Q => ∃ φ ι σd d k, RelE K φ ι H σd σ ∧ rep K φ ι H d v ∧ w d σd k ∧ ∀ σd' σ', k σd' → RelE K φ ι H σd' σ' → wipe σ' vs = wipe σ vs → Q σ' H
def tDGs (vs : List Nat) (w : List D → DEnv → (DEnv → Prop) → Prop) : TGs := fun us σ H Q => ∃ φ ι σd ds k, RelE K φ ι H σd σ ∧ reps K φ ι H ds us ∧ w ds σd k ∧ ∀ σd' σ', k σd' → RelE K φ ι H σd' σ' → wipe σ' vs = wipe σ vs → Q σ' H
/-- a way to go over something: what holds at its start holds on, and tells what comes -/
structure JGen (J : It) (xs : List D) (I : List Addr → List Addr → Hp → Prop) : Prop where
  mono : ∀ {φ ι H ι' H'}, I φ ι H → Ext ι H ι' H' → I φ ι' H'
  priv : ∀ {φ ι : List Addr} {H : Hp} {D0 : Addr} {o : HO}, I φ ι H → D0 ∈ φ → I φ ι (upd H D0 o)
  hide : ∀ {φ ι : List Addr} {H : Hp} {D0 : Addr} {o : HO}, I φ ι H → H D0 = none → I (D0 :: φ) ι (upd H D0 o)
  stop : ∀ {φ ι H} {i : Nat}, I φ ι H → xs.length ≤ i → i ≤ xs.length → J.stop i H
  go : ∀ {φ ι H S} {i : Nat} {x : D}, I φ ι H → RelS K φ ι H S → xs[i]? = some x → J.go i H ∧ ∀ v H', J.yld i H v H' → (H' = H ∨ ∃ T o, H T = none ∧ H' = upd H T o) ∧ rep K φ ι H' x v
/-- what goes over what -/
def JIs (φ : List Addr) (J : It) (ι : List Addr) (H : Hp) (xs : List D) (src : Option Nat) : Prop :=
  (∃ a vs, J = Itl K a ∧ FixL K φ ι H a vs ∧ reps K φ ι H xs vs ∧ src = none) ∨
  (∃ a vs, J = Itt K a ∧ FixT K φ ι H a vs ∧ reps K φ ι H xs vs ∧ src = none) ∨
  (∃ lo n, J = Itr lo n ∧ xs = rangeD lo n ∧ src = none) ∨ (∃ lo n, J = Itc lo (-1) n ∧ xs = downD lo n ∧ src = none) ∨ (∃ m a, J = Itl K a ∧ ι[m]? = some a ∧ src = some m) ∨
  (∃ a vs ys, J = Ite K a ∧ FixL K φ ι H a vs ∧ reps K φ ι H ys vs ∧ xs = enumD ys ∧ src = none) ∨ (∃ a vs ys, J = IteT K a ∧ FixT K φ ι H a vs ∧ reps K φ ι H ys vs ∧ xs = enumD ys ∧ src = none) ∨
  (src = none ∧ ∃ I, JGen K J xs I ∧ I φ ι H)
def tDI (w : DEnv → Sto → (List D → Option Nat → Sto → Prop) → Prop) : TI := fun σ H R => ∃ φ ι σd S k, RelS K φ ι H S ∧ RelE K φ ι H σd σ ∧ w σd S k ∧
  ∀ xs src S' ι' H' J, k xs src S' → Ext ι H ι' H' → RelS K φ ι' H' S' → JIs K φ J ι' H' xs src → R J H'
end
def wI (C : Calls) (rng : IK) (src : List PX) : DEnv → Sto → (List D → Option Nat → Sto → Prop) → Prop := fun σ S k => wEs C src σ S fun ds S1 => itW rng ds S1 fun xs sr => k xs sr S1

section
variable {X : Cx} {e : Expr} {t t' : TE}
theorem PE.imp (h : PE X e t) (i : ∀ σ H Q, t' σ H Q → t σ H Q) : PE X e t' := ⟨fun pins s σ H Q I q => h.run pins s σ H Q I (i σ H Q q)⟩
theorem PT.imp {t t' : TT} (h : PT X e t) (i : ∀ σ H Q, t' σ H Q → t σ H Q) : PT X e t' := ⟨fun pins s σ H Q I q => h.run pins s σ H Q I (i σ H Q q)⟩
theorem PW.imp {t t' : TT} (h : PW X e t) (i : ∀ σ H Q, t' σ H Q → t σ H Q) : PW X e t' := ⟨fun wh pins s σ H Q I q => h.run wh pins s σ H Q I (i σ H Q q)⟩
theorem PA.imp {es : List Expr} {t t' : TA} (h : PA X es t) (i : ∀ σ H Q, t' σ H Q → t σ H Q) : PA X es t' := ⟨fun pos pins s σ H Q I q => h.run pos pins s σ H Q I (i σ H Q q)⟩
theorem PO.imp {e : Option Expr} {t t' : TO} (h : PO X e t) (i : ∀ σ H Q, t' σ H Q → t σ H Q) : PO X e t' := ⟨fun pins s σ H Q I q => h.run pins s σ H Q I (i σ H Q q)⟩
theorem PG.imp {t t' : TG} (h : PG X e t) (i : ∀ v σ H Q, t' v σ H Q → t v σ H Q) : PG X e t' := ⟨fun pins s σ H v u Q I r q => h.run pins s σ H v u Q I r (i v σ H Q q)⟩
theorem PGs.imp {es : List Expr} {t t' : TGs} (h : PGs X es t) (i : ∀ v σ H Q, t' v σ H Q → t v σ H Q) : PGs X es t' := ⟨fun pins s σ H v u Q I r q => h.run pins s σ H v u Q I r (i v σ H Q q)⟩
theorem PI.imp {tg : Expr} {t t' : TI} (h : PI X tg e t) (i : ∀ σ H Q, t' σ H Q → t σ H Q) : PI X tg e t' := ⟨fun pins s σ H Q I q => h.run pins s σ H Q I (i σ H Q q)⟩
theorem PS.imp {st : Stmt} {t t' : TS} (h : PS X st t) (i : ∀ E σ H, t' E σ H → t E σ H) : PS X st t' := ⟨fun pins s σ H E I q => h.run pins s σ H E I (i E σ H q)⟩
theorem PSs.imp {st : List Stmt} {t t' : TS} (h : PSs X st t) (i : ∀ E σ H, t' E σ H → t E σ H) : PSs X st t' := ⟨fun pins s σ H E I q => h.run pins s σ H E I (i E σ H q)⟩
/-- a wish that can't be -/
theorem PE.no (h : ∀ σ H Q, ¬ t σ H Q) : PE X e t := ⟨fun pins s σ H Q I q => (h σ H Q q).elim⟩
theorem PT.no {t : TT} (h : ∀ σ H Q, ¬ t σ H Q) : PT X e t := ⟨fun pins s σ H Q I q => (h σ H Q q).elim⟩
end

/-! ### the texts -/
def isG (sc : Scope) (x : Str) : Bool := decide (sc.names.lookup x = some .globalImplicit) && !(x == ("__debug__" : Str))
def visB (sc : Scope) (x : Str) : Bool := match sc.names.lookup x with
  | some .local => true
  | some .cell => true
  | some .free => true
  | _ => false
def fnB (fnc : Option Scope) (x : Str) : Bool := match fnc with
  | none => true
  | some s => s.names.lookup x == some .cell
def locB (fnc : Option Scope) (sc : Scope) (x : Str) : Bool := match sc.names.lookup x with
  | some .local => true
  | some .cell => fnB fnc x
  | _ => false
def plainA : Expr → Bool
  | .Starred .. => false
  | _ => true
def plainT : Expr → Bool
  | .UnaryOp .. => false
  | .BoolOp .. => false
  | .IfExp .. => false
  | .Compare .. => false
  | _ => true
def plainO : Expr → Bool
  | .Call .. => false
  | _ => true
def plainS : Expr → Bool
  | .Slice .. => false
  | _ => true
def plainI : Expr → Bool
  | .Set .. => false
  | _ => true

mutual
def okP (N : List Str) (fnc : Option Scope) (sc : Scope) (vs : List Nat) : PP → Expr → Bool
  | .nm i, e => match e with
    | .Name x _ => decide (N[i]? = some x) && locB fnc sc x && vs.contains i
    | _ => false
  | .tp ps, e => match e with
    | .Tuple es _ _ => okPs N fnc sc vs ps es
    | _ => false
def okPs (N : List Str) (fnc : Option Scope) (sc : Scope) (vs : List Nat) : List PP → List Expr → Bool
  | [], es => match es with
    | [] => true
    | _ => false
  | p :: ps, es => match es with
    | [] => false
    | e :: es => plainA e && okP N fnc sc vs p e && okPs N fnc sc vs ps es
end

/-- a built-in's arguments -/
def argsChk (b : BI) (f : List Expr → Bool) (sc : Scope) (e0 : Expr) (xs : List Expr) : Bool :=
  match b with
  | .isI t => match xs with
    | [.Name y _] => decide (y = Str.ofString t) && isG sc y && decide (t ∈ ["int", "bool", "str", "tuple", "list"]) && f [e0]
    | _ => false
  | _ => f (e0 :: xs)
def mthLen (m : Mth) (xs : List Expr) : Bool :=
  match m with
  | .append => xs.length == 1
  | .pop => decide (xs.length ≤ 1)
  | .join => xs.length == 1
  | .count => xs.length == 1
  | .indexL => xs.length == 1
  | .indexT => xs.length == 1
  | .countL => xs.length == 1
  | .indexS => xs.length == 1
  | .strip => xs.length == 1
/-- what is gone over: range(..), or one thing -/
def iterChk (f : List Expr → Bool) (sc : Scope) (rng : IK) (one : Bool) (iter : Expr) : Bool :=
  match rng with
  | .rg => match iter with
    | .Call (.Name x _) (e0 :: xs) [] _ => decide (x = Str.ofString "range") && isG sc x && f (e0 :: xs) && decide (xs.length ≤ 2)
    | _ => false
  | .sq => one && f [iter]
  | .en => match iter with
    | .Call (.Name x _) [e0] [] _ => one && decide (x = Str.ofString "enumerate") && isG sc x && f [e0]
    | _ => false
  | .zp => match iter with
    | .Call (.Name x _) [e0, e1] [] _ => decide (x = Str.ofString "zip") && isG sc x && f [e0, e1]
    | _ => false
/-- enumerate's target is a tuple of names -/
def enTp (rng : IK) (p : PP) : Bool :=
  match rng, p with
  | .en, .nm _ => false
  | .zp, .nm _ => false
  | _, _ => true
/-- a constant of the module: told as an entry with more parameters than names -/
def isC (d : DDef) : Bool := decide (d.names.length < d.np)
def constIn (T : List DDef) (x : Str) (i : Int) : Bool := T.any fun d => isC d && decide (d.name = x) && (match d.body with
  | [.ret (.int j)] => decide (i = j)
  | _ => false)
mutual
def sameD : D → D → Bool
  | .non, .non => true
  | .bl a, .bl b => a == b
  | .int a, .int b => decide (a = b)
  | .str a, .str b => decide (a = b)
  | .tup a, .tup b => sameDs a b
  | .ro a, .ro b => sameDs a b
  | _, _ => false
def sameDs : List D → List D → Bool
  | [], [] => true
  | a :: as, b :: bs => sameD a b && sameDs as bs
  | _, _ => false
end
mutual
theorem sameD_eq : ∀ {a b : D}, sameD a b = true → a = b
  | .non, .non, _ => rfl
  | .bl a, .bl b, h => by rw [eq_of_beq (show (a == b) = true from h)]
  | .int a, .int b, h => by rw [of_decide_eq_true (show decide (a = b) = true from h)]
  | .str a, .str b, h => by rw [of_decide_eq_true (show decide (a = b) = true from h)]
  | .tup a, .tup b, h => by rw [sameDs_eq (show sameDs a b = true from h)]
  | .ro a, .ro b, h => by rw [sameDs_eq (show sameDs a b = true from h)]
theorem sameDs_eq : ∀ {a b : List D}, sameDs a b = true → a = b
  | [], [], _ => rfl
  | a :: as, b :: bs, h => by
    have h : (sameD a b && sameDs as bs) = true := h
    rw [Bool.and_eq_true] at h
    rw [sameD_eq h.1, sameDs_eq h.2]
end
def datIn (T : List DDef) (x : Str) (v : D) : Bool := T.any fun d => isC d && decide (d.name = x) && (match d.body with
  | [.ret (.dat _ j)] => sameD v j
  | _ => false)
def tabIn (T : List DDef) (x : Str) (ks : List Leaf) (vs : List D) : Bool := T.any fun d => isC d && decide (d.name = x) && (match d.body with
  | [.ret (.tab _ ks' vs' _)] => decide (ks = ks') && sameDs vs vs'
  | _ => false)
def callOk (T : List DDef) (f : Nat) : Bool := match T[f]? with
  | some d => !isC d
  | none => false
/-- a call by name of one thing -/
def unArg : Expr → Option (Str × Expr)
  | .Call (.Name y _) [e] [] _ => some (y, e)
  | _ => none
theorem unArg_eq {e0 e : Expr} {y : Str} (h : unArg e0 = some (y, e)) : ∃ p q, e0 = .Call (.Name y p) [e] [] q := by
  unfold unArg at h
  split at h
  · cases h
    exact ⟨_, _, rfl⟩
  · cases h
/-- the keys of a written dict -/
def keysOk : List Key → List (Option Expr) → Bool
  | [], es => es.isEmpty
  | .inr s :: ks, some (.Constant (.str t) _ _) :: es => decide (s = t) && keysOk ks es
  | .inl i :: ks, some (.Constant (.int j) _ _) :: es => i == j && keysOk ks es
  | _, _ => false
/-- min(e, default=None) -/
def minArg : Expr → Option (Str × Expr)
  | .Call (.Name y _) [e] [⟨some d, .Constant .none _ _, _⟩] _ => if d = "default" then some (y, e) else none
  | _ => none
theorem minArg_eq {e0 e : Expr} {y : Str} (h : minArg e0 = some (y, e)) : ∃ p q a b c, e0 = .Call (.Name y p) [e] [⟨some (Str.ofString "default"), .Constant .none a b, c⟩] q := by
  unfold minArg at h
  split at h
  · split at h
    · rename_i hd
      cases h
      subst hd
      exact ⟨_, _, _, _, _, rfl⟩
    · cases h
  · cases h
/-- the name of a def -/
def nameD (T : List DDef) (f : Nat) : Str := (T[f]?.map (·.name)).getD Str.empty
mutual
def okE (T : List DDef) (N : List Str) (fnc : Option Scope) (sc : Scope) : PX → Expr → Bool
  | .var i, e => match e with
    | .Name x _ => decide (N[i]? = some x) && visB sc x && !(x == ("__debug__" : Str)) && !(x == ("__classdict__" : Str))
    | _ => false
  | .con x i, e => match e with
    | .Name y _ => decide (x = y) && isG sc x && constIn T x i && !(x == ("__name__" : Str))
    | _ => false
  | .dat x v, e => match e with
    | .Name y _ => decide (x = y) && isG sc x && datIn T x v && !(x == ("__name__" : Str))
    | _ => false
  | .tab x ks vs i, e => match e with
    | .Subscript (.Name y _) ei _ => decide (x = y) && isG sc x && tabIn T x ks vs && !(x == ("__name__" : Str)) && okE T N fnc sc i ei && plainS ei
    | _ => false
  | .non, e => match e with
    | .Constant .none _ _ => true
    | _ => false
  | .bl b, e => match e with
    | .Constant (.bool c) _ _ => b == c
    | _ => false
  | .int i, e => match e with
    | .Constant (.int j) _ _ => i == j
    | _ => false
  | .str s, e => match e with
    | .Constant (.str t) _ _ => decide (s = t)
    | _ => false
  | .tup es, e => match e with
    | .Tuple xs _ _ => okEs T N fnc sc es xs && decide (es.length ≤ 1000)
    | _ => false
  | .tupX es, e => match e with
    | .Tuple xs _ _ => okEs T N fnc sc es xs && decide (es.length ≤ 1000)
    | _ => false
  | .ls es, e => match e with
    | .List xs _ => okEs T N fnc sc es xs && decide (es.length ≤ 1000)
    | _ => false
  | .mls es, e => match e with
    | .List xs _ => okEs T N fnc sc es xs && decide (es.length ≤ 1000)
    | _ => false
  | .bin op a b, e => match e with
    | .BinOp ea o eb _ => decide (opOf op = o) && okE T N fnc sc a ea && okE T N fnc sc b eb
    | _ => false
  | .neg a, e => match e with
    | .UnaryOp .USub ea _ => okE T N fnc sc a ea
    | _ => false
  | .notv a, e => match e with
    | .UnaryOp .Not ea _ => okE T N fnc sc a ea
    | _ => false
  | .cmp op a b, e => match e with
    | .Compare ea [o] [eb] _ => decide (cpOf op = o) && okE T N fnc sc a ea && okE T N fnc sc b eb && !(behindInMarks o eb)
    | _ => false
  | .chain op op' a b c, e => match e with
    | .Compare ea [o, o'] [eb, ec] _ => decide (cpOf op = o) && decide (cpOf op' = o') && okE T N fnc sc a ea && okE T N fnc sc b eb && okE T N fnc sc c ec && !(lastMarks [o, o'] [eb, ec])
    | _ => false
  | .andv a r, e => match e with
    | .BoolOp .And (ea :: eb :: rest) pos => okE T N fnc sc a ea && okE T N fnc sc r (.BoolOp .And (eb :: rest) pos)
    | _ => false
  | .orv a r, e => match e with
    | .BoolOp .Or (ea :: eb :: rest) pos => okE T N fnc sc a ea && okE T N fnc sc r (.BoolOp .Or (eb :: rest) pos)
    | _ => false
  | .one a, e => match e with
    | .BoolOp _ [ea] _ => okE T N fnc sc a ea
    | _ => false
  | .tru a, e => okE T N fnc sc a e && plainT e
  | .ite c a b, e => match e with
    | .IfExp ec ea eb _ => okE T N fnc sc c ec && okE T N fnc sc a ea && okE T N fnc sc b eb
    | _ => false
  | .call f es, e => match e with
    | .Call (.Name x _) (e0 :: xs) [] _ => callOk T f && decide (x = nameD T f) && isG sc x && okEs T N fnc sc es (e0 :: xs)
    | _ => false
  | .bi b es, e => match e with
    | .Call (.Name x _) (e0 :: xs) [] _ => decide (x = Str.ofString (biN b)) && isG sc x && argsChk b (okEs T N fnc sc es) sc e0 xs
    | _ => false
  | .minN a, e => match minArg e with
    | some (y, e1) => decide (y = "min") && isG sc y && plainA e1 && okE T N fnc sc a e1
    | none => false
  | .dct ks es, e => match e with
    | .Dict keys xs _ => keysOk ks keys && okEs T N fnc sc es xs && decide (ks.length = es.length) && decide (ks.length ≤ 15) && !ks.isEmpty && decide ks.Nodup
    | _ => false
  | .meth m o es, e => match e with
    | .Call (.Attribute eo nm apos) xs [] cpos => decide (nm = Str.ofString (mtN m)) && okE T N fnc sc o eo && plainO eo && okEs T N fnc sc es xs && (apos.endLine == cpos.line) && mthLen m xs
    | _ => false
  | .lrg _ a, e => match e with
    | .Call (.Name x _) [e0] [] _ => match unArg e0 with
      | some (y, e1) => decide (x = "list") && decide (y = "range") && isG sc x && isG sc y && plainA e1 && okE T N fnc sc a e1
      | none => false
    | _ => false
  | .idx a i, e => match e with
    | .Subscript ea ei _ => okE T N fnc sc a ea && okE T N fnc sc i ei && plainS ei
    | _ => false
  | .slc a lo hi, e => match e with
    | .Subscript ea (.Slice elo ehi none _) _ => okE T N fnc sc a ea && okO T N fnc sc lo elo && okO T N fnc sc hi ehi
    | _ => false
  | .comp mu elt p own rng src cond, e => match e with
    | .ListComp eelt [⟨tg, iter, ifs, 0⟩] scope _ => blkC N sc scope own && okP N (some scope) (relS scope sc) (own.map (·.2)) p tg && okE T N (some scope) (relS scope sc) elt eelt && plainI iter &&
      iterChk (okEs T N fnc sc src) sc rng (src.length == 1) iter && enTp rng p && okC T N (some scope) (relS scope sc) cond ifs
    | _ => false
  | .dcomp kx vx p own rng src cond, e => match e with
    | .DictComp ekx evx [⟨tg, iter, ifs, 0⟩] scope _ => blkC N sc scope own && okP N (some scope) (relS scope sc) (own.map (·.2)) p tg && okE T N (some scope) (relS scope sc) kx ekx && okE T N (some scope) (relS scope sc) vx evx && plainI iter &&
      iterChk (okEs T N fnc sc src) sc rng (src.length == 1) iter && enTp rng p && okC T N (some scope) (relS scope sc) cond ifs
    | _ => false
  | .comp2 elt p own rng src cond vs1 p1 rng1 src1 cond1, e => match e with
    | .ListComp eelt [⟨tg, iter, ifs, 0⟩, ⟨tg1, iter1, ifs1, 0⟩] scope _ => blkC N sc scope own && okP N (some scope) (relS scope sc) (own.map (·.2)) p tg && okP N (some scope) (relS scope sc) vs1 p1 tg1 &&
      okE T N (some scope) (relS scope sc) elt eelt && plainI iter && plainI iter1 &&
      iterChk (okEs T N fnc sc src) sc rng (src.length == 1) iter && enTp rng p && okC T N (some scope) (relS scope sc) cond ifs &&
      iterChk (okEs T N (some scope) (relS scope sc) src1) (relS scope sc) rng1 (src1.length == 1) iter1 && enTp rng1 p1 && okC T N (some scope) (relS scope sc) cond1 ifs1 && vs1.all (fun i => (own.map (·.2)).contains i)
    | _ => false
termination_by structural p => p
def okEs (T : List DDef) (N : List Str) (fnc : Option Scope) (sc : Scope) : List PX → List Expr → Bool
  | [], es => match es with
    | [] => true
    | _ => false
  | p :: ps, es => match es with
    | [] => false
    | e :: es => plainA e && okE T N fnc sc p e && okEs T N fnc sc ps es
termination_by structural p => p
def okO (T : List DDef) (N : List Str) (fnc : Option Scope) (sc : Scope) : Option PX → Option Expr → Bool
  | none, e => match e with
    | none => true
    | _ => false
  | some p, e => match e with
    | none => false
    | some e => okE T N fnc sc p e
termination_by structural p => p
def okC (T : List DDef) (N : List Str) (fnc : Option Scope) (sc : Scope) : Option PX → List Expr → Bool
  | none, ifs => ifs.isEmpty
  | some p, ifs => match ifs with
    | [e] => okE T N fnc sc p e
    | _ => false
termination_by structural p => p
end
end Ov
-- OvTb
/-! What the module holds: tuples, texts, dicts with keys of many kinds. -/
namespace Ov
open PySem PySem.Spec PyProof.Rows L2

mutual
/-- a value of the module is what the datum says -/
def repB (K : PySem.W.Frag) : D → Value → Bool
  | .non, v => (match v with
    | .none => true
    | _ => false)
  | .bl b, v => (match v with
    | .bool c => b == c
    | _ => false)
  | .int i, v => (match v with
    | .int j _ => decide (i = j)
    | _ => false)
  | .str s, v => (match v with
    | .str z _ => decide (s = z)
    | _ => false)
  | .tup ds, v => (match v with
    | .ref a => (match K.lookup a with
      | some ⟨.type c, _, .seq its _, _⟩ => decide (c = "tuple") && (decide (its.size ≤ sizeLine) && repsB K ds its.toList)
      | _ => false)
    | _ => false)
  | _, _ => false
def repsB (K : PySem.W.Frag) : List D → List Value → Bool
  | [], vs => vs.isEmpty
  | d :: ds, vs => (match vs with
    | [] => false
    | v :: vs => repB K d v && repsB K ds vs)
end
mutual
theorem repB_ok {K : PySem.W.Frag} : ∀ {d : D} {u : Value}, repB K d u = true → ∃ v, RelV v u ∧ ∀ φ ι H, rep K φ ι H d v
  | .non, u, h => by
    unfold repB at h
    split at h
    · exact ⟨.non, rfl, fun _ _ _ => rfl⟩
    · cases h
  | .bl b, u, h => by
    unfold repB at h
    split at h
    · exact ⟨.bl b, by rw [eq_of_beq h]; rfl, fun _ _ _ => rfl⟩
    · cases h
  | .int i, u, h => by
    unfold repB at h
    split at h
    · exact ⟨.int i, by rw [of_decide_eq_true h]; exact ⟨_, rfl⟩, fun _ _ _ => rfl⟩
    · cases h
  | .str i, u, h => by
    unfold repB at h
    split at h
    · exact ⟨.str i, by rw [of_decide_eq_true h]; exact ⟨_, rfl⟩, fun _ _ _ => rfl⟩
    · cases h
  | .tup ds, u, h => by
    unfold repB at h
    split at h
    · rename_i a
      split at h
      · rename_i c od its n sl q
        simp only [Bool.and_eq_true, decide_eq_true_eq] at h
        obtain ⟨rfl, h2, h3⟩ := h
        obtain ⟨vs, r, hv⟩ := repsB_ok h3
        exact ⟨.ref a, rfl, fun φ ι H => ⟨a, vs, rfl, .inr (.inr ⟨_, its, n, q, rfl, rfl, h2, r⟩), hv φ ι H⟩⟩
      · cases h
    · cases h
  | .ro _, u, h => by cases h
  | .ptr _, u, h => by cases h
  | .dic _ _, u, h => by cases h
  | .rng _ _, u, h => by cases h
  | .frt _, u, h => by cases h
theorem repsB_ok {K : PySem.W.Frag} : ∀ {ds : List D} {us : List Value}, repsB K ds us = true → ∃ vs, Vals vs us ∧ ∀ φ ι H, reps K φ ι H ds vs
  | [], us, h => by
    match us, h with
    | [], _ => exact ⟨[], .nil, fun _ _ _ => rfl⟩
  | d :: ds, us, h => by
    match us, h with
    | u :: us, h =>
      have h : (repB K d u && repsB K ds us) = true := h
      rw [Bool.and_eq_true] at h
      obtain ⟨v, r, hv⟩ := repB_ok h.1
      obtain ⟨vs, rs, hvs⟩ := repsB_ok h.2
      exact ⟨v :: vs, .cons r rs, fun φ ι H => ⟨v, vs, rfl, hv φ ι H, hvs φ ι H⟩⟩
end
/-- a dict of the module: what its keys are, what stands under one -/
structure KTab (K : PySem.W.Frag) (w : World) (a : Addr) (ks : List Leaf) (ds : List D) : Prop where
  ex : ∃ es n, K.lookup a = some ⟨.type "dict", none, .dict es n, #[]⟩ ∧ (∀ e ∈ es, ∃ k : Leaf, k.isOf e.key = true ∧ e.hash = k.key.hash w) ∧
    ∀ l d, lookL ks ds l = some d → ∃ u, findBy Leaf.isOf es l = some u ∧ repB K d u = true
def leafV : V → Option Leaf
  | .non => some .none
  | .bl b => some (.num (if b = true then 1 else 0))
  | .int i => some (.num i)
  | .str s => some (.text s)
  | _ => none
theorem leafV_is {v : V} {u : Value} {l : Leaf} (r : RelV v u) (h : leafV v = some l) : l.isOf u = true := by
  cases v with
  | non =>
    cases h
    cases (show u = Value.none from r)
    rfl
  | bl b =>
    cases h
    cases (show u = Value.bool b from r)
    exact decide_eq_true rfl
  | int i =>
    cases h
    obtain ⟨t, rfl⟩ := r
    exact decide_eq_true rfl
  | str s =>
    cases h
    obtain ⟨t, rfl⟩ := r
    show Value.isStrOf s (.str s t) = true
    unfold Value.isStrOf
    simp
  | _ => cases h
def rTab (K : PySem.W.Frag) (w : World) : R2 := fun x y H Q => ∃ p ks ds l d, x = .ref p ∧ leafV y = some l ∧ KTab K w p ks ds ∧ lookL ks ds l = some d ∧ ∀ v, (∀ φ ι H, rep K φ ι H d v) → Q v H
theorem ix_tab {X : Cx} : IxR X (rTab X.K X.w) := by
  intro value slice pins s σ H x y v u Q I rx ry h hs
  obtain ⟨p, ks, ds, l, d, rfl, hl, ⟨es, n, hk, hk2, f⟩, e, q⟩ := h
  obtain rfl : v = Value.ref p := rx
  obtain ⟨u0, e0, b0⟩ := f l d e
  obtain ⟨v0, r0, q0⟩ := repB_ok b0
  have hm : s.heap.MapOf (leafKind X.prog X.w) p (fun k => findBy Leaf.isOf es k) := ⟨_, es, n, I.kIn _ _ hk, ⟨rfl, rfl, rfl⟩, rfl, fun e he => hk2 e he, fun _ => rfl⟩
  exact tail_any hm.typeIs slot_dict_getitem.lookup (wpAny_getItem_of (knd := leafKind X.prog X.w) (k := l) (leafV_is ry hl) hm e0 ⟨v0, H, I.tok _, r0, q v0 q0⟩) hs
theorem leaf_rep {K : PySem.W.Frag} {φ ι : List Addr} {H : Hp} {d : D} {v : V} {l : Leaf} (r : rep K φ ι H d v) (h : keyL d = some l) : leafV v = some l := by
  cases d with
  | non => cases (show v = _ from r); exact h
  | bl b => cases (show v = _ from r); exact h
  | int b => cases (show v = _ from r); exact h
  | str b => cases (show v = _ from r); exact h
  | _ => cases h

/-! ### what the head sees of it -/
def leafK : Value → Option Leaf
  | .none => some .none
  | .bool b => some (.num (if b = true then 1 else 0))
  | .int i _ => some (.num i)
  | .str s _ => some (.text s)
  | _ => none
theorem leafK_is {u : Value} {l : Leaf} (h : leafK u = some l) : l.isOf u = true := by
  cases u with
  | none => cases h; rfl
  | bool b => cases h; exact decide_eq_true rfl
  | int i t => cases h; exact decide_eq_true rfl
  | str s t =>
    cases h
    show Value.isStrOf s (.str s t) = true
    unfold Value.isStrOf
    simp
  | _ => cases h
def entK (e : DictEntry) : Option (Leaf × Int) := (leafK e.key).map fun l => (l, e.hash)
def valsT (K : PySem.W.Frag) (es : Array DictEntry) : List Leaf → List D → Bool
  | k :: ks, d :: ds => (match findBy Leaf.isOf es k with
    | some u => repB K d u
    | none => false) && valsT K es ks ds
  | _, _ => true
theorem valsT_ok {K : PySem.W.Frag} {es : Array DictEntry} : ∀ {ks : List Leaf} {ds : List D}, valsT K es ks ds = true → ∀ l d, lookL ks ds l = some d → ∃ u, findBy Leaf.isOf es l = some u ∧ repB K d u = true
  | [], _, _, l, d, e => by cases e
  | _ :: _, [], _, l, d, e => by cases e
  | k :: ks, x :: ds, h, l, d, e => by
    have h : ((match findBy Leaf.isOf es k with
    | some u => repB K x u
    | none => false) && valsT K es ks ds) = true := h
    rw [Bool.and_eq_true] at h
    have e : (if decide (k = l) = true then some x else lookL ks ds l) = some d := e
    by_cases hk : k = l
    · subst hk
      rw [if_pos (decide_eq_true rfl)] at e
      cases e
      have h1 := h.1
      split at h1
      · rename_i u q
        exact ⟨u, q, h1⟩
      · cases h1
    · rw [if_neg (by simpa using hk)] at e
      exact valsT_ok h.2 l d e
/-- a dict of the module: its name, its keys, what stands under them -/
structure TabD where
  name : Str
  ks : List Leaf
  ds : List D
def tabK (K : PySem.W.Frag) (a : Addr) (t : TabD) : Option (List (Option (Leaf × Int))) := match K.lookup a with
  | some ⟨.type c, none, .dict es _, sl⟩ => (match decide (c = "dict") && (sl.isEmpty && valsT K es t.ks t.ds) with
    | true => some (es.toList.map entK)
    | false => none)
  | _ => none
def keysT (w : World) (ks : List Leaf) : List (Option (Leaf × Int)) := ks.map fun k => some (k, k.key.hash w)
theorem entK_ok {w : World} : ∀ {es : List DictEntry} {ks : List Leaf}, es.map entK = keysT w ks → ∀ e ∈ es, ∃ k : Leaf, k.isOf e.key = true ∧ e.hash = k.key.hash w
  | [], _, _, e, he => by cases he
  | x :: es, [], h, e, he => by cases h
  | x :: es, k :: ks, h, e, he => by
    have h1 : entK x :: es.map entK = some (k, k.key.hash w) :: keysT w ks := h
    injection h1 with h2 h3
    rcases List.mem_cons.mp he with rfl | he
    · unfold entK at h2
      obtain ⟨l, e1, e2⟩ := Option.map_eq_some_iff.mp h2
      obtain ⟨e3, e4⟩ := Prod.mk.inj e2
      subst e3
      exact ⟨l, leafK_is e1, e4⟩
    · exact entK_ok h3 e he
theorem tabK_ok {K : PySem.W.Frag} {w : World} {a : Addr} {t : TabD} (h : tabK K a t = some (keysT w t.ks)) : KTab K w a t.ks t.ds := by
  unfold tabK at h
  split at h
  · rename_i c es n sl q
    split at h
    · rename_i z
      simp only [Bool.and_eq_true, decide_eq_true_eq] at z
      obtain ⟨rfl, z1, z2⟩ := z
      obtain rfl := Array.isEmpty_iff.mp z1
      exact ⟨es, n, q, fun e he => entK_ok (Option.some.inj h) e (Array.mem_toList_iff.mpr he), valsT_ok z2⟩
    · cases h
  · cases h
end Ov
-- OvF
namespace Ov
open PySem PySem.Spec PyProof.Rows L2

/-- a def keeps what its data say -/
def spD (K : PySem.W.Frag) (c : List D → Sto → WK → Prop) : Sp := fun vs H Q _ => ∃ φ ι S ds k, RelS K φ ι H S ∧ reps K φ ι H ds vs ∧ c ds S k ∧ Post K φ ι H k Q
structure FnI (T : List DDef) (n : Nat) (X : Cx) (f : Nat) : Prop where
  ex : ∃ (fa : Addr) (fd : FuncData) (ps : List Str), X.mg (nameD T f) = some (.ref fa) ∧ PySem.W.keepIn X.K (.ref fa) = true ∧ Binds X.K fd ps [] ∧
    FnOk X.prog X.w X.K X.mg X.base CX0 n fa fd ps (spD X.K (callW T n f))
structure XOk (T : List DDef) (n : Nat) (fnc : Option Scope) (X : Cx) : Prop where
  calm : X.calm = true
  nd : X.N.Nodup
  room : Room n X.A
  fn : ∀ x, fnB fnc x = true → X.fn x = true
  fns : ∀ f, callOk T f = true → FnI T n X f
  con : ∀ x i, constIn T x i = true → ∃ t, X.mg x = some (.int i t)
  dat : ∀ x d, datIn T x d = true → ∃ u, X.mg x = some u ∧ repB X.K d u = true
  tab : ∀ x ks ds, tabIn T x ks ds = true → ∃ a, X.mg x = some (.ref a) ∧ KTab X.K X.w a ks ds
  enu : X.mg (Str.ofString "enumerate") = none
  blt : ∀ b : BI, X.mg (Str.ofString (biN b)) = none
  rng : X.mg (Str.ofString "range") = none
  zip : X.mg (Str.ofString "zip") = none

section
variable {K : PySem.W.Frag} {σ : L2.St} {H : Hp} {Q : VK}
theorem tD_op {r : R2} {wa wb : DEnv → Sto → WK → Prop} {g : D → D → Sto → WK → Prop}
    (hyp : ∀ {φ ι H S k Q x y v u}, RelS K φ ι H S → rep K φ ι H x v → rep K φ ι H y u → g x y S k → Post K φ ι H k Q → r v u H Q)
    (h : tD K (fun σ S k => wa σ S fun x S1 => wb σ S1 fun y S2 => g x y S2 k) σ H Q) : tOp r (tD K wa) (tD K wb) σ H Q := by
  obtain ⟨φ, ι, σd, S, k, R, RE, h, P⟩ := h
  refine ⟨φ, ι, σd, S, _, R, RE, h, fun x S1 ι1 H1 v hx E1 R1 rx => ⟨φ, ι1, σd, S1, _, R1, RE.mono E1, hx, fun y S2 ι2 H2 u hy E2 R2 ry => ?_⟩⟩
  exact hyp R2 (rep_mono E2 _ _ rx) ry hy (P.step (E1.trans E2))
theorem tD_un {r : V → Hp → VK → Prop} {wa : DEnv → Sto → WK → Prop} {g : D → Sto → WK → Prop}
    (hyp : ∀ {φ ι H S k Q x v}, RelS K φ ι H S → rep K φ ι H x v → g x S k → Post K φ ι H k Q → r v H Q)
    (h : tD K (fun σ S k => wa σ S fun x S1 => g x S1 k) σ H Q) : tUn r (tD K wa) σ H Q := by
  obtain ⟨φ, ι, σd, S, k, R, RE, h, P⟩ := h
  exact ⟨φ, ι, σd, S, _, R, RE, h, fun x S1 ι1 H1 v hx E1 R1 rx => hyp R1 rx hx (P.step E1)⟩
theorem tD_args {r : List V → Hp → VK → Prop} {wa : DEnv → Sto → (List D → Sto → Prop) → Prop} {g : List D → Sto → WK → Prop}
    (hyp : ∀ {φ ι H S k Q xs vs}, RelS K φ ι H S → reps K φ ι H xs vs → g xs S k → Post K φ ι H k Q → r vs H Q)
    (h : tD K (fun σ S k => wa σ S fun x S1 => g x S1 k) σ H Q) : tDs K wa σ H fun vs H1 => r vs H1 Q := by
  obtain ⟨φ, ι, σd, S, k, R, RE, h, P⟩ := h
  exact ⟨φ, ι, σd, S, _, R, RE, h, fun x S1 ι1 H1 v hx E1 R1 rx => hyp R1 rx hx (P.step E1)⟩
theorem tD_const {d : D} {v : V} (e : ∀ {φ ι H}, rep K φ ι H d v) (h : tD K (fun _ S k => k d S) σ H Q) : tC v σ H Q := by
  obtain ⟨φ, ι, σd, S, k, R, RE, h, P⟩ := h
  exact P.here R h e
end

/-! ### names -/
theorem vis_of {sc : Scope} {x : Str} (h : visB sc x = true) : Vis sc x := by
  unfold visB at h
  split at h
  · exact .inl (by assumption)
  · exact .inr (.inl (by assumption))
  · exact .inr (.inr (by assumption))
  · cases h
theorem gl_of {X : Cx} {x : Str} (h : isG X.env.scope x = true) : Gl X x ∧ (x == ("__debug__" : Str)) = false := by
  unfold isG at h
  simp only [Bool.and_eq_true, decide_eq_true_eq, Bool.not_eq_true'] at h
  exact ⟨h.1, h.2⟩
theorem loc_of {X : Cx} {fnc : Option Scope} {x : Str} (hf : ∀ x, fnB fnc x = true → X.fn x = true) (h : locB fnc X.env.scope x = true) : L2.Loc X.env.scope x ∧ (X.fn x = true ∨ X.env.scope.names.lookup x = some .local) := by
  unfold locB at h
  split at h
  · exact ⟨.inl (by assumption), .inr (by assumption)⟩
  · exact ⟨.inr (by assumption), .inl (hf _ h)⟩
  · cases h

/-! ### targets -/
def slotsIn (vs : List Nat) (i : Nat) : Prop := i ∈ vs
theorem wipe_out {x : Option V} {i : Nat} : ∀ {vs : List Nat} {σ : L2.St}, i ∉ vs → wipe (σ.set i x) vs = (wipe σ vs).set i x
  | [], _, _ => rfl
  | v :: vs, σ, h => by
    simp only [List.mem_cons, not_or] at h
    show (wipe (σ.set i x) vs).set v none = ((wipe σ vs).set v none).set i x
    rw [wipe_out h.2, List.set_comm _ _ h.1]
theorem wipe_in {x : Option V} {i : Nat} : ∀ {vs : List Nat} {σ : L2.St}, i ∈ vs → wipe (σ.set i x) vs = wipe σ vs
  | v :: vs, σ, h => by
    show (wipe (σ.set i x) vs).set v none = (wipe σ vs).set v none
    by_cases hi : i ∈ vs
    · rw [wipe_in hi]
    · have e : i = v := by
        rcases List.mem_cons.mp h with e | e
        · exact e
        · exact absurd e hi
      subst e
      rw [wipe_out hi, List.set_set]
theorem assign_len {env : PySem.Env} {N : List Str} {fnc : Option Scope} {sc : Scope} {vs : List Nat} : ∀ {ps : List PP} {es : List Expr}, okPs N fnc sc vs ps es = true → (assignEach es env).length = ps.length ∧ (assignEach es env).findIdx? (·.1) = none
  | [], [], _ => ⟨rfl, rfl⟩
  | [], _ :: _, h => by cases h
  | _ :: _, [], h => by cases h
  | p :: ps, e :: es, h => by
    have h : (plainA e && okP N fnc sc vs p e && okPs N fnc sc vs ps es) = true := h
    simp only [Bool.and_eq_true] at h
    obtain ⟨h1, h2⟩ := assign_len (env := env) h.2
    have hc : assignEach (e :: es) env = (false, assign e env) :: assignEach es env := by
      cases e <;> first
        | rfl
        | (have := h.1.1; cases this)
    rw [hc]
    refine ⟨by rw [List.length_cons, List.length_cons, h1], ?_⟩
    rw [List.findIdx?_cons, h2]
    rfl
mutual
theorem soundP {T : List DDef} {n : Nat} {fnc : Option Scope} {X : Cx} (xo : XOk T n fnc X) {vs : List Nat} : ∀ (p : PP) (e : Expr), okP X.N fnc X.env.scope vs p e = true → PG X e (tDG X.K vs (bindW p))
  | .nm i, e, h => by
    cases e with
    | Name x pos =>
      have h : (decide (X.N[i]? = some x) && locB fnc X.env.scope x && vs.contains i) = true := h
      simp only [Bool.and_eq_true, decide_eq_true_eq] at h
      obtain ⟨⟨h1, h2⟩, h3⟩ := h
      obtain ⟨h4, h5⟩ := loc_of xo.fn h2
      refine PG.imp (pg_name xo.nd h1 h4 h5) ?_
      rintro v σ H Q ⟨φ, ι, σd, d, k, RE, r, w, q⟩
      exact q _ _ w (RE.set r) (wipe_in (by simpa using h3))
    | _ => cases h
  | .tp ps, e, h => by
    cases e with
    | Tuple es kk pos =>
      have h : okPs X.N fnc X.env.scope vs ps es = true := h
      obtain ⟨h1, h2⟩ := assign_len (env := X.env) h
      refine PG.imp (pg_tup xo.calm (soundPs xo ps es h) h1 h2) ?_
      rintro v σ H Q ⟨φ, ι, σd, d, k, RE, r, w, q⟩
      cases d with
      | tup ds =>
        obtain ⟨w1, w2⟩ := (show ds.length = ps.length ∧ bindWs ps ds σd k from w)
        obtain ⟨a, xs, rfl, f, r⟩ := r
        exact ⟨a, xs, rfl, f.sq, by rw [reps_len r]; exact w1, φ, ι, σd, ds, k, RE, r, w2, q⟩
      | _ => exact (show False from w).elim
    | _ => cases h
theorem soundPs {T : List DDef} {n : Nat} {fnc : Option Scope} {X : Cx} (xo : XOk T n fnc X) {vs : List Nat} : ∀ (ps : List PP) (es : List Expr), okPs X.N fnc X.env.scope vs ps es = true → PGs X es (tDGs X.K vs (bindWs ps))
  | [], es, h => by
    cases es with
    | nil =>
      refine PGs.imp pgs_nil ?_
      rintro us σ H Q ⟨φ, ι, σd, ds, k, RE, r, w, q⟩
      cases ds with
      | nil =>
        obtain rfl : us = [] := r
        exact ⟨rfl, q _ _ w RE rfl⟩
      | cons _ _ => exact (show False from w).elim
    | cons _ _ => cases h
  | p :: ps, es, h => by
    cases es with
    | nil => cases h
    | cons e es =>
      have h : (plainA e && okP X.N fnc X.env.scope vs p e && okPs X.N fnc X.env.scope vs ps es) = true := h
      simp only [Bool.and_eq_true] at h
      have hs : (assignEach (e :: es) X.env).map (·.2) = assign e X.env :: (assignEach es X.env).map (·.2) := by
        cases e <;> first
          | rfl
          | (have := h.1.1; cases this)
      refine PGs.imp (pgs_cons (soundP xo p e h.1.2) (soundPs xo ps es h.2) hs) ?_
      rintro us σ H Q ⟨φ, ι, σd, ds, k, RE, r, w, q⟩
      cases ds with
      | nil => exact (show False from w).elim
      | cons d ds =>
        have w : bindW p d σd fun σ1 => bindWs ps ds σ1 k := w
        obtain ⟨v, us, rfl, r1, r2⟩ := r
        refine ⟨v, us, rfl, φ, ι, σd, d, _, RE, r1, w, fun σd1 σ1 w1 RE1 e1 => ?_⟩
        exact ⟨φ, ι, σd1, ds, k, RE1, r2, w1, fun σd2 σ2 w2 RE2 e2 => q _ _ w2 RE2 (e2.trans e1)⟩
end

/-! ### going over -/
section
variable {K : PySem.W.Frag} {φ ι ι' : List Addr} {H H' : Hp} {S : Sto} {J : It} {xs : List D} {src : Option Nat}
theorem JIs.mono (h : JIs K φ J ι H xs src) (E : Ext ι H ι' H') : JIs K φ J ι' H' xs src := by
  rcases h with ⟨a, vs, rfl, f, r, e⟩ | ⟨a, vs, rfl, f, r, e⟩ | h | h | ⟨m, a, rfl, h, e⟩ | ⟨a, vs, ys, rfl, f, r, e⟩ | ⟨a, vs, ys, rfl, f, r, e⟩ | ⟨h, I, g, q⟩
  · exact .inl ⟨a, vs, rfl, f.mono E, reps_mono E _ _ r, e⟩
  · exact .inr (.inl ⟨a, vs, rfl, f.mono E, reps_mono E _ _ r, e⟩)
  · exact .inr (.inr (.inl h))
  · exact .inr (.inr (.inr (.inl h)))
  · exact .inr (.inr (.inr (.inr (.inl ⟨m, a, rfl, E.at h, e⟩))))
  · exact .inr (.inr (.inr (.inr (.inr (.inl ⟨a, vs, ys, rfl, f.mono E, reps_mono E _ _ r, e⟩)))))
  · exact .inr (.inr (.inr (.inr (.inr (.inr (.inl ⟨a, vs, ys, rfl, f.mono E, reps_mono E _ _ r, e⟩))))))
  · exact .inr (.inr (.inr (.inr (.inr (.inr (.inr ⟨h, I, g, g.mono q E⟩))))))
theorem FixL.priv_upd {D0 a : Addr} {o : HO} {vs : List V} (f : FixL K φ ι H a vs) (hD : D0 ∈ φ) : FixL K φ ι (upd H D0 o) a vs := by
  rcases f with ⟨f, n1, n2⟩ | f
  · exact .inl ⟨Rd.priv f fun z => n2 (z ▸ hD), n1, n2⟩
  · exact .inr f
theorem FixT.priv_upd {D0 a : Addr} {o : HO} {vs : List V} (f : FixT K φ ι H a vs) (hD : D0 ∈ φ) : FixT K φ ι (upd H D0 o) a vs := by
  rcases f with ⟨f, n1, n2⟩ | f
  · exact .inl ⟨Rd.priv f fun z => n2 (z ▸ hD), n1, n2⟩
  · exact .inr f
theorem FixL.hide {D0 a : Addr} {o : HO} {vs : List V} (f : FixL K φ ι H a vs) (hD : H D0 = none) : FixL K (D0 :: φ) ι (upd H D0 o) a vs := by
  rcases f with ⟨f, n1, n2⟩ | f
  · obtain ⟨p, ep⟩ := Rd.some f
    have na := ne_of_none ep hD
    exact .inl ⟨Rd.priv f na, n1, by simp [na, n2]⟩
  · exact .inr f
theorem FixT.hide {D0 a : Addr} {o : HO} {vs : List V} (f : FixT K φ ι H a vs) (hD : H D0 = none) : FixT K (D0 :: φ) ι (upd H D0 o) a vs := by
  rcases f with ⟨f, n1, n2⟩ | f
  · obtain ⟨p, ep⟩ := Rd.some f
    have na := ne_of_none ep hD
    exact .inl ⟨Rd.priv f na, n1, by simp [na, n2]⟩
  · exact .inr f
theorem JIs.priv_upd {D0 : Addr} {o : HO} (h : JIs K φ J ι H xs src) (hD : D0 ∈ φ) : JIs K φ J ι (upd H D0 o) xs src := by
  rcases h with ⟨a, vs, rfl, f, r, e⟩ | ⟨a, vs, rfl, f, r, e⟩ | h | h | ⟨m, a, rfl, h, e⟩ | ⟨a, vs, ys, rfl, f, r, e⟩ | ⟨a, vs, ys, rfl, f, r, e⟩ | ⟨h, I, g, q⟩
  · exact .inl ⟨a, vs, rfl, f.priv_upd hD, reps_priv hD _ _ r, e⟩
  · exact .inr (.inl ⟨a, vs, rfl, f.priv_upd hD, reps_priv hD _ _ r, e⟩)
  · exact .inr (.inr (.inl h))
  · exact .inr (.inr (.inr (.inl h)))
  · exact .inr (.inr (.inr (.inr (.inl ⟨m, a, rfl, h, e⟩))))
  · exact .inr (.inr (.inr (.inr (.inr (.inl ⟨a, vs, ys, rfl, f.priv_upd hD, reps_priv hD _ _ r, e⟩)))))
  · exact .inr (.inr (.inr (.inr (.inr (.inr (.inl ⟨a, vs, ys, rfl, f.priv_upd hD, reps_priv hD _ _ r, e⟩))))))
  · exact .inr (.inr (.inr (.inr (.inr (.inr (.inr ⟨h, I, g, g.priv q hD⟩))))))
theorem JIs.hide {D0 : Addr} {o : HO} (h : JIs K φ J ι H xs src) (hD : H D0 = none) : JIs K (D0 :: φ) J ι (upd H D0 o) xs src := by
  rcases h with ⟨a, vs, rfl, f, r, e⟩ | ⟨a, vs, rfl, f, r, e⟩ | h | h | ⟨m, a, rfl, h, e⟩ | ⟨a, vs, ys, rfl, f, r, e⟩ | ⟨a, vs, ys, rfl, f, r, e⟩ | ⟨h, I, g, q⟩
  · exact .inl ⟨a, vs, rfl, f.hide hD, reps_hide hD _ _ r, e⟩
  · exact .inr (.inl ⟨a, vs, rfl, f.hide hD, reps_hide hD _ _ r, e⟩)
  · exact .inr (.inr (.inl h))
  · exact .inr (.inr (.inr (.inl h)))
  · exact .inr (.inr (.inr (.inr (.inl ⟨m, a, rfl, h, e⟩))))
  · exact .inr (.inr (.inr (.inr (.inr (.inl ⟨a, vs, ys, rfl, f.hide hD, reps_hide hD _ _ r, e⟩)))))
  · exact .inr (.inr (.inr (.inr (.inr (.inr (.inl ⟨a, vs, ys, rfl, f.hide hD, reps_hide hD _ _ r, e⟩))))))
  · exact .inr (.inr (.inr (.inr (.inr (.inr (.inr ⟨h, I, g, g.hide q hD⟩))))))
theorem rangeD_len (lo : Int) (n : Nat) : (rangeD lo n).length = n := by simp [rangeD]
theorem rangeD_get {lo : Int} {n i : Nat} {d : D} (h : (rangeD lo n)[i]? = some d) : i < n ∧ d = .int (lo + i) := by
  have hi : i < n := by
    have := (List.getElem?_eq_some_iff.mp h).1
    rw [rangeD_len] at this
    exact this
  refine ⟨hi, ?_⟩
  unfold rangeD at h
  rw [List.getElem?_map, List.getElem?_range hi] at h
  exact (Option.some.inj h).symm
theorem downD_len (lo : Int) (n : Nat) : (downD lo n).length = n := by simp [downD]
theorem downD_get {lo : Int} {n i : Nat} {d : D} (h : (downD lo n)[i]? = some d) : i < n ∧ d = .int (lo - i) := by
  have hi : i < n := by
    have := (List.getElem?_eq_some_iff.mp h).1
    rw [downD_len] at this
    exact this
  refine ⟨hi, ?_⟩
  unfold downD at h
  rw [List.getElem?_map, List.getElem?_range hi] at h
  exact (Option.some.inj h).symm
theorem enumD_len (xs : List D) : (enumD xs).length = xs.length := by simp [enumD]
theorem enumD_get {xs : List D} {i : Nat} {d : D} (h : (enumD xs)[i]? = some d) : ∃ x, xs[i]? = some x ∧ d = .tup [.int (i : Nat), x] := by
  unfold enumD at h
  rw [List.getElem?_map, List.getElem?_zipIdx] at h
  cases e : xs[i]? with
  | none =>
    rw [e] at h
    cases h
  | some x =>
    rw [e] at h
    refine ⟨x, rfl, ?_⟩
    have h := Option.some.inj h
    rw [← h]
    show D.tup [.int ((0 + i : Nat) : Int), x] = _
    rw [Nat.zero_add]
theorem JIs.stop (h : JIs K φ J ι H xs src) (R : RelS K φ ι H S) (st : still src xs S) {i : Nat} (hi : xs.length ≤ i) (hj : i ≤ xs.length) : J.stop i H := by
  rcases h with ⟨a, vs, rfl, f, r, e⟩ | ⟨a, vs, rfl, f, r, e⟩ | ⟨lo, n, rfl, rfl, e⟩ | ⟨lo, n, rfl, rfl, e⟩ | ⟨m, a, rfl, h, rfl⟩ | ⟨a, vs, ys, rfl, f, r, rfl, e⟩ | ⟨a, vs, ys, rfl, f, r, rfl, e⟩ | ⟨h, I, g, q⟩
  · exact ⟨vs, f.sq, by rw [reps_len r]; exact hi⟩
  · exact ⟨vs, f.sq, by rw [reps_len r]; exact hi⟩
  · rw [rangeD_len] at hi
    exact hi
  · rw [downD_len] at hi
    exact hi
  · obtain ⟨b, vs, h1, h2, h3⟩ := R.cell m xs st
    rw [h] at h1
    cases h1
    exact ⟨vs, SqL.of h2, by rw [reps_len h3]; exact hi⟩
  · rw [enumD_len] at hi
    exact ⟨vs, f.sq, by rw [reps_len r]; exact hi⟩
  · rw [enumD_len] at hi
    exact ⟨vs, f.sq, by rw [reps_len r]; exact hi⟩
  · exact g.stop q hi hj
/-- the heap as it stood, or with one object more -/
def Step (H H' : Hp) : Prop := H' = H ∨ ∃ T o, H T = none ∧ H' = upd H T o
theorem Step.ext {ι : List Addr} {H H' : Hp} (h : Step H H') : Ext ι H ι H' := by
  rcases h with rfl | ⟨T, o, h, rfl⟩
  · exact .refl
  · exact .new h
theorem Step.rel {ι : List Addr} {H H' : Hp} {S : Sto} (h : Step H H') (R : RelS K φ ι H S) : RelS K φ ι H' S := by
  rcases h with rfl | ⟨T, o, h, rfl⟩
  · exact R
  · exact R.new h
theorem Step.at {H H' : Hp} (h : Step H H') {a : Addr} {o : HO} (e : H a = some o) : H' a = some o := by
  rcases h with rfl | ⟨T, o', h, rfl⟩
  · exact e
  · rw [upd_ne (ne_of_none e h)]
    exact e
theorem JIs.go (h : JIs K φ J ι H xs src) (R : RelS K φ ι H S) (st : still src xs S) {i : Nat} {x : D} (hi : xs[i]? = some x) : J.go i H ∧ ∀ v H', J.yld i H v H' → Step H H' ∧ rep K φ ι H' x v := by
  rcases h with ⟨a, vs, rfl, f, r, e⟩ | ⟨a, vs, rfl, f, r, e⟩ | ⟨lo, n, rfl, rfl, e⟩ | ⟨lo, n, rfl, rfl, e⟩ | ⟨m, a, rfl, h, rfl⟩ | ⟨a, vs, ys, rfl, f, r, rfl, e⟩ | ⟨a, vs, ys, rfl, f, r, rfl, e⟩ | ⟨h, I, g, q⟩
  · obtain ⟨w, h1, h2⟩ := reps_get r hi
    refine ⟨⟨vs, w, f.sq, h1⟩, fun v H' ⟨e1, e2⟩ => ⟨.inl e1, ?_⟩⟩
    have e3 := e2 vs f.sq
    rw [h1] at e3
    cases e3
    rw [e1]
    exact h2
  · obtain ⟨w, h1, h2⟩ := reps_get r hi
    refine ⟨⟨vs, w, f.sq, h1⟩, fun v H' ⟨e1, e2⟩ => ⟨.inl e1, ?_⟩⟩
    have e3 := e2 vs f.sq
    rw [h1] at e3
    cases e3
    rw [e1]
    exact h2
  · obtain ⟨h1, rfl⟩ := rangeD_get hi
    exact ⟨h1, fun v H' ⟨e1, e2⟩ => ⟨.inl e1, e2⟩⟩
  · obtain ⟨h1, rfl⟩ := downD_get hi
    refine ⟨h1, fun v H' ⟨e1, e2⟩ => ⟨.inl e1, ?_⟩⟩
    rw [e2, show lo + (i : Int) * (-1) = lo - i by omega]
    rfl
  · obtain ⟨b, vs, h1, h2, h3⟩ := R.cell m xs st
    rw [h] at h1
    cases h1
    obtain ⟨w, h4, h5⟩ := reps_get h3 hi
    refine ⟨⟨vs, w, SqL.of h2, h4⟩, fun v H' ⟨e1, e2⟩ => ⟨.inl e1, ?_⟩⟩
    have e3 := e2 vs (SqL.of h2)
    rw [h4] at e3
    cases e3
    rw [e1]
    exact h5
  · obtain ⟨y, hy, rfl⟩ := enumD_get hi
    obtain ⟨w, h1, h2⟩ := reps_get r hy
    refine ⟨⟨vs, w, f.sq, h1⟩, ?_⟩
    rintro v H' ⟨T, x, rfl, hT, rfl, e2⟩
    have e3 := e2 vs f.sq
    rw [h1] at e3
    cases e3
    have E : Ext ι H ι (upd H T (.tup [.int (i : Nat), w])) := .new hT
    exact ⟨.inr ⟨T, _, hT, rfl⟩, T, [.int (i : Nat), w], rfl, .inl ⟨.inl upd_same, R.notMem hT, R.priv hT⟩, .int (i : Nat), [w], rfl, rfl, w, [], rfl, rep_mono E _ _ h2, rfl⟩
  · obtain ⟨y, hy, rfl⟩ := enumD_get hi
    obtain ⟨w, h1, h2⟩ := reps_get r hy
    refine ⟨⟨vs, w, f.sq, h1⟩, ?_⟩
    rintro v H' ⟨T, x, rfl, hT, rfl, e2⟩
    have e3 := e2 vs f.sq
    rw [h1] at e3
    cases e3
    have E : Ext ι H ι (upd H T (.tup [.int (i : Nat), w])) := .new hT
    exact ⟨.inr ⟨T, _, hT, rfl⟩, T, [.int (i : Nat), w], rfl, .inl ⟨.inl upd_same, R.notMem hT, R.priv hT⟩, .int (i : Nat), [w], rfl, rfl, w, [], rfl, rep_mono E _ _ h2, rfl⟩
  · exact g.go q R hi
end
end Ov
-- OvZi
/-! zip of two things, each a list, a tuple or a text. -/
namespace Ov
open PySem PySem.Spec PyProof.Rows L2
inductive ZS where
  | lst (a : Addr) | tup (a : Addr) | txt (x : Str)
def signsV (z : Str) : List V := z.cps.toList.map fun c => V.str ⟨#[c]⟩
namespace ZS
def at_ (K : PySem.W.Frag) (H : Hp) : ZS → List V → Prop
  | lst a, xs => SqL K H a xs
  | tup a, xs => SqT K H a xs
  | txt z, xs => xs = signsV z
def val : ZS → V
  | lst a => .ref a
  | tup a => .ref a
  | txt z => .str z
def own : ZS → List Addr
  | lst a => [a]
  | tup a => [a]
  | txt _ => []
def st (t : Tok) (it : Addr) : ZS → Nat → Heap → Prop
  | lst a, i, h => h.IsListIter it a i
  | tup a, i, h => h.IsTupleIter it a i
  | txt z, i, h => h.IsStrIter it (strIterType z) z t i
end ZS
theorem ZS.obj {t : Tok} {it : Addr} {S : ZS} {i : Nat} {h : Heap} (st : S.st t it i h) : ∃ o, h.get? it = some o ∧ ∀ v, o.data ≠ .cell v := by
  cases S with
  | lst a =>
    obtain ⟨o, e, _, d⟩ := st
    exact ⟨o, e, fun v q => by rw [d] at q; cases q⟩
  | tup a =>
    obtain ⟨o, e, _, d⟩ := st
    exact ⟨o, e, fun v q => by rw [d] at q; cases q⟩
  | txt a =>
    obtain ⟨o, e, _, d⟩ := st
    exact ⟨o, e, fun v q => by rw [d] at q; cases q⟩
theorem ZS.keep {t : Tok} {it : Addr} {S : ZS} {i : Nat} {h h' : Heap} (st : S.st t it i h) (k : ∀ o, h.get? it = some o → h'.get? it = some o) : S.st t it i h' := by
  cases S with
  | lst a => exact Heap.IsListIter.at st k
  | tup a => exact Heap.IsTupleIter.at st k
  | txt a =>
    obtain ⟨o, ho, r⟩ := st
    exact ⟨o, k o ho, r⟩
theorem signsV_get {z : Str} {i c : Nat} (h : z.cps[i]? = some c) : (signsV z)[i]? = some (.str ⟨#[c]⟩) := by
  unfold signsV
  rw [List.getElem?_map, Array.getElem?_toList, h]
  rfl
theorem signsV_len (z : Str) : (signsV z).length = z.cps.size := by simp [signsV]
structure ZD (X : Cx) (s : Shared) (S : ZS) (t : Tok) (it : Addr) (xs : List V) (P : Nat → Value → Prop) (St : Nat → Heap → Prop) : Prop where
  d : Draws X.prog X.w X.A.in1 it (it :: S.own) xs.length P St
  inn : ∀ i, S.st t it i s.heap → St i s.heap
  out : ∀ i h', St i h' → S.st t it i h'
  val : ∀ i u, P i u → ∃ x, xs[i]? = some x ∧ RelV x u
theorem ZS.draws {X : Cx} {pins : List (Addr × Obj)} {σ : L2.St} {H : Hp} {s : Shared} (I : Inv X pins σ H s) (hc : X.calm = true) {S : ZS} {t : Tok} {it : Addr} {xs : List V} (h : S.at_ X.K H xs) (ap : it ∉ S.own) : ∃ P St, ZD X s S t it xs P St := by
  cases S with
  | lst a =>
    obtain ⟨its, rv, p, _⟩ := I.list h
    have hl := rv.length
    have D := Draws.list (prog := X.prog) (w := X.w) (A := X.A.in1) (I.ok.hd hc) it a (fun e => ap (by rw [e]; exact List.mem_singleton.mpr rfl)) its.toArray
    have e : its.toArray.size = xs.length := by simp [hl]
    rw [e] at D
    refine ⟨_, _, D, fun i st => ⟨st, p.isList⟩, fun i h' st => st.1, fun i u hu => ?_⟩
    have hu : its.toArray[i]? = some u := hu
    rw [List.getElem?_toArray] at hu
    have hil := (List.getElem?_eq_some_iff.mp hu).1
    have hx : xs[i]? = some xs[i] := List.getElem?_eq_getElem (by omega)
    obtain ⟨u', hu', ru⟩ := rv.get hx
    rw [hu] at hu'
    cases hu'
    exact ⟨_, hx, ru⟩
  | tup a =>
    obtain ⟨its, rv, p, _⟩ := I.tuple h
    have hl := rv.length
    have D := Draws.tuple (prog := X.prog) (w := X.w) (A := X.A.in1) (I.ok.hd hc) it a (fun e => ap (by rw [e]; exact List.mem_singleton.mpr rfl)) its.toArray
    have e : its.toArray.size = xs.length := by simp [hl]
    rw [e] at D
    refine ⟨_, _, D, fun i st => ⟨st, (show s.heap.IsTuple a its.toArray from p)⟩, fun i h' st => st.1, fun i u hu => ?_⟩
    have hu : its.toArray[i]? = some u := hu
    rw [List.getElem?_toArray] at hu
    have hil := (List.getElem?_eq_some_iff.mp hu).1
    have hx : xs[i]? = some xs[i] := List.getElem?_eq_getElem (by omega)
    obtain ⟨u', hu', ru⟩ := rv.get hx
    rw [hu] at hu'
    cases hu'
    exact ⟨_, hx, ru⟩
  | txt z =>
    obtain rfl : xs = _ := h
    have D := Draws.text (prog := X.prog) (w := X.w) (A := X.A.in1) (I.ok.hd hc) it z t
    rw [← signsV_len z] at D
    refine ⟨_, _, D, fun i st => st, fun i h' st => st, fun i u hu => ?_⟩
    obtain ⟨c, k, h1, rfl⟩ := hu
    exact ⟨_, signsV_get h1, k, rfl⟩
/-- the items in new pairs -/
def ItzG (K : PySem.W.Frag) (S1 S2 : ZS) : It :=
  ⟨fun i H => ∃ (xs ys : List V) (x y : V), S1.at_ K H xs ∧ S2.at_ K H ys ∧ xs[i]? = some x ∧ ys[i]? = some y,
    fun i H v H' => ∃ T x y, v = .ref T ∧ H T = none ∧ H' = upd H T (.tup [x, y]) ∧ (∀ xs, S1.at_ K H xs → xs[i]? = some x) ∧ ∀ ys, S2.at_ K H ys → ys[i]? = some y,
    fun i H => ∃ xs ys : List V, S1.at_ K H xs ∧ S2.at_ K H ys ∧ i = min xs.length ys.length⟩
theorem ZS.inj {X : Cx} {pins : List (Addr × Obj)} {σ : L2.St} {H : Hp} {s : Shared} (I : Inv X pins σ H s) {S : ZS} {xs ys : List V} (h : S.at_ X.K H xs) (h' : S.at_ X.K H ys) : xs = ys := by
  cases S with
  | lst a => exact I.list_inj h h'
  | tup a => exact I.tuple_inj h h'
  | txt z => exact (show xs = _ from h).trans (show ys = _ from h').symm
theorem turn_zipG {P : Program} {w : World} {K : PySem.W.Frag} {elts : List Expr} {kk : Nat} {tpos : Pos} {S1 S2 : ZS} {t1 t2 : Tok} {N : Nat} (l1 : ∀ b ∈ S1.own, b < N) (l2 : ∀ b ∈ S2.own, b < N) :
    Turn P w K (.Tuple elts kk tpos) (ItzG K S1 S2) [N + 4, N + 2, N + 3, N, N + 1] (N + 4 : Nat)
      (fun i h => IsZip h (N + 4 : Nat) (N + 2 : Nat) (N + 3 : Nat) .none ∧ IsTupOf2 h (N + 2 : Nat) (.ref N) (.ref (N + 1 : Nat)) ∧ (∃ x y, IsTupOf2 h (N + 3 : Nat) x y) ∧ S1.st t1 N i h ∧ S2.st t2 (N + 1 : Nat) i h) where
  mem := by simp
  obj := fun i h st c hc => by
    obtain ⟨hz, hTI, ⟨x, y, hTO⟩, h1, h2⟩ := st
    have e' : c = N + 4 ∨ c = N + 2 ∨ c = N + 3 ∨ c = N ∨ c = N + 1 := by simpa using hc
    rcases e' with q | q | q | q | q
    · rw [q]; exact ⟨_, hz, fun v q => nomatch q⟩
    · rw [q]; exact ⟨_, hTI, fun v q => nomatch q⟩
    · rw [q]; exact ⟨_, hTO, fun v q => nomatch q⟩
    · rw [q]; exact ZS.obj h1
    · rw [q]; exact ZS.obj h2
  keep := fun i h h' st k => by
    obtain ⟨hz, hTI, ⟨x, y, hTO⟩, h1, h2⟩ := st
    exact ⟨k (N + 4 : Nat) (by simp) _ hz, k (N + 2 : Nat) (by simp) _ hTI, ⟨x, y, k (N + 3 : Nat) (by simp) _ hTO⟩, ZS.keep h1 fun o q => k N (by simp) o q, ZS.keep h2 fun o q => k (N + 1 : Nat) (by simp) o q⟩
  item := by
    intro X hP hw hK hc i pins s σ H E I hf st hg
    subst hP hw hK
    obtain ⟨hz, hTI, ⟨x0, y0, hTO⟩, h1, h2⟩ := st
    obtain ⟨xs, ys, x, y, hqx, hqy, hx, hy⟩ := hg
    have D := zip_sep2 l1 l2
    obtain ⟨P1, St1, Z1⟩ := ZS.draws (t := t1) (it := N) I hc hqx (fun m => by have := l1 _ m; exact Nat.lt_irrefl _ this)
    obtain ⟨P2, St2, Z2⟩ := ZS.draws (t := t2) (it := (N + 1 : Nat)) I hc hqy (fun m => by have := l2 _ m; exact absurd (show (N + 1 : Nat) < N from this) (by omega))
    have hzl : (N + 4 : Nat) < s.heap.objs.size := Heap.lt_size hz
    have hi1 := (List.getElem?_eq_some_iff.mp hx).1
    have hi2 := (List.getElem?_eq_some_iff.mp hy).1
    refine wpAny_pyNext_zipD2_item D Z1.d Z2.d hz hTI hTO (Z1.inn i h1) (Z2.inn i h2) hi1 hi2 fun u1 u2 h' tk p1 p2 z' TO' st1' st2' hT hsz hk => ?_
    obtain ⟨x', hx', ru⟩ := Z1.val i u1 p1
    obtain ⟨y', hy', ru2⟩ := Z2.val i u2 p2
    rw [hx] at hx'
    rw [hy] at hy'
    cases hx'
    cases hy'
    refine ⟨_, rfl, wpAny_letOwnedTupleGo_zip (s := { s with heap := h', toks := tk }) z' fun h'' z'' sb => ?_⟩
    have hT2 : h''.get? s.heap.objs.size = some { cls := .type "tuple", data := .seq #[u1, u2] } := (sb.2 _ (Nat.ne_of_gt hzl)).trans hT
    have new : ObjOk X.prog X.w (upd H s.heap.objs.size (.tup [x, y])) h'' s.heap.objs.size (.tup [x, y]) :=
      ⟨by show 2 ≤ sizeLine; decide, [u1, u2], .cons ru (.cons ru2 .nil), ⟨_, hT2, rfl, _, rfl⟩⟩
    have I1 : Inv X pins σ (upd H s.heap.objs.size (.tup [x, y])) { s with heap := h'', toks := tk } :=
      I.turnedNew (t' := tk) (ch := [N + 4, N + 2, N + 3, N, N + 1]) (fun c o hb q => (sb.2 c (fun q' => hb (by simp [q']))).trans (hk c o (fun q' => hb (by simp [q'])) (fun q' => hb (by simp [q'])) (fun q' => hb (by simp [q'])) (fun q' => hb (by simp [q'])) q)) hf (Nat.le_refl _) new
    refine ⟨.ref s.heap.objs.size, _, I1, rfl, ⟨_, x, y, rfl, I.hok.fresh (Nat.le_refl _), rfl, fun l hl => by rw [ZS.inj I hl hqx]; exact hx, fun l hl => by rw [ZS.inj I hl hqy]; exact hy⟩, ⟨z'', ?_, ⟨u1, u2, ?_⟩, ?_, ?_⟩, fun c hcm => ?_⟩
    · exact (sb.2 _ D.TIz).trans (hk _ _ D.TIz D.TITO D.TIi1 D.TIi2 hTI)
    · exact (sb.2 _ D.TOz).trans TO'
    · exact ZS.keep (Z1.out _ _ st1') fun o q => (sb.2 _ (Ne.symm D.zi1)).trans q
    · exact ZS.keep (Z2.out _ _ st2') fun o q => (sb.2 _ (Ne.symm D.zi2)).trans q
    · have hlt : c < s.heap.objs.size := by
        have e' : c = N + 4 ∨ c = N + 2 ∨ c = N + 3 ∨ c = N ∨ c = N + 1 := by simpa using hcm
        have hzl' : N + 4 < s.heap.objs.size := hzl
        have lt : ∀ {j : Nat}, j ≤ N + 4 → j < s.heap.objs.size := fun h => Nat.lt_of_le_of_lt h hzl'
        rcases e' with q | q | q | q | q
        · rw [q]; exact hzl
        · rw [q]; exact lt (by omega)
        · rw [q]; exact lt (by omega)
        · rw [q]; exact lt (by omega)
        · rw [q]; exact lt (by omega)
      rw [upd_ne (Nat.ne_of_lt hlt)]
      exact (hf c hcm).1
  done := by
    intro X hP hw hK hc i pins s σ H E I hf st hg
    subst hP hw hK
    obtain ⟨hz, hTI, ⟨x0, y0, hTO⟩, h1, h2⟩ := st
    obtain ⟨xs, ys, hqx, hqy, hend⟩ := hg
    have D := zip_sep2 l1 l2
    obtain ⟨P1, St1, Z1⟩ := ZS.draws (t := t1) (it := N) I hc hqx (fun m => by have := l1 _ m; exact Nat.lt_irrefl _ this)
    obtain ⟨P2, St2, Z2⟩ := ZS.draws (t := t2) (it := (N + 1 : Nat)) I hc hqy (fun m => by have := l2 _ m; exact absurd (show (N + 1 : Nat) < N from this) (by omega))
    exact wpAny_pyNext_zipD2_end D Z1.d Z2.d hz hTI hTO (Z1.inn i h1) (Z2.inn i h2) (by omega) (by omega) (by omega) fun h' tk hk => ⟨rfl, I.turnedL (t' := tk) (ch := [N + 4, N + 2, N + 3, N, N + 1]) (fun c o hb q =>
      hk c o (fun q' => hb (by simp [q'])) (fun q' => hb (by simp [q'])) (fun q' => hb (by simp [q'])) (fun q' => hb (by simp [q'])) q) hf⟩
  self := fun A i s Q E st h => wpAny_pyIter_zip st.1 h
theorem ZS.begins {X : Cx} {pins : List (Addr × Obj)} {σ : L2.St} {H : Hp} {s : Shared} (I : Inv X pins σ H s) {S : ZS} {xs : List V} {u : Value} (h : S.at_ X.K H xs) (r : RelV S.val u) :
    (∀ b ∈ S.own, b < s.heap.objs.size) ∧ ∃ (t : Tok) (o : Obj) (Hh : Heap → Prop), Begins u o Hh ∧ Hh s.heap ∧ ∀ it h', h'.get? it = some o → S.st t it 0 h' := by
  cases S with
  | lst a =>
    cases r
    obtain ⟨its, rv, p, _⟩ := I.list h
    refine ⟨fun b hb => by rw [List.mem_singleton.mp hb]; exact p.lt, 0, _, _, begins_list a its.toArray, p.isList, fun it h' e => ⟨_, e, rfl, rfl⟩⟩
  | tup a =>
    cases r
    obtain ⟨its, rv, p, _⟩ := I.tuple h
    obtain ⟨o1, ho1, _⟩ := id p
    refine ⟨fun b hb => by rw [List.mem_singleton.mp hb]; exact Heap.lt_size ho1, 0, _, _, begins_tuple a its.toArray, (show s.heap.IsTuple a its.toArray from p), fun it h' e => ⟨_, e, rfl, rfl⟩⟩
  | txt z =>
    obtain ⟨t, rfl⟩ := r
    exact ⟨(fun b hb => by cases hb), t, _, _, begins_text z t, trivial, fun it h' e => ⟨_, e, rfl, rfl⟩⟩
def iZipG (K : PySem.W.Frag) (ta : TA) : TI := fun σ H R => ta σ H fun vs H1 => ∃ S1 S2 xs ys, vs = [S1.val, S2.val] ∧ S1.at_ K H1 xs ∧ S2.at_ K H1 ys ∧ R (ItzG K S1 S2) H1
theorem pi_zipG {X : Cx} {e e2 : Expr} {ta : TA} {p pos tpos : Pos} {elts : List Expr} {kk : Nat} (hg : Gl X "zip") (hm : X.mg "zip" = none) (ha : PA X [e, e2] ta)
    (hs : starEach [e, e2] X.env = (false, eval e X.env) :: starEach [e2] X.env := by rfl) (hpl : (backTo pos (starEach [e2] X.env)).any (·.1) = false := by rfl) :
    PI X (.Tuple elts kk tpos) (.Call (.Name "zip" p) [e, e2] [] pos) (iZipG X.K ta) := by
  refine ⟨fun pins s σ H R I h => ?_⟩
  refine Call_ (ld_blt I hg hm PyProof.Rows.boot_zip (PyProof.Rows.callWith_type1 (thn (ha.run pos pins s σ H _ I h) fun us s1 ⟨vs, H1, I1, r1, q1⟩ => ?_) hs hpl))
  obtain ⟨S1, S2, xs, ys, ex, hx, hy, q⟩ := q1
  subst ex
  cases r1 with
  | cons r rr =>
    cases rr with
    | cons r' rr =>
      cases rr
      obtain ⟨b1, t1, o1, H1', B1, g1, k1⟩ := ZS.begins I1 hx r
      obtain ⟨b2, t2, o2, H2', B2, g2, k2⟩ := ZS.begins I1 hy r'
      refine zip_begins2 B1 B2 g1 g2 fun h' hz hTI hTO h1 h2 hsz hk => wpAny_pyIter_zip hz ?_
      have fresh5 : ∀ c, c ∈ [s1.heap.objs.size + 4, s1.heap.objs.size + 2, s1.heap.objs.size + 3, s1.heap.objs.size, s1.heap.objs.size + 1] → FpOk X pins H1 c := fun c hcm => by
        have e' : c = s1.heap.objs.size + 4 ∨ c = s1.heap.objs.size + 2 ∨ c = s1.heap.objs.size + 3 ∨ c = s1.heap.objs.size ∨ c = s1.heap.objs.size + 1 := by simpa using hcm
        have hle : s1.heap.objs.size ≤ c := by
          rcases e' with z | z | z | z | z
          · rw [z]; exact Nat.le_add_right _ _
          · rw [z]; exact Nat.le_add_right _ _
          · rw [z]; exact Nat.le_add_right _ _
          · rw [z]; exact Nat.le_refl _
          · rw [z]; exact Nat.le_add_right _ _
        exact I1.fpOk hle (I1.hok.fresh hle)
      have I2 : Inv X pins σ H1 { s1 with heap := h' } := I1.kept (t' := s1.toks) hk
      exact ⟨s1.heap.objs.size + 4, [s1.heap.objs.size + 4, s1.heap.objs.size + 2, s1.heap.objs.size + 3, s1.heap.objs.size, s1.heap.objs.size + 1], _, _, H1, rfl, I2, turn_zipG (t1 := t1) (t2 := t2) b1 b2, ⟨hz, hTI, ⟨_, _, hTO⟩, k1 _ _ h1, k2 _ _ h2⟩, fresh5, q⟩
end Ov
-- OvG
namespace Ov
open PySem PySem.Spec PyProof.Rows L2

/-- over a list or a tuple, whichever has come -/
def iSeq (K : PySem.W.Frag) (tl : TE) : TI := fun σ H R => tl σ H fun x H1 => (∃ z, x = .str z ∧ R (Its z) H1) ∨ ∃ a, x = .ref a ∧ (((∃ xs, SqL K H1 a xs) ∧ R (Itl K a) H1) ∨ ((∃ xs, SqT K H1 a xs) ∧ R (Itt K a) H1) ∨ (∃ lo hi, H1 a = some (.rng lo hi) ∧ rgOk lo hi ∧ R (Itr lo (hi - lo).toNat) H1))
/-- a walk that has just been made over something that stands -/
theorem born {X : Cx} {tg : Expr} {pins : List (Addr × Obj)} {σ : L2.St} {H : Hp} {s : Shared} {R : It → Hp → Prop} {J : It} {w : Nat → Heap → Prop} (o : Obj) (I : Inv X pins σ H s)
    (T : Turn X.prog X.w X.K tg J [s.heap.objs.size] s.heap.objs.size w) (w0 : w 0 (s.heap.push o)) (r : R J H) : PIE X pins σ tg R (.ref s.heap.objs.size) { s with heap := s.heap.push o } := by
  have new := I.fpOk (Nat.le_refl s.heap.objs.size) (I.hok.fresh (Nat.le_refl s.heap.objs.size))
  have stays : Inv X pins σ H { s with heap := s.heap.push o } := I.kept (t' := s.toks) fun _ _ h => Heap.get?_push_of_some o h
  exact ⟨_, _, _, _, _, rfl, stays, T, w0, fun b hb => (List.mem_singleton.mp hb) ▸ new, r⟩
theorem pi_seq {X : Cx} {tg l : Expr} {tl : TE} (hl : PE X l tl) : PI X tg l (iSeq X.K tl) where
  run pins s σ H R I h := thn (hl.run pins s σ H _ I h) fun v s1 z => by
    obtain ⟨x, H1, I1, r1, ⟨x, rfl, q⟩ | ⟨a, rfl, c⟩⟩ := z
    · obtain ⟨t, rfl⟩ := r1
      cases ha : x.cps.all (· < 128)
      · exact wpAny_pyIter_wide ha (born _ I1 (turn_str _ x t "str_iterator" (.inr rfl)) ⟨_, Heap.get?_push_size _ rfl, rfl, rfl⟩ q)
      · exact wpAny_pyIter_ascii ha (born _ I1 (turn_str _ x t "str_ascii_iterator" (.inl rfl)) ⟨_, Heap.get?_push_size _ rfl, rfl, rfl⟩ q)
    cases r1
    cases c with
    | inl c =>
      obtain ⟨⟨xs, hq⟩, r⟩ := c
      have p := (I1.list hq).choose_spec.2.1
      exact wpAny_pyIter_list p.isList (born _ I1 (turn_list a _) ⟨_, Heap.get?_push_size _ rfl, rfl, rfl⟩ r)
    | inr c =>
      cases c with
      | inr c =>
        obtain ⟨lo, hi, e, ⟨⟨q1, q2⟩, q3, q4⟩, r⟩ := c
        obtain ⟨t, u, v, ho⟩ := I1.hok _ _ e
        refine wpAny_pyIter_range ho (small_one q1 q2 q3 q4) (born _ I1 (turn_range _ lo (hi - lo).toNat) ?_ r)
        have e1 : lo + ((0 : Nat) : Int) * 1 = lo := by simp
        have e2 : (((hi - lo).toNat : Nat) : Int) - ((0 : Nat) : Int) = Builtin.Range.rangeSize lo hi 1 := by rw [rangeSize_one]; split <;> omega
        show IsRangeIter _ _ (lo + ((0 : Nat) : Int) * 1) ((((hi - lo).toNat : Nat) : Int) - ((0 : Nat) : Int)) 1
        rw [e1, e2]
        exact Heap.get?_push_size _ rfl
      | inl c =>
      obtain ⟨⟨xs, hq⟩, r⟩ := c
      have p := (I1.tuple hq).choose_spec.2.1
      exact wpAny_pyIter_tuple (show Heap.IsTuple _ a _ from p) (born _ I1 (turn_tuple a _) ⟨_, Heap.get?_push_size _ rfl, rfl, rfl⟩ r)

section
variable {K : PySem.W.Frag} {σ : L2.St} {H : Hp} {R : It → Hp → Prop} {C : Calls}
theorem its_gen (z : Str) : JGen K (Its z) (charsD z) fun _ _ _ => True where
  mono := fun _ _ => trivial
  priv := fun _ _ => trivial
  hide := fun _ _ => trivial
  stop := fun {φ ι H i} _ h _ => by
    have e : (charsD z).length = z.cps.size := by simp [charsD]
    rw [e] at h
    exact h
  go := fun {φ ι H S i x} _ _ h => by
    have hl : i < z.cps.size := by
      have := (List.getElem?_eq_some_iff.mp h).1
      simpa [charsD] using this
    refine ⟨hl, fun v H' ⟨e1, c, e2, e3⟩ => ⟨.inl e1, ?_⟩⟩
    unfold charsD at h
    rw [List.getElem?_map, Array.getElem?_toList, e2] at h
    cases h
    exact e3
theorem seq_imp {p : PX} (h : tDI K (wI C .sq [p]) σ H R) : iSeq K (tD K (wE C p)) σ H R := by
  obtain ⟨φ, ι, σd, S, k, RS, RE, w, q⟩ := h
  refine ⟨φ, ι, σd, S, fun d S1 => itW .sq [d] S1 fun xs sr => k xs sr S1, RS, RE, w, fun d S1 ι1 H1 v hd E R1 r => ?_⟩
  cases d with
  | tup ds =>
    obtain ⟨a, vs, rfl, f, r⟩ := r
    exact .inr ⟨a, rfl, .inr (.inl ⟨⟨vs, f.sq⟩, q _ _ S1 ι1 H1 _ hd E R1 (.inr (.inl ⟨a, vs, rfl, f, r, rfl⟩))⟩)⟩
  | ro ds =>
    obtain ⟨a, vs, rfl, f, r⟩ := r
    exact .inr ⟨a, rfl, .inl ⟨⟨vs, f.sq⟩, q _ _ S1 ι1 H1 _ hd E R1 (.inl ⟨a, vs, rfl, f, r, rfl⟩)⟩⟩
  | ptr m =>
    have hd : (match S1[m]? with
      | some xs => k xs (some m) S1
      | none => False) := hd
    split at hd
    · rename_i e
      obtain ⟨a, ha, rfl⟩ := r
      obtain ⟨b, vs, h1, h2, h3⟩ := R1.cell _ _ e
      rw [ha] at h1
      cases h1
      exact .inr ⟨a, rfl, .inl ⟨⟨vs, SqL.of h2⟩, q _ _ S1 ι1 H1 _ hd E R1 (.inr (.inr (.inr (.inr (.inl ⟨m, a, rfl, ha, rfl⟩)))))⟩⟩
    · exact hd.elim
  | non => exact (show False from hd).elim
  | bl => exact (show False from hd).elim
  | int => exact (show False from hd).elim
  | str z =>
    obtain rfl : v = .str z := r
    exact .inl ⟨z, rfl, q _ _ S1 ι1 H1 _ hd E R1 (.inr (.inr (.inr (.inr (.inr (.inr (.inr ⟨rfl, _, its_gen z, trivial⟩)))))))⟩
  | dic => exact (show False from hd).elim
  | frt ds =>
    obtain ⟨a, vs, rfl, f, r⟩ := frt_tup r
    exact .inr ⟨a, rfl, .inr (.inl ⟨⟨vs, f.sq⟩, q _ _ S1 ι1 H1 _ hd E R1 (.inr (.inl ⟨a, vs, rfl, f, r, rfl⟩))⟩)⟩
  | rng lo hi =>
    obtain ⟨a, rfl, ⟨f, _, _⟩, ok⟩ := r
    exact .inr ⟨a, rfl, .inr (.inr ⟨lo, hi, f, ok, q _ _ S1 ι1 H1 _ hd E R1 (.inr (.inr (.inl ⟨lo, _, rfl, rfl, rfl⟩)))⟩)⟩
/-- what a zip goes over, as data -/
def ZR (K : PySem.W.Frag) (S : ZS) (as : List D) (φ ι : List Addr) (H : Hp) : Prop :=
  match S with
  | .lst a => ∃ vs, FixL K φ ι H a vs ∧ reps K φ ι H as vs
  | .tup a => ∃ vs, FixT K φ ι H a vs ∧ reps K φ ι H as vs
  | .txt z => as = charsD z
theorem ZR.mono {S : ZS} {as : List D} {φ ι ι' : List Addr} {H H' : Hp} (h : ZR K S as φ ι H) (E : Ext ι H ι' H') : ZR K S as φ ι' H' := by
  cases S with
  | lst a =>
    obtain ⟨vs, f, r⟩ := h
    exact ⟨vs, f.mono E, reps_mono E _ _ r⟩
  | tup a =>
    obtain ⟨vs, f, r⟩ := h
    exact ⟨vs, f.mono E, reps_mono E _ _ r⟩
  | txt z => exact h
theorem ZR.priv_upd {S : ZS} {as : List D} {φ ι : List Addr} {H : Hp} {D0 : Addr} {o : HO} (h : ZR K S as φ ι H) (hD : D0 ∈ φ) : ZR K S as φ ι (upd H D0 o) := by
  cases S with
  | lst a =>
    obtain ⟨vs, f, r⟩ := h
    exact ⟨vs, f.priv_upd hD, reps_priv hD _ _ r⟩
  | tup a =>
    obtain ⟨vs, f, r⟩ := h
    exact ⟨vs, f.priv_upd hD, reps_priv hD _ _ r⟩
  | txt z => exact h
theorem ZR.hide {S : ZS} {as : List D} {φ ι : List Addr} {H : Hp} {D0 : Addr} {o : HO} (h : ZR K S as φ ι H) (hD : H D0 = none) : ZR K S as (D0 :: φ) ι (upd H D0 o) := by
  cases S with
  | lst a =>
    obtain ⟨vs, f, r⟩ := h
    exact ⟨vs, f.hide hD, reps_hide hD _ _ r⟩
  | tup a =>
    obtain ⟨vs, f, r⟩ := h
    exact ⟨vs, f.hide hD, reps_hide hD _ _ r⟩
  | txt z => exact h
theorem ZR.at_ {S : ZS} {as : List D} {φ ι : List Addr} {H : Hp} (h : ZR K S as φ ι H) : ∃ vs, S.at_ K H vs ∧ reps K φ ι H as vs := by
  cases S with
  | lst a =>
    obtain ⟨vs, f, r⟩ := h
    exact ⟨vs, f.sq, r⟩
  | tup a =>
    obtain ⟨vs, f, r⟩ := h
    exact ⟨vs, f.sq, r⟩
  | txt z =>
    obtain rfl : as = _ := h
    exact ⟨signV z, rfl, reps_signs z⟩
theorem itz_gen (S1 S2 : ZS) (as bs : List D) : JGen K (ItzG K S1 S2) (List.zipWith pairD as bs) fun φ ι H => ZR K S1 as φ ι H ∧ ZR K S2 bs φ ι H where
  mono := fun h E => ⟨h.1.mono E, h.2.mono E⟩
  priv := fun h hD => ⟨h.1.priv_upd hD, h.2.priv_upd hD⟩
  hide := fun h hD => ⟨h.1.hide hD, h.2.hide hD⟩
  stop := fun {φ ι H i} h h1 h2 => by
    obtain ⟨xs, a1, r1⟩ := h.1.at_
    obtain ⟨ys, a2, r2⟩ := h.2.at_
    rw [List.length_zipWith] at h1 h2
    exact ⟨xs, ys, a1, a2, by rw [reps_len r1, reps_len r2]; omega⟩
  go := fun {φ ι H S i x} h R hi => by
    obtain ⟨xs, a1, r1⟩ := h.1.at_
    obtain ⟨ys, a2, r2⟩ := h.2.at_
    rw [List.getElem?_zipWith] at hi
    cases e1 : as[i]? with
    | none =>
      rw [e1] at hi
      cases hi
    | some a =>
      cases e2 : bs[i]? with
      | none =>
        rw [e1, e2] at hi
        cases hi
      | some b =>
        rw [e1, e2] at hi
        have hi : some (pairD a b) = some x := hi
        cases hi
        obtain ⟨v, g1, q1⟩ := reps_get r1 e1
        obtain ⟨u, g2, q2⟩ := reps_get r2 e2
        refine ⟨⟨xs, ys, v, u, a1, a2, g1, g2⟩, ?_⟩
        rintro w H' ⟨T, x, y, rfl, hT, rfl, f1, f2⟩
        have f1 := f1 xs a1
        have f2 := f2 ys a2
        rw [g1] at f1
        rw [g2] at f2
        cases f1
        cases f2
        have E : Ext ι H ι (upd H T (.tup [v, u])) := .new hT
        exact ⟨.inr ⟨T, _, hT, rfl⟩, T, [v, u], rfl, .inl ⟨.inl upd_same, R.notMem hT, R.priv hT⟩, v, [u], rfl, rep_mono E _ _ q1, u, [], rfl, rep_mono E _ _ q2, rfl⟩
theorem zsrc_of {φ ι : List Addr} {d : D} {v : V} {xs : List D} (h : rep K φ ι H d v) (e : zsrc d = some xs) : ∃ S : ZS, v = S.val ∧ ZR K S xs φ ι H := by
  cases d with
  | tup ds =>
    obtain ⟨a, vs, rfl, f, r⟩ := h
    cases e
    exact ⟨.tup a, rfl, vs, f, r⟩
  | ro ds =>
    obtain ⟨a, vs, rfl, f, r⟩ := h
    cases e
    exact ⟨.lst a, rfl, vs, f, r⟩
  | str z =>
    obtain rfl : v = _ := h
    cases e
    exact ⟨.txt z, rfl, rfl⟩
  | _ => cases e
theorem zip_imp {src : List PX} (hC : MonoC C) (hl : src.length = 2) (h : tDI K (wI C .zp src) σ H R) : iZipG K (tDs K (wEs C src)) σ H R := by
  obtain ⟨φ, ι, σd, S, k, RS, RE, w, q⟩ := h
  refine ⟨φ, ι, σd, S, _, RS, RE, wEs_len hC _ _ _ _ w, fun ds S1 ι1 H1 vs hd E R1 r => ?_⟩
  obtain ⟨h1, hd⟩ := hd
  rw [hl] at h1
  match ds, h1, hd, r with
  | [d, d2], _, hd, r =>
    obtain ⟨v, u, rfl, r1, r2⟩ := reps2 r
    have hd : (match zsrc d with
      | some xs => match zsrc d2 with
        | some ys => k (List.zipWith pairD xs ys) none S1
        | none => False
      | none => False) := hd
    split at hd
    · rename_i xs e1
      split at hd
      · rename_i ys e2
        obtain ⟨Z1, rfl, z1⟩ := zsrc_of r1 e1
        obtain ⟨Z2, rfl, z2⟩ := zsrc_of r2 e2
        obtain ⟨vs1, a1, _⟩ := z1.at_
        obtain ⟨vs2, a2, _⟩ := z2.at_
        exact ⟨Z1, Z2, vs1, vs2, rfl, a1, a2, q _ _ S1 ι1 H1 _ hd E R1 (.inr (.inr (.inr (.inr (.inr (.inr (.inr ⟨rfl, _, itz_gen Z1 Z2 xs ys, z1, z2⟩)))))))⟩
      · exact hd.elim
    · exact hd.elim
theorem en_imp {src : List PX} (hC : MonoC C) (hl : src.length = 1) (h : tDI K (wI C .en src) σ H R) : iEnumA K (tDs K (wEs C src)) σ H R := by
  obtain ⟨φ, ι, σd, S, k, RS, RE, w, q⟩ := h
  refine ⟨φ, ι, σd, S, _, RS, RE, wEs_len hC _ _ _ _ w, fun ds S1 ι1 H1 vs hd E R1 r => ?_⟩
  obtain ⟨h1, hd⟩ := hd
  rw [hl] at h1
  match ds, h1, hd, r with
  | [d], _, hd, r =>
    obtain ⟨v, rfl, r1⟩ := reps1 r
    cases d with
    | tup ds =>
      obtain ⟨a, vs, rfl, f, r⟩ := r1
      exact ⟨a, rfl, .inr ⟨vs, f.sq, q _ _ S1 ι1 H1 _ hd E R1 (.inr (.inr (.inr (.inr (.inr (.inr (.inl ⟨a, vs, ds, rfl, f, r, rfl, rfl⟩)))))))⟩⟩
    | ro ds =>
      obtain ⟨a, vs, rfl, f, r⟩ := r1
      exact ⟨a, rfl, .inl ⟨vs, f.sq, q _ _ S1 ι1 H1 _ hd E R1 (.inr (.inr (.inr (.inr (.inr (.inl ⟨a, vs, ds, rfl, f, r, rfl, rfl⟩))))))⟩⟩
    | _ => exact (show False from hd).elim
theorem rng1_imp {src : List PX} (hC : MonoC C) (hl : src.length = 1) (h : tDI K (wI C .rg src) σ H R) : iRng1 (tDs K (wEs C src)) σ H R := by
  obtain ⟨φ, ι, σd, S, k, RS, RE, w, q⟩ := h
  refine ⟨φ, ι, σd, S, _, RS, RE, wEs_len hC _ _ _ _ w, fun ds S1 ι1 H1 vs hd E R1 r => ?_⟩
  obtain ⟨h1, hd⟩ := hd
  rw [hl] at h1
  match ds, h1, hd, r with
  | [d], _, hd, r =>
    cases d with
    | int n =>
      obtain ⟨v, rfl, r1⟩ := reps1 r
      obtain rfl : v = .int n := r1
      obtain ⟨h1, h2⟩ := (show big62 n ∧ k (rangeD 0 n.toNat) none S1 from hd)
      exact ⟨n, rfl, h1.1, h1.2, q _ _ S1 ι1 H1 _ h2 E R1 (.inr (.inr (.inl ⟨0, n.toNat, rfl, rfl, rfl⟩)))⟩
    | _ => exact (show False from hd).elim
theorem rng2_imp {src : List PX} (hC : MonoC C) (hl : src.length = 2) (h : tDI K (wI C .rg src) σ H R) : iRng2 (tDs K (wEs C src)) σ H R := by
  obtain ⟨φ, ι, σd, S, k, RS, RE, w, q⟩ := h
  refine ⟨φ, ι, σd, S, _, RS, RE, wEs_len hC _ _ _ _ w, fun ds S1 ι1 H1 vs hd E R1 r => ?_⟩
  obtain ⟨h1, hd⟩ := hd
  rw [hl] at h1
  match ds, h1, hd, r with
  | [d, d2], _, hd, r =>
    obtain ⟨v, u, rfl, r1, r2⟩ := reps2 r
    cases d with
    | int n =>
      cases d2 with
      | int m =>
        obtain rfl : v = .int n := r1
        obtain rfl : u = .int m := r2
        obtain ⟨⟨h1, h1'⟩, h2⟩ := (show (big62 n ∧ big62 m) ∧ k (rangeD n (m - n).toNat) none S1 from hd)
        exact ⟨n, m, rfl, ⟨h1.1, h1.2, h1'.1, h1'.2⟩, q _ _ S1 ι1 H1 _ h2 E R1 (.inr (.inr (.inl ⟨n, _, rfl, rfl, rfl⟩)))⟩
      | _ => exact (show False from hd).elim
    | _ => exact (show False from hd).elim

theorem rng3_imp {src : List PX} (hC : MonoC C) (hl : src.length = 3) (h : tDI K (wI C .rg src) σ H R) : iRng3 (tDs K (wEs C src)) σ H R := by
  obtain ⟨φ, ι, σd, S, k, RS, RE, w, q⟩ := h
  refine ⟨φ, ι, σd, S, _, RS, RE, wEs_len hC _ _ _ _ w, fun ds S1 ι1 H1 vs hd E R1 r => ?_⟩
  obtain ⟨h1, hd⟩ := hd
  rw [hl] at h1
  match ds, h1, hd, r with
  | [d, d2, d3], _, hd, r =>
    obtain ⟨v, rr, rfl, r1, r2a⟩ := r
    obtain ⟨u, t, rfl, r2, r3⟩ := reps2 r2a
    cases d with
    | int n =>
      cases d2 with
      | int m =>
        cases d3 with
        | int c =>
          obtain rfl : v = .int n := r1
          obtain rfl : u = .int m := r2
          obtain rfl : t = .int c := r3
          obtain ⟨rfl, ⟨h1, h1'⟩, h2⟩ := (show c = -1 ∧ (big62 n ∧ big62 m) ∧ k (downD n (n - m).toNat) none S1 from hd)
          exact ⟨n, m, -1, (n - m).toNat, rfl, RgC.neg h1.1 h1.2 h1'.1 h1'.2, q _ _ S1 ι1 H1 _ h2 E R1 (.inr (.inr (.inr (.inl ⟨n, _, rfl, rfl, rfl⟩))))⟩
        | _ => exact (show False from hd).elim
      | _ => exact (show False from hd).elim
    | _ => exact (show False from hd).elim
theorem wipe_get (σ : L2.St) : ∀ (vs : List Nat) (i : Nat), (wipe σ vs)[i]? = if i ∈ vs then (σ[i]?).map (fun _ => none) else σ[i]?
  | [], i => by simp [wipe]
  | v :: vs, i => by
    show ((wipe σ vs).set v none)[i]? = _
    rw [List.getElem?_set]
    by_cases h : v = i
    · subst h
      simp only [List.mem_cons, true_or, if_true, wipe_length]
      by_cases hl : v < σ.length
      · simp [hl]
      · simp [hl]
    · have h2 : ¬ i = v := fun e => h e.symm
      rw [if_neg h, wipe_get σ vs i]
      simp [h2]
theorem wipe_idem (σ : L2.St) (vs : List Nat) : wipe (wipe σ vs) vs = wipe σ vs := by
  apply List.ext_getElem?
  intro i
  rw [wipe_get, wipe_get]
  by_cases h : i ∈ vs
  · rw [if_pos h, if_pos h]
    cases σ[i]? <;> rfl
  · rw [if_neg h, if_neg h]
theorem compW_still {body : D → Sto → (Bool → D → Sto → Prop) → Prop} {src : Option Nat} {all : List D} {xs : List D} {S : Sto} {k : List D → Sto → Prop} (h : compW body src all xs S k) : still src all S := by
  cases xs with
  | nil => exact h.1
  | cons x xs => exact h.1
theorem drop_cons {α : Type} {l : List α} {i : Nat} {x : α} {r : List α} (h : l.drop i = x :: r) : l[i]? = some x ∧ l.drop (i + 1) = r ∧ i < l.length := by
  have hl : i < l.length := by
    by_cases hi : i < l.length
    · exact hi
    · rw [List.drop_eq_nil_of_le (by omega)] at h
      cases h
  rw [List.drop_eq_getElem_cons hl] at h
  injection h with h1 h2
  exact ⟨by rw [List.getElem?_eq_getElem hl, h1], h2, hl⟩
theorem comp_imp {mu : Bool} {elt : PX} {p : PP} {own : List (Str × Nat)} {rng : IK} {src : List PX} {cond : Option PX} {Q : VK}
    (h : tD K (wE C (.comp mu elt p own rng src cond)) σ H Q) :
    tLc (tDI K (wI C rng src)) (tDG K (own.map (·.2)) (bindW p)) (tDT K (wC C cond)) (tD K (wE C elt)) (own.map (·.2)) σ H Q := by
  obtain ⟨φ, ι, σd, S, k, RS, RE, w, q⟩ := h
  refine ⟨φ, ι, σd, S, fun xs sr S1 => xs.length < sizeLine ∧ compW (fun x S2 kk => bindW p x (wipeD σd (own.map (·.2))) fun σ1 => wC C cond σ1 S2 fun b S3 => (b = true → wE C elt σ1 S3 fun d S4 => kk true d S4) ∧ (b = false → kk false .non S3)) sr xs xs S1
        fun out S2 => if mu = true then k (.ptr S2.length) (S2 ++ [out]) else k (.ro out) S2, RS, RE, w, ?_⟩
  intro xs sr S1 ι1 H1 J ⟨hlen, hc⟩ E1 R1 hJ D0 hD
  generalize hbody : (fun (x : D) (S2 : Sto) (kk : Bool → D → Sto → Prop) => bindW p x (wipeD σd (own.map (·.2))) fun σ1 => wC C cond σ1 S2 fun b S3 => (b = true → wE C elt σ1 S3 fun d S4 => kk true d S4) ∧ (b = false → kk false .non S3)) = body at hc
  generalize hfin : (fun (out : List D) (S2 : Sto) => if mu = true then k (.ptr S2.length) (S2 ++ [out]) else k (.ro out) S2) = fin at hc
  refine ⟨fun i m H2 => ∃ ι2 S2 out acc kk, m = xs.length - i ∧ i ≤ xs.length ∧ RelS K (D0 :: φ) ι2 H2 S2 ∧ Ext ι1 H1 ι2 H2 ∧ H2 D0 = some (.lst acc) ∧ reps K (D0 :: φ) ι2 H2 out acc ∧ out.length ≤ i ∧
      JIs K (D0 :: φ) J ι2 H2 xs sr ∧ RelE K (D0 :: φ) ι2 H2 σd σ ∧ compW body sr xs (xs.drop i) S2 kk ∧ ∀ o S3, kk o S3 → fin (out ++ o) S3,
    ⟨xs.length, ι1, S1, [], [], fin, by simp, Nat.zero_le _, R1.hide hD, .new hD, upd_same, rfl, Nat.zero_le _, hJ.hide hD, (RE.mono E1).hide hD, hc, fun o S3 z => z⟩, ?_⟩
  rintro i m H2 ⟨ι2, S2, out, acc, kk, rfl, hi, R2, E2, eD, ro, lo, J2, RE2, hw, hk⟩
  have st := compW_still hw
  cases hd : xs.drop i with
  | nil =>
    have hi2 : xs.length ≤ i := by
      have := congrArg List.length hd
      simp at this
      omega
    refine .inl ⟨J2.stop R2 st hi2 hi, ?_⟩
    rw [hd] at hw
    have hf := hk [] S2 hw.2
    rw [List.append_nil] at hf
    rw [← hfin] at hf
    have ro' := reps_pub _ _ ro
    have nD : D0 ∉ ι2 := (R2.pv D0 List.mem_cons_self).1
    have nφ : D0 ∉ φ := R1.priv hD
    by_cases hmu : mu = true
    · simp only [hmu, if_true] at hf
      -- the list becomes one that may change
      have nι : D0 ∉ ι2 := nD
      refine q _ (S2 ++ [out]) (ι2 ++ [D0]) H2 _ hf ⟨?_, fun a o e n => ?_⟩ ?_ ⟨D0, by rw [← R2.len, List.getElem?_append_right (Nat.le_refl _)]; simp, rfl⟩
      · obtain ⟨m1, e1⟩ := E1.more
        obtain ⟨m2, e2⟩ := E2.more
        exact ⟨m1 ++ (m2 ++ [D0]), by rw [e2, e1]; simp⟩
      · obtain ⟨n1, h1⟩ := E1.keep a o e n
        obtain ⟨n2, h2⟩ := E2.keep a o h1 n1
        have na : a ≠ D0 := ne_of_none h1 hD
        exact ⟨by simp [n2, na], h2⟩
      · have Rp := R2.pub
        have Ek : ∀ b u, H2 b = some u → b ∉ ι2 → b ≠ D0 → b ∉ ι2 ++ [D0] ∧ H2 b = some u := fun b u e n nb => ⟨by simp [n, nb], e⟩
        -- what is told of data without D0 holds with D0 among those that may change
        have mono : (∀ (d : D) (v : V), rep K (D0 :: φ) ι2 H2 d v → rep K φ (ι2 ++ [D0]) H2 d v) ∧ (∀ (ds : List D) (vs : List V), reps K (D0 :: φ) ι2 H2 ds vs → reps K φ (ι2 ++ [D0]) H2 ds vs) := by
          have fx : ∀ {a : Addr} {u : HO}, Rd H2 a u → a ∉ ι2 → a ∉ D0 :: φ → Rd H2 a u ∧ a ∉ ι2 ++ [D0] ∧ a ∉ φ := fun h n1 n2 => by
            simp only [List.mem_cons, not_or] at n2
            exact ⟨h, by simp [n1, n2.1], n2.2⟩
          have two : ∀ (n : Nat), (∀ (d : D), sizeOf d < n → ∀ (v : V), rep K (D0 :: φ) ι2 H2 d v → rep K φ (ι2 ++ [D0]) H2 d v) ∧ (∀ (ds : List D), sizeOf ds < n → ∀ (vs : List V), reps K (D0 :: φ) ι2 H2 ds vs → reps K φ (ι2 ++ [D0]) H2 ds vs) := by
            intro n
            induction n with
            | zero => exact ⟨fun d h => absurd h (Nat.not_lt_zero _), fun d h => absurd h (Nat.not_lt_zero _)⟩
            | succ n ih =>
              refine ⟨fun d hn v r => ?_, fun ds hn vs r => ?_⟩
              · cases d with
                | tup ds =>
                  obtain ⟨a, ws, e, f, r⟩ := r
                  refine ⟨a, ws, e, ?_, ih.2 ds (by simp at hn; omega) ws r⟩
                  rcases f with ⟨f, n1, n2⟩ | f
                  · exact .inl (fx f n1 n2)
                  · exact .inr f
                | ro ds =>
                  obtain ⟨a, ws, e, f, r⟩ := r
                  refine ⟨a, ws, e, ?_, ih.2 ds (by simp at hn; omega) ws r⟩
                  rcases f with ⟨f, n1, n2⟩ | f
                  · exact .inl (fx f n1 n2)
                  · exact .inr f
                | ptr m =>
                  obtain ⟨a, ha, e⟩ := r
                  have hm : m < ι2.length := (List.getElem?_eq_some_iff.mp ha).1
                  exact ⟨a, by rw [List.getElem?_append_left hm]; exact ha, e⟩
                | non => exact r
                | bl => exact r
                | int => exact r
                | str => exact r
                | dic ks ds =>
                  obtain ⟨a, ws, e, ⟨f, n1, n2⟩, r⟩ := r
                  exact ⟨a, ws, e, fx f n1 n2, ih.2 ds (by simp at hn; omega) ws r⟩
                | rng lo hi =>
                  obtain ⟨a, e, ⟨f, n1, n2⟩, q⟩ := r
                  simp only [List.mem_cons, not_or] at n2
                  exact ⟨a, e, ⟨f, by simp [n1, n2.1], n2.2⟩, q⟩
                | frt ds =>
                  obtain ⟨a, ws, e, ⟨u, f, hd, n1, n2⟩, r⟩ := r
                  simp only [List.mem_cons, not_or] at n2
                  exact ⟨a, ws, e, ⟨u, f, hd, by simp [n1, n2.1], n2.2⟩, ih.2 ds (by simp at hn; omega) ws r⟩
              · cases ds with
                | nil => exact r
                | cons d ds =>
                  obtain ⟨v, ws, e, r1, r2⟩ := r
                  simp at hn
                  exact ⟨v, ws, e, ih.1 d (by omega) v r1, ih.2 ds (by omega) ws r2⟩
          exact ⟨fun d => (two (sizeOf d + 1)).1 d (Nat.lt_succ_self _), fun ds => (two (sizeOf ds + 1)).2 ds (Nat.lt_succ_self _)⟩
        refine ⟨by simp [R2.len], ?_, fun a ha => ?_, fun n ys e => ?_⟩
        · rw [List.nodup_append]
          refine ⟨R2.nd, by simp, fun a ha b hb => ?_⟩
          rw [List.mem_singleton] at hb
          subst hb
          exact fun z => nι (z ▸ ha)
        · obtain ⟨n1, u, h1⟩ := R2.pv a (List.mem_cons_of_mem _ ha)
          have na : a ≠ D0 := fun z => nφ (z ▸ ha)
          exact ⟨by simp [n1, na], u, h1⟩
        · by_cases hn : n < S2.length
          · rw [List.getElem?_append_left hn] at e
            obtain ⟨a, ws, h1, h2, h3⟩ := R2.cell n ys e
            have hn2 : n < ι2.length := by rw [R2.len]; exact hn
            exact ⟨a, ws, by rw [List.getElem?_append_left hn2]; exact h1, h2, mono.2 _ _ h3⟩
          · have hn2 : n = S2.length := by
              have := (List.getElem?_eq_some_iff.mp e).1
              simp at this
              omega
            subst hn2
            rw [List.getElem?_append_right (Nat.le_refl _)] at e
            simp at e
            subst e
            refine ⟨D0, acc, ?_, eD, mono.2 _ _ ro⟩
            rw [← R2.len, List.getElem?_append_right (Nat.le_refl _)]
            simp
    · simp only [Bool.not_eq_true] at hmu
      simp only [hmu] at hf
      exact q _ S2 ι2 H2 _ hf (E1.trans E2) R2.pub ⟨D0, acc, rfl, .inl ⟨.inl eD, nD, nφ⟩, ro'⟩
  | cons x r =>
    obtain ⟨hx, hr, hlt⟩ := drop_cons hd
    obtain ⟨go, yld⟩ := J2.go R2 st hx
    rw [hd] at hw
    refine .inr ⟨go, fun H' => ∃ ι3 S3 out3 acc3 kk3, i + 1 ≤ xs.length ∧ RelS K (D0 :: φ) ι3 H' S3 ∧ Ext ι1 H1 ι3 H' ∧ H' D0 = some (.lst acc3) ∧ reps K (D0 :: φ) ι3 H' out3 acc3 ∧ out3.length ≤ i + 1 ∧
      JIs K (D0 :: φ) J ι3 H' xs sr ∧ RelE K (D0 :: φ) ι3 H' σd σ ∧ compW body sr xs (xs.drop (i + 1)) S3 kk3 ∧ ∀ o S4, kk3 o S4 → fin (out3 ++ o) S4, ?_, ?_⟩
    · rintro H' ⟨ι3, S3, out3, acc3, kk3, a1, a2, a3, a4, a5, a6, a7, a8, a9, a10⟩
      exact ⟨xs.length - (i + 1), by omega, ι3, S3, out3, acc3, kk3, rfl, a1, a2, a3, a4, a5, a6, a7, a8, a9, a10⟩
    · intro v H' hy
      obtain ⟨sp, rv⟩ := yld v H' hy
      replace eD := sp.at eD
      replace E2 : Ext ι1 H1 ι2 H' := E2.trans sp.ext
      replace R2 := sp.rel R2
      replace ro := reps_mono sp.ext _ _ ro
      replace J2 := J2.mono sp.ext
      replace RE2 := RE2.mono sp.ext
      have hw2 := hw.2
      rw [← hbody] at hw2
      have rr := hr
      refine ⟨D0 :: φ, ι2, wipeD σd (own.map (·.2)), x, _, RE2.wipe _, rv, hw2, fun σd1 σ1 hb RE3 hwipe => ⟨hwipe.trans (wipe_idem σ _), ?_⟩⟩
      refine ⟨D0 :: φ, ι2, σd1, S2, _, R2, RE3, hb, fun b S3 ι3 H3 hb2 E3 R3 => ?_⟩
      have nD3 : D0 ∉ ι3 ∧ H3 D0 = some (.lst acc) := by
        have := E3.keep D0 _ eD (R2.pv D0 List.mem_cons_self).1
        exact this
      cases b with
      | true =>
        have hb3 := hb2.1 rfl
        show tD K (wE C elt) σ1 H3 _
        refine ⟨D0 :: φ, ι3, σd1, S3, _, R3, RE3.mono E3, hb3, fun d S4 ι4 H4 v2 hd4 E4 R4 r4 => ?_⟩
        have e4 := (E4.keep D0 _ nD3.2 nD3.1)
        refine ⟨acc, e4.2, ?_, ?_⟩
        · have := reps_len ro
          omega
        · have E24 := E3.trans E4
          have hmem : D0 ∈ D0 :: φ := List.mem_cons_self
          refine ⟨ι4, S4, out ++ [d], acc ++ [v2], _, hlt, R4.priv_upd hmem, ?_, upd_same, ?_, by simp; omega, (J2.mono E24).priv_upd hmem, (RE2.mono E24).priv_upd hmem, by rw [rr, ← hbody]; exact hd4, fun o S5 z => ?_⟩
          · obtain ⟨m3, e3⟩ := E2.more
            obtain ⟨m5, e5⟩ := E24.more
            refine ⟨⟨m3 ++ m5, by rw [e5, e3]; simp⟩, fun a o e n => ?_⟩
            obtain ⟨n2, h2⟩ := E2.keep a o e n
            obtain ⟨n4, h4⟩ := E24.keep a o h2 n2
            have na : a ≠ D0 := ne_of_none e hD
            exact ⟨n4, by rw [upd_ne na]; exact h4⟩
          · exact reps_append (reps_priv hmem _ _ (reps_mono E24 _ _ ro)) ⟨v2, [], rfl, rep_priv hmem _ _ r4, rfl⟩
          · have z2 := hk _ _ z
            rw [if_pos rfl] at z2
            simpa using z2
      | false =>
        have hb3 := hb2.2 rfl
        show (if false = true then _ else _)
        rw [if_neg Bool.false_ne_true]
        refine ⟨ι3, S3, out, acc, _, hlt, R3, E2.trans E3, nD3.2, reps_mono E3 _ _ ro, by omega, J2.mono E3, RE2.mono E3, by rw [rr, ← hbody]; exact hb3, fun o S5 z => ?_⟩
        have z2 := hk _ _ z
        rw [if_neg Bool.false_ne_true] at z2
        exact z2
theorem accW_still {body : D → Sto → List D → (List D → Sto → Prop) → Prop} {src : Option Nat} {all : List D} {xs : List D} {S : Sto} {out : List D} {k : List D → Sto → Prop} (h : accW body src all xs S out k) : still src all S := by
  cases xs with
  | nil => exact h.1
  | cons x xs => exact h.1
/-- an item put behind the list in the making -/
theorem ext_put {D0 : Addr} {o : HO} {ι1 ι2 ι4 : List Addr} {H1 H2 H4 : Hp} (hD : H1 D0 = none) (E2 : Ext ι1 H1 ι2 H2) (E24 : Ext ι2 H2 ι4 H4) : Ext ι1 H1 ι4 (upd H4 D0 o) := by
  obtain ⟨m3, e3⟩ := E2.more
  obtain ⟨m5, e5⟩ := E24.more
  refine ⟨⟨m3 ++ m5, by rw [e5, e3]; simp⟩, fun a o e n => ?_⟩
  obtain ⟨n2, h2⟩ := E2.keep a o e n
  obtain ⟨n4, h4⟩ := E24.keep a o h2 n2
  have na : a ≠ D0 := ne_of_none e hD
  exact ⟨n4, by rw [upd_ne na]; exact h4⟩
theorem keys_put {y z : D} {key : Key} (e : keyD y = some key) : ∀ out : List D, keysD (out ++ [.tup [y, z]]) = keysD out ++ [key]
  | [] => by
    show (match keyD y with
      | some k => k :: keysD []
      | none => keysD []) = [key]
    rw [e]
    rfl
  | d :: out => by
    have ih := keys_put (z := z) e out
    cases d with
    | tup l =>
      match l with
      | [] => exact ih
      | [_] => exact ih
      | _ :: _ :: _ :: _ => exact ih
      | [y', z'] =>
        show (match keyD y' with
          | some k => k :: keysD (out ++ [.tup [y, z]])
          | none => keysD (out ++ [.tup [y, z]])) = (match keyD y' with
          | some k => k :: keysD out
          | none => keysD out) ++ [key]
        rw [ih]
        cases keyD y' <;> rfl
    | _ => exact ih
theorem vals_put {y z : D} : ∀ out : List D, valsD (out ++ [.tup [y, z]]) = valsD out ++ [z]
  | [] => rfl
  | d :: out => by
    have ih := vals_put (y := y) (z := z) out
    cases d with
    | tup l =>
      match l with
      | [] => exact ih
      | [_] => exact ih
      | _ :: _ :: _ :: _ => exact ih
      | [y', z'] =>
        show z' :: valsD (out ++ [.tup [y, z]]) = (z' :: valsD out) ++ [z]
        rw [ih]
        rfl
    | _ => exact ih
theorem key_rep {y : D} {v : V} {key : Key} {ι : List Addr} {H : Hp} (e : keyD y = some key) (r : rep K φ ι H y v) : v = kV key := by
  cases y with
  | int i => cases e; exact r
  | str s => cases e; exact r
  | _ => cases e
theorem new_key {key : Key} {ks : List Key} {vs : List V} (h : key ∉ ks) : valV (ks.zip vs) key = none := by
  unfold valV
  rw [List.find?_eq_none.mpr fun p hp => by
    have := (List.of_mem_zip hp).1
    rw [decide_eq_true_eq]
    exact fun e => h (e ▸ this)]
  rfl
theorem dcomp_imp {kx vx : PX} {p : PP} {own : List (Str × Nat)} {rng : IK} {src : List PX} {cond : Option PX} {Q : VK}
    (h : tD K (wE C (.dcomp kx vx p own rng src cond)) σ H Q) :
    tDc (tDI K (wI C rng src)) (tDG K (own.map (·.2)) (bindW p)) (tDT K (wC C cond)) (tD K (wE C kx)) (tD K (wE C vx)) (own.map (·.2)) σ H Q := by
  obtain ⟨φ, ι, σd, S, k, RS, RE, w, q⟩ := h
  refine ⟨φ, ι, σd, S, fun xs sr S1 => True ∧ accW (fun x S2 out kk => bindW p x (wipeD σd (own.map fun (x : Str × Nat) => x.2)) fun σ1 => wC C cond σ1 S2 fun b S3 => (b = true → wE C kx σ1 S3 fun y S4 => wE C vx σ1 S4 fun z S5 => putW y z out fun o => kk o S5) ∧ (b = false → kk out S3)) sr xs xs S1 [] fun out S2 => k (.dic (keysD out) (valsD out)) S2, RS, RE, w, ?_⟩
  intro xs sr S1 ι1 H1 J ⟨_, hc⟩ E1 R1 hJ D0 hD
  generalize hfin : (fun (out : List D) (S2 : Sto) => k (.dic (keysD out) (valsD out)) S2) = fin at hc
  generalize hbody : (fun (x : D) (S2 : Sto) (out : List D) (kk : List D → Sto → Prop) => bindW p x (wipeD σd (own.map fun (x : Str × Nat) => x.2)) fun σ1 => wC C cond σ1 S2 fun b S3 => (b = true → wE C kx σ1 S3 fun y S4 => wE C vx σ1 S4 fun z S5 => putW y z out fun o => kk o S5) ∧ (b = false → kk out S3)) = body at hc
  have hmem : D0 ∈ D0 :: φ := List.mem_cons_self
  refine ⟨fun i m H2 => ∃ ι2 S2 out acc, m = xs.length - i ∧ i ≤ xs.length ∧ RelS K (D0 :: φ) ι2 H2 S2 ∧ Ext ι1 H1 ι2 H2 ∧ (H2 D0 = some (.dK ((keysD out).zip acc)) ∧ (keysD out).length = acc.length ∧ acc.length ≤ out.length) ∧ reps K (D0 :: φ) ι2 H2 (valsD out) acc ∧
      JIs K (D0 :: φ) J ι2 H2 xs sr ∧ RelE K (D0 :: φ) ι2 H2 σd σ ∧ accW body sr xs (xs.drop i) S2 out fin,
    ⟨xs.length, ι1, S1, [], [], by simp, Nat.zero_le _, R1.hide hD, .new hD, ⟨upd_same, rfl, Nat.le_refl _⟩, rfl, hJ.hide hD, (RE.mono E1).hide hD, hc⟩, ?_⟩
  rintro i m H2 ⟨ι2, S2, out, acc, rfl, hi, R2, E2, ⟨eD, el, ez⟩, ro, J2, RE2, hw⟩
  have st := accW_still hw
  cases hd : xs.drop i with
  | nil =>
    have hi2 : xs.length ≤ i := by
      have := congrArg List.length hd
      simp at this
      omega
    refine .inl ⟨J2.stop R2 st hi2 hi, ?_⟩
    rw [hd] at hw
    have hf := hw.2
    rw [← hfin] at hf
    have ro' := reps_pub _ _ ro
    have nD : D0 ∉ ι2 := (R2.pv D0 List.mem_cons_self).1
    have nφ : D0 ∉ φ := R1.priv hD
    exact q _ S2 ι2 H2 _ hf (E1.trans E2) R2.pub ⟨D0, acc, rfl, ⟨.inl eD, nD, nφ⟩, ro'⟩
  | cons x r =>
    obtain ⟨hx, hr, hlt⟩ := drop_cons hd
    obtain ⟨go, yld⟩ := J2.go R2 st hx
    rw [hd] at hw
    refine .inr ⟨go, fun H' => ∃ ι3 S3 out3 acc3, RelS K (D0 :: φ) ι3 H' S3 ∧ Ext ι1 H1 ι3 H' ∧ (H' D0 = some (.dK ((keysD out3).zip acc3)) ∧ (keysD out3).length = acc3.length ∧ acc3.length ≤ out3.length) ∧ reps K (D0 :: φ) ι3 H' (valsD out3) acc3 ∧
      JIs K (D0 :: φ) J ι3 H' xs sr ∧ RelE K (D0 :: φ) ι3 H' σd σ ∧ accW body sr xs (xs.drop (i + 1)) S3 out3 fin, ?_, ?_⟩
    · rintro H' ⟨ι3, S3, out3, acc3, a2, a3, a4, a5, a7, a8, a9⟩
      exact ⟨xs.length - (i + 1), by omega, ι3, S3, out3, acc3, rfl, hlt, a2, a3, a4, a5, a7, a8, a9⟩
    · intro v H' hy
      obtain ⟨sp, rv⟩ := yld v H' hy
      replace eD := sp.at eD
      replace E2 : Ext ι1 H1 ι2 H' := E2.trans sp.ext
      replace R2 := sp.rel R2
      replace ro := reps_mono sp.ext _ _ ro
      replace J2 := J2.mono sp.ext
      replace RE2 := RE2.mono sp.ext
      have hw2 := hw.2
      rw [← hbody] at hw2
      refine ⟨D0 :: φ, ι2, wipeD σd (own.map fun (x : Str × Nat) => x.2), x, _, RE2.wipe _, rv, hw2, fun σd1 σ1 hb RE3 hwipe => ⟨hwipe.trans (wipe_idem σ _), ?_⟩⟩
      refine ⟨D0 :: φ, ι2, σd1, S2, _, R2, RE3, hb, fun b S3 ι3 H3 hb2 E3 R3 => ?_⟩
      have nD3 : D0 ∉ ι3 ∧ H3 D0 = some (.dK ((keysD out).zip acc)) := E3.keep D0 _ eD (R2.pv D0 List.mem_cons_self).1
      rw [hbody, ← hr] at hb2
      cases b with
      | false =>
        have hb3 := hb2.2 rfl
        show (if false = true then _ else _)
        rw [if_neg Bool.false_ne_true]
        exact ⟨ι3, S3, out, acc, R3, E2.trans E3, ⟨nD3.2, el, ez⟩, reps_mono E3 _ _ ro, J2.mono E3, RE2.mono E3, hb3⟩
      | true =>
        have hb3 := hb2.1 rfl
        show tD K (wE C kx) σ1 H3 _
        refine ⟨D0 :: φ, ι3, σd1, S3, _, R3, RE3.mono E3, hb3, fun y S4 ι4 H4 vy hy4 E4 R4 r4 => ?_⟩
        have nD4 := E4.keep D0 _ nD3.2 nD3.1
        show tD K (wE C vx) σ1 H4 _
        refine ⟨D0 :: φ, ι4, σd1, S4, _, R4, RE3.mono (E3.trans E4), hy4, fun z S5 ι5 H5 vz hz5 E5 R5 r5 => ?_⟩
        have nD5 := E5.keep D0 _ nD4.2 nD4.1
        have E345 := (E3.trans E4).trans E5
        unfold putW at hz5
        split at hz5
        · rename_i key ek
          obtain ⟨⟨hsz, hnew⟩, hk5⟩ := hz5
          refine ⟨_, key, key_rep ek r4, nD5.2, by rw [List.length_zip]; omega, ?_⟩
          rw [putK_new _ (new_key hnew)]
          have ezip : (keysD out).zip acc ++ [(key, vz)] = (keysD (out ++ [.tup [y, z]])).zip (acc ++ [vz]) := by
            rw [keys_put ek, List.zip_append el]
            rfl
          rw [ezip]
          exact ⟨ι5, S5, out ++ [.tup [y, z]], acc ++ [vz], R5.priv_upd hmem, ext_put hD E2 E345, ⟨upd_same, by rw [keys_put ek, List.length_append, List.length_append, el]; rfl, by rw [List.length_append, List.length_append]; exact Nat.add_le_add_right ez _⟩,
            by rw [vals_put]; exact reps_append (reps_priv hmem _ _ (reps_mono E345 _ _ ro)) ⟨vz, [], rfl, rep_priv hmem _ _ r5, rfl⟩, (J2.mono E345).priv_upd hmem, (RE2.mono E345).priv_upd hmem, hk5⟩
        · exact hz5.elim
def in2B (C : Calls) (elt : PX) (vs1 : List Nat) (p1 : PP) (cond1 : Option PX) (σ1 : DEnv) : D → Sto → List D → (List D → Sto → Prop) → Prop :=
  fun y S5 out1 kk1 => bindW p1 y (wipeD σ1 vs1) fun σ2 => wC C cond1 σ2 S5 fun b1 S6 => (b1 = true → wE C elt σ2 S6 fun d S7 => out1.length < sizeLine ∧ kk1 (out1 ++ [d]) S7) ∧ (b1 = false → kk1 out1 S6)
def out2B (C : Calls) (elt : PX) (p : PP) (cond : Option PX) (vs1 : List Nat) (p1 : PP) (rng1 : IK) (src1 : List PX) (cond1 : Option PX) (σ : DEnv) : D → Sto → List D → (List D → Sto → Prop) → Prop :=
  fun x S2 out kk => bindW p x σ fun σ1 => wC C cond σ1 S2 fun b S3 => (b = true → wEs C src1 σ1 S3 fun ds1 S4 => itW rng1 ds1 S4 fun ys sr1 => True ∧
          accW (in2B C elt vs1 p1 cond1 σ1) sr1 ys ys S4 out kk) ∧ (b = false → kk out S3)
theorem comp2_imp {elt : PX} {p : PP} {own : List (Str × Nat)} {rng : IK} {src : List PX} {cond : Option PX} {vs1 : List Nat} {p1 : PP} {rng1 : IK} {src1 : List PX} {cond1 : Option PX} {Q : VK}
    (h : tD K (wE C (.comp2 elt p own rng src cond vs1 p1 rng1 src1 cond1)) σ H Q) :
    tLc2 (tDI K (wI C rng src)) (tDG K (own.map (·.2)) (bindW p)) (tDT K (wC C cond)) (tDI K (wI C rng1 src1)) (tDG K vs1 (bindW p1)) (tDT K (wC C cond1)) (tD K (wE C elt)) (own.map (·.2)) vs1 σ H Q := by
  obtain ⟨φ, ι, σd, S, k, RS, RE, w, q⟩ := h
  refine ⟨φ, ι, σd, S, fun xs sr S1 => True ∧ accW (out2B C elt p cond vs1 p1 rng1 src1 cond1 (wipeD σd (own.map fun (x : Str × Nat) => x.2))) sr xs xs S1 [] fun out S2 => k (.ro out) S2, RS, RE, w, ?_⟩
  intro xs sr S1 ι1 H1 J ⟨_, hc⟩ E1 R1 hJ D0 hD
  generalize hfin : (fun (out : List D) (S2 : Sto) => k (.ro out) S2) = fin at hc
  generalize hbody : out2B C elt p cond vs1 p1 rng1 src1 cond1 (wipeD σd (own.map fun (x : Str × Nat) => x.2)) = body at hc
  have hmem : D0 ∈ D0 :: φ := List.mem_cons_self
  refine ⟨fun i m H2 => ∃ ι2 S2 out acc, m = xs.length - i ∧ i ≤ xs.length ∧ RelS K (D0 :: φ) ι2 H2 S2 ∧ Ext ι1 H1 ι2 H2 ∧ H2 D0 = some (.lst acc) ∧ reps K (D0 :: φ) ι2 H2 out acc ∧
      JIs K (D0 :: φ) J ι2 H2 xs sr ∧ RelE K (D0 :: φ) ι2 H2 σd σ ∧ accW body sr xs (xs.drop i) S2 out fin,
    ⟨xs.length, ι1, S1, [], [], by simp, Nat.zero_le _, R1.hide hD, .new hD, upd_same, rfl, hJ.hide hD, (RE.mono E1).hide hD, hc⟩, ?_⟩
  rintro i m H2 ⟨ι2, S2, out, acc, rfl, hi, R2, E2, eD, ro, J2, RE2, hw⟩
  have st := accW_still hw
  cases hd : xs.drop i with
  | nil =>
    have hi2 : xs.length ≤ i := by
      have := congrArg List.length hd
      simp at this
      omega
    refine .inl ⟨J2.stop R2 st hi2 hi, ?_⟩
    rw [hd] at hw
    have hf := hw.2
    rw [← hfin] at hf
    have ro' := reps_pub _ _ ro
    have nD : D0 ∉ ι2 := (R2.pv D0 List.mem_cons_self).1
    have nφ : D0 ∉ φ := R1.priv hD
    exact q _ S2 ι2 H2 _ hf (E1.trans E2) R2.pub ⟨D0, acc, rfl, .inl ⟨.inl eD, nD, nφ⟩, ro'⟩
  | cons x r =>
    obtain ⟨hx, hr, hlt⟩ := drop_cons hd
    obtain ⟨go, yld⟩ := J2.go R2 st hx
    rw [hd] at hw
    refine .inr ⟨go, fun H' => ∃ ι3 S3 out3 acc3, RelS K (D0 :: φ) ι3 H' S3 ∧ Ext ι1 H1 ι3 H' ∧ H' D0 = some (.lst acc3) ∧ reps K (D0 :: φ) ι3 H' out3 acc3 ∧
      JIs K (D0 :: φ) J ι3 H' xs sr ∧ RelE K (D0 :: φ) ι3 H' σd σ ∧ accW body sr xs (xs.drop (i + 1)) S3 out3 fin, ?_, ?_⟩
    · rintro H' ⟨ι3, S3, out3, acc3, a2, a3, a4, a5, a7, a8, a9⟩
      exact ⟨xs.length - (i + 1), by omega, ι3, S3, out3, acc3, rfl, hlt, a2, a3, a4, a5, a7, a8, a9⟩
    · intro v H' hy
      obtain ⟨sp, rv⟩ := yld v H' hy
      replace eD := sp.at eD
      replace E2 : Ext ι1 H1 ι2 H' := E2.trans sp.ext
      replace R2 := sp.rel R2
      replace ro := reps_mono sp.ext _ _ ro
      replace J2 := J2.mono sp.ext
      replace RE2 := RE2.mono sp.ext
      have hw2 := hw.2
      rw [← hbody] at hw2
      refine ⟨D0 :: φ, ι2, wipeD σd (own.map fun (x : Str × Nat) => x.2), x, fun σ1 => wC C cond σ1 S2 fun b S3 => (b = true → wEs C src1 σ1 S3 fun ds1 S4 => itW rng1 ds1 S4 fun ys sr1 => True ∧
          accW (in2B C elt vs1 p1 cond1 σ1) sr1 ys ys S4 out fun o S => accW (out2B C elt p cond vs1 p1 rng1 src1 cond1 (wipeD σd (own.map fun (x : Str × Nat) => x.2))) sr xs r S o fin) ∧ (b = false → accW (out2B C elt p cond vs1 p1 rng1 src1 cond1 (wipeD σd (own.map fun (x : Str × Nat) => x.2))) sr xs r S3 out fin), RE2.wipe _, rv, hw2, fun σd1 σ1 hb RE3 hwipe => ⟨hwipe.trans (wipe_idem σ _), ?_⟩⟩
      refine ⟨D0 :: φ, ι2, σd1, S2, _, R2, RE3, hb, fun b S3 ι3 H3 hb2 E3 R3 => ?_⟩
      have nD3 : D0 ∉ ι3 ∧ H3 D0 = some (.lst acc) := E3.keep D0 _ eD (R2.pv D0 List.mem_cons_self).1
      rw [hbody, ← hr] at hb2
      cases b with
      | false =>
        have hb3 := hb2.2 rfl
        show (if false = true then _ else _)
        rw [if_neg Bool.false_ne_true]
        exact ⟨ι3, S3, out, acc, R3, E2.trans E3, nD3.2, reps_mono E3 _ _ ro, J2.mono E3, RE2.mono E3, hb3⟩
      | true =>
        have hb3 := hb2.1 rfl
        show tDI K (wI C rng1 src1) σ1 H3 _
        refine ⟨D0 :: φ, ι3, σd1, S3, _, R3, RE3.mono E3, hb3, fun ys sr1 S4 ι4 H4 J1 hk4 E4 R4 hJ1 => ?_⟩
        obtain ⟨_, hk4⟩ := hk4
        have nD4 := E4.keep D0 _ nD3.2 nD3.1
        have E34 := E3.trans E4
        refine ⟨fun j kk H5 => ∃ ι5 S5 out5 acc5, kk = ys.length - j ∧ j ≤ ys.length ∧ RelS K (D0 :: φ) ι5 H5 S5 ∧ Ext ι1 H1 ι5 H5 ∧ H5 D0 = some (.lst acc5) ∧ reps K (D0 :: φ) ι5 H5 out5 acc5 ∧
            JIs K (D0 :: φ) J ι5 H5 xs sr ∧ RelE K (D0 :: φ) ι5 H5 σd σ ∧ JIs K (D0 :: φ) J1 ι5 H5 ys sr1 ∧ RelE K (D0 :: φ) ι5 H5 σd1 σ1 ∧
            accW (in2B C elt vs1 p1 cond1 σd1) sr1 ys (ys.drop j) S5 out5 (fun o S => accW body sr xs (xs.drop (i + 1)) S o fin),
          ⟨ys.length, ι4, S4, out, acc, by simp, Nat.zero_le _, R4, E2.trans E34, nD4.2, reps_mono E34 _ _ ro, J2.mono E34, RE2.mono E34, hJ1, RE3.mono E34, hk4⟩, ?_⟩
        rintro j kk H5 ⟨ι5, S5, out5, acc5, rfl, hj, R5, E5, eD5, ro5, J5, RE5, K5, RF5, hw5⟩
        have st5 := accW_still hw5
        cases hd5 : ys.drop j with
        | nil =>
          have hj2 : ys.length ≤ j := by
            have := congrArg List.length hd5
            simp at this
            omega
          refine .inl ⟨K5.stop R5 st5 hj2 hj, ?_⟩
          rw [hd5] at hw5
          exact ⟨ι5, S5, out5, acc5, R5, E5, eD5, ro5, J5, RE5, hw5.2⟩
        | cons y r5 =>
          obtain ⟨hx5, hr5, hlt5⟩ := drop_cons hd5
          obtain ⟨go5, yld5⟩ := K5.go R5 st5 hx5
          rw [hd5] at hw5
          refine .inr ⟨go5, fun H6 => ∃ ι6 S6 out6 acc6, RelS K (D0 :: φ) ι6 H6 S6 ∧ Ext ι1 H1 ι6 H6 ∧ H6 D0 = some (.lst acc6) ∧ reps K (D0 :: φ) ι6 H6 out6 acc6 ∧
            JIs K (D0 :: φ) J ι6 H6 xs sr ∧ RelE K (D0 :: φ) ι6 H6 σd σ ∧ JIs K (D0 :: φ) J1 ι6 H6 ys sr1 ∧ RelE K (D0 :: φ) ι6 H6 σd1 σ1 ∧
            accW (in2B C elt vs1 p1 cond1 σd1) sr1 ys (ys.drop (j + 1)) S6 out6 (fun o S => accW body sr xs (xs.drop (i + 1)) S o fin), ?_, ?_⟩
          · rintro H6 ⟨ι6, S6, out6, acc6, a1, a2, a3, a4, a5, a6, a7, a8, a9⟩
            exact ⟨ys.length - (j + 1), by omega, ι6, S6, out6, acc6, rfl, hlt5, a1, a2, a3, a4, a5, a6, a7, a8, a9⟩
          · intro v5 H6 hy5
            obtain ⟨sp, rv⟩ := yld5 v5 H6 hy5
            replace eD5 := sp.at eD5
            replace E5 : Ext ι1 H1 ι5 H6 := E5.trans sp.ext
            replace R5 := sp.rel R5
            replace ro5 := reps_mono sp.ext _ _ ro5
            replace J5 := J5.mono sp.ext
            replace RE5 := RE5.mono sp.ext
            replace K5 := K5.mono sp.ext
            replace RF5 := RF5.mono sp.ext
            refine ⟨D0 :: φ, ι5, wipeD σd1 vs1, y, _, RF5.wipe _, rv, hw5.2, fun σd2 σ2 hb RE7 hwipe => ⟨hwipe.trans (wipe_idem σ1 _), ?_⟩⟩
            refine ⟨D0 :: φ, ι5, σd2, S5, _, R5, RE7, hb, fun b S7 ι7 H7 hb7 E7 R7 => ?_⟩
            have nD7 : D0 ∉ ι7 ∧ H7 D0 = some (.lst acc5) := E7.keep D0 _ eD5 (R5.pv D0 List.mem_cons_self).1
            rw [← hr5] at hb7
            cases b with
            | true =>
              have hb8 := hb7.1 rfl
              show tD K (wE C elt) σ2 H7 _
              refine ⟨D0 :: φ, ι7, σd2, S7, _, R7, RE7.mono E7, hb8, fun d S8 ι8 H8 v8 hd8 E8 R8 r8 => ?_⟩
              have e8 := E8.keep D0 _ nD7.2 nD7.1
              have E78 := E7.trans E8
              refine ⟨acc5, e8.2, ?_, ?_⟩
              · have := reps_len ro5
                have := hd8.1
                omega
              · exact ⟨ι8, S8, out5 ++ [d], acc5 ++ [v8], R8.priv_upd hmem, ext_put hD E5 E78, upd_same, reps_append (reps_priv hmem _ _ (reps_mono E78 _ _ ro5)) ⟨v8, [], rfl, rep_priv hmem _ _ r8, rfl⟩,
                  (J5.mono E78).priv_upd hmem, (RE5.mono E78).priv_upd hmem, (K5.mono E78).priv_upd hmem, (RF5.mono E78).priv_upd hmem, hd8.2⟩
            | false =>
              have hb8 := hb7.2 rfl
              show (if false = true then _ else _)
              rw [if_neg Bool.false_ne_true]
              exact ⟨ι7, S7, out5, acc5, R7, E5.trans E7, nD7.2, reps_mono E7 _ _ ro5, J5.mono E7, RE5.mono E7, K5.mono E7, RF5.mono E7, hb8⟩
end
end Ov
-- OvH
namespace Ov
open PySem PySem.Spec PyProof.Rows L2

section
variable {X : Cx} {e : Expr} {env : PySem.Env}
theorem reps_ints {K : PySem.W.Frag} {φ ι : List Addr} {H : Hp} : ∀ l : List Nat, reps K φ ι H (l.map fun (i : Nat) => D.int (0 + i)) (l.map fun (i : Nat) => V.int (0 + i))
  | [] => rfl
  | i :: l => ⟨_, _, rfl, rfl, reps_ints l⟩
theorem reps_rg {K : PySem.W.Frag} {φ ι : List Addr} {H : Hp} (m : Int) : reps K φ ι H (rangeD 0 m.toNat) (rgV 0 m) := by
  have h := reps_ints (K := K) (φ := φ) (ι := ι) (H := H) (List.range m.toNat)
  unfold rangeD rgV
  rw [show m - 0 = m from Int.sub_zero m]
  exact h
theorem star_of (es : List Expr) (h : plainA e = true) : starEach (e :: es) env = (false, eval e env) :: starEach es env := by
  cases e <;> first
    | rfl
    | cases h
theorem plainIx_of (h : plainS e = true) : PlainIx e := by
  intro o i
  cases e <;> first
    | rfl
    | cases h
theorem base_of {nm : Str} (h : plainO e = true) : attributeBase e nm env (eval e env) = eval e env := by
  cases e <;> first
    | rfl
    | cases h
theorem fold_of (h : plainI e = true) : ∀ x : Value, foldedSetIterable e env x = pure x := by
  intro x
  cases e <;> first
    | rfl
    | cases h
theorem isTrue_of (h : plainT e = true) : ∀ whole, isTrue e env whole = (do let v ← whole; standAt e.pos; holding [v] (truthy v)) := by
  intro w
  cases e <;> first
    | rfl
    | cases h
/-- a list's arguments: none is starred -/
theorem okEs_star {T : List DDef} {N : List Str} {fnc : Option Scope} {sc : Scope} {pos : Pos} : ∀ {ps : List PX} {es : List Expr}, okEs T N fnc sc ps es = true → (backTo pos (starEach es env)).any (·.1) = false ∧ (backTo pos (starEach es env)).all (fun x => !x.1) = true ∧ es.length = ps.length
  | [], [], _ => ⟨rfl, rfl, rfl⟩
  | [], _ :: _, h => by cases h
  | _ :: _, [], h => by cases h
  | p :: ps, e :: es, h => by
    have h : (plainA e && okE T N fnc sc p e && okEs T N fnc sc ps es) = true := h
    simp only [Bool.and_eq_true] at h
    obtain ⟨h1, h2, h3⟩ := okEs_star h.2
    rw [star_of es h.1.1]
    refine ⟨?_, ?_, by simp [h3]⟩
    · have : backTo pos ((false, eval e env) :: starEach es env) = (false, (backTo pos [(false, eval e env)]).head!.2) :: backTo pos (starEach es env) := by rfl
      rw [this, List.any_cons, h1]
      rfl
    · have : backTo pos ((false, eval e env) :: starEach es env) = (false, (backTo pos [(false, eval e env)]).head!.2) :: backTo pos (starEach es env) := by rfl
      rw [this, List.all_cons, h2]
      rfl
end

section
variable {T : List DDef} {n : Nat} {K : PySem.W.Frag} {C : Calls}
def isBoolP : PX → Bool
  | .andv .. => true
  | .orv .. => true
  | .one .. => true
  | _ => false
theorem tD_pop {w w' : DEnv → Sto → WK → Prop} {σ : L2.St} {H : Hp} {Q : VK} (h : tD K w σ H Q) (i : ∀ σ S k, w σ S k → w' σ S k) : tD K w' σ H Q := by
  obtain ⟨φ, ι, σd, S, k, R, RE, h, P⟩ := h
  exact ⟨φ, ι, σd, S, k, R, RE, i _ _ _ h, P⟩
theorem PT.none {X : Cx} {e : Expr} {w : DEnv → Sto → (Bool → Sto → Prop) → Prop} (h : ∀ σ S k, ¬ w σ S k) : PT X e (tDT X.K w) :=
  PT.no fun σ H Q => by
    rintro ⟨φ, ι, σd, S, k, R, RE, q, P⟩
    exact h _ _ _ q
/-- a truth from a value -/
theorem tru_imp {wa : DEnv → Sto → WK → Prop} {σ : L2.St} {H : Hp} {Q : Bool → Hp → Prop} {X : Cx} (h : tDT X.K (fun σ S k => wa σ S fun d S1 => truthW d S1 k) σ H Q) :
    tD X.K wa σ H fun x H' => ∃ k, TruV X.K x H' k ∧ Q k H' := by
  obtain ⟨φ, ι, σd, S, k, R, RE, h, P⟩ := h
  refine ⟨φ, ι, σd, S, _, R, RE, h, fun d S1 ι1 H1 v hd E R1 r => ?_⟩
  obtain ⟨t, h1, h2⟩ := truth_ok R1 r hd
  exact ⟨t, h1, P _ _ _ _ h2 E R1⟩
/-- a truth from a comparison -/
theorem tst_imp {wa wb : DEnv → Sto → WK → Prop} {g : D → D → Sto → WK → Prop} {r : R2} {σ : L2.St} {H : Hp} {Q : Bool → Hp → Prop}
    (hyp : ∀ {φ ι H S k Q x y v u}, RelS K φ ι H S → rep K φ ι H x v → rep K φ ι H y u → g x y S k → Post K φ ι H k Q → r v u H Q)
    (h : tDT K (fun σ S k => wa σ S fun x S1 => wb σ S1 fun y S2 => g x y S2 fun d S3 => match d with
      | .bl t => k t S3
      | _ => False) σ H Q) : tTest (tOp r (tD K wa) (tD K wb)) σ H Q := by
  obtain ⟨φ, ι, σd, S, k, R, RE, h, P⟩ := h
  refine ⟨φ, ι, σd, S, _, R, RE, h, fun x S1 ι1 H1 v hx E1 R1 rx => ⟨φ, ι1, σd, S1, _, R1, RE.mono E1, hx, fun y S2 ι2 H2 u hy E2 R2 ry => ?_⟩⟩
  refine hyp R2 (rep_mono E2 _ _ rx) ry hy fun d S3 ι3 H3 w hw E3 R3 rw_ => ?_
  cases d with
  | bl t => exact ⟨t, rw_, P _ _ _ _ hw (E1.trans (E2.trans E3)) R3⟩
  | _ => exact (show False from hw).elim
theorem chn_imp {wa wb wc : DEnv → Sto → WK → Prop} {g g' : D → D → Sto → WK → Prop} {r r' : R2} {σ : L2.St} {H : Hp} {Q : VK}
    (hyp : ∀ {φ ι H S k Q x y v u}, RelS K φ ι H S → rep K φ ι H x v → rep K φ ι H y u → g x y S k → Post K φ ι H k Q → r v u H Q)
    (hyp' : ∀ {φ ι H S k Q x y v u}, RelS K φ ι H S → rep K φ ι H x v → rep K φ ι H y u → g' x y S k → Post K φ ι H k Q → r' v u H Q)
    (h : tD K (fun σ S k => wa σ S fun x S1 => wb σ S1 fun y S2 => g x y S2 fun d S3 => match d with
      | .bl true => wc σ S3 fun z S4 => g' y z S4 k
      | .bl false => k (.bl false) S3
      | _ => False) σ H Q) : tChain r r' (tD K wa) (tD K wb) (tD K wc) σ H Q := by
  obtain ⟨φ, ι, σd, S, k, R, RE, h, P⟩ := h
  refine ⟨φ, ι, σd, S, _, R, RE, h, fun x S1 ι1 H1 v hx E1 R1 rx => ⟨φ, ι1, σd, S1, _, R1, RE.mono E1, hx, fun y S2 ι2 H2 u hy E2 R2 ry => ?_⟩⟩
  refine hyp R2 (rep_mono E2 _ _ rx) ry hy fun d S3 ι3 H3 w hw E3 R3 rw_ => ?_
  have E := E1.trans (E2.trans E3)
  cases d with
  | bl t =>
    refine ⟨t, rw_, ?_⟩
    cases t with
    | true =>
      rw [if_pos rfl]
      exact ⟨φ, ι3, σd, S3, _, R3, RE.mono E, hw, fun z S4 ι4 H4 u4 hz E4 R4 rz => hyp' R4 (rep_mono (E3.trans E4) _ _ ry) rz hz (P.step (E.trans E4))⟩
    | false =>
      rw [if_neg Bool.false_ne_true]
      exact P _ _ _ _ _ hw E R3 rfl
  | _ => exact (show False from hw).elim
theorem chnT_imp {wa wb wc : DEnv → Sto → WK → Prop} {g g' : D → D → Sto → WK → Prop} {r r' : R2} {σ : L2.St} {H : Hp} {Q : Bool → Hp → Prop}
    (hyp : ∀ {φ ι H S k Q x y v u}, RelS K φ ι H S → rep K φ ι H x v → rep K φ ι H y u → g x y S k → Post K φ ι H k Q → r v u H Q)
    (hyp' : ∀ {φ ι H S k Q x y v u}, RelS K φ ι H S → rep K φ ι H x v → rep K φ ι H y u → g' x y S k → Post K φ ι H k Q → r' v u H Q)
    (h : tDT K (fun σ S k => wa σ S fun x S1 => wb σ S1 fun y S2 => g x y S2 fun d S3 => match d with
      | .bl true => wc σ S3 fun z S4 => g' y z S4 fun d S5 => match d with
        | .bl t => k t S5
        | _ => False
      | .bl false => k false S3
      | _ => False) σ H Q) : tTest (tChain r r' (tD K wa) (tD K wb) (tD K wc)) σ H Q := by
  obtain ⟨φ, ι, σd, S, k, R, RE, h, P⟩ := h
  refine ⟨φ, ι, σd, S, _, R, RE, h, fun x S1 ι1 H1 v hx E1 R1 rx => ⟨φ, ι1, σd, S1, _, R1, RE.mono E1, hx, fun y S2 ι2 H2 u hy E2 R2 ry => ?_⟩⟩
  refine hyp R2 (rep_mono E2 _ _ rx) ry hy fun d S3 ι3 H3 w hw E3 R3 rw_ => ?_
  have E := E1.trans (E2.trans E3)
  cases d with
  | bl t =>
    refine ⟨t, rw_, ?_⟩
    cases t with
    | true =>
      rw [if_pos rfl]
      refine ⟨φ, ι3, σd, S3, _, R3, RE.mono E, hw, fun z S4 ι4 H4 u4 hz E4 R4 rz => hyp' R4 (rep_mono (E3.trans E4) _ _ ry) rz hz fun d S5 ι5 H5 w5 hw5 E5 R5 r5 => ?_⟩
      cases d with
      | bl t => exact ⟨t, r5, P _ _ _ _ hw5 (E.trans (E4.trans E5)) R5⟩
      | _ => exact (show False from hw5).elim
    | false =>
      rw [if_neg Bool.false_ne_true]
      exact ⟨false, rfl, P _ _ _ _ hw E R3⟩
  | _ => exact (show False from hw).elim
theorem and_imp {wa wr : DEnv → Sto → (Bool → Sto → Prop) → Prop} {σ : L2.St} {H : Hp} {Q : Bool → Hp → Prop} (h : tDT K (fun σ S k => wa σ S fun b S1 => (b = true → wr σ S1 k) ∧ (b = false → k false S1)) σ H Q) :
    tAnd (tDT K wa) (tDT K wr) σ H Q := by
  obtain ⟨φ, ι, σd, S, k, R, RE, h, P⟩ := h
  refine ⟨φ, ι, σd, S, _, R, RE, h, fun b S1 ι1 H1 hb E R1 => ?_⟩
  cases b with
  | true =>
    rw [if_pos rfl]
    exact ⟨φ, ι1, σd, S1, k, R1, RE.mono E, hb.1 rfl, fun b S2 ι2 H2 q E2 R2 => P b S2 ι2 H2 q (E.trans E2) R2⟩
  | false =>
    rw [if_neg Bool.false_ne_true]
    exact P _ _ _ _ (hb.2 rfl) E R1
theorem or_imp {wa wr : DEnv → Sto → (Bool → Sto → Prop) → Prop} {σ : L2.St} {H : Hp} {Q : Bool → Hp → Prop} (h : tDT K (fun σ S k => wa σ S fun b S1 => (b = true → k true S1) ∧ (b = false → wr σ S1 k)) σ H Q) :
    tOr (tDT K wa) (tDT K wr) σ H Q := by
  obtain ⟨φ, ι, σd, S, k, R, RE, h, P⟩ := h
  refine ⟨φ, ι, σd, S, _, R, RE, h, fun b S1 ι1 H1 hb E R1 => ?_⟩
  cases b with
  | true =>
    rw [if_pos rfl]
    exact P _ _ _ _ (hb.1 rfl) E R1
  | false =>
    rw [if_neg Bool.false_ne_true]
    exact ⟨φ, ι1, σd, S1, k, R1, RE.mono E, hb.2 rfl, fun b S2 ι2 H2 q E2 R2 => P b S2 ι2 H2 q (E.trans E2) R2⟩
theorem not_imp {wa : DEnv → Sto → (Bool → Sto → Prop) → Prop} {σ : L2.St} {H : Hp} {Q : Bool → Hp → Prop} (h : tDT K (fun σ S k => wa σ S fun b S1 => k (!b) S1) σ H Q) : tNot (tDT K wa) σ H Q := by
  obtain ⟨φ, ι, σd, S, k, R, RE, h, P⟩ := h
  exact ⟨φ, ι, σd, S, _, R, RE, h, fun b S1 ι1 H1 hb E R1 => P _ _ _ _ hb E R1⟩
end

/-! ### every expression -/
section
variable {T : List DDef} {n : Nat}
theorem bi_gl {b : BI} : bootBuiltins (Str.ofString (biN b)) = some (biV b) := by
  cases b <;> first
    | decide +kernel
    | (show bootBuiltins (Str.ofString "isinstance") = some (.builtin "isinstance"); decide +kernel)
theorem bi_name {b : BI} : Str.ofString (biN b) ≠ Str.ofString "__name__" := by
  cases b <;> first
    | decide +kernel
    | (show Str.ofString "isinstance" ≠ Str.ofString "__name__"; decide +kernel)
theorem ty_gl : ∀ t ∈ ["int", "bool", "str", "tuple", "list"], bootBuiltins (Str.ofString t) = some (.type t) ∧ Str.ofString t ≠ Str.ofString "__name__" := by decide +kernel
theorem ty_free {X : Cx} {fnc : Option Scope} (xo : XOk T n fnc X) {t : String} (h : t ∈ ["int", "bool", "str", "tuple", "list"]) : X.mg (Str.ofString t) = none := by
  simp only [List.mem_cons, List.not_mem_nil, or_false] at h
  rcases h with rfl | rfl | rfl | rfl | rfl
  · exact xo.blt .int
  · exact xo.blt .bool
  · exact xo.blt .str
  · exact xo.blt .tuple
  · exact xo.blt .list
end

section
variable {T : List DDef} {n : Nat}
theorem XOk.blk {X : Cx} {fnc : Option Scope} (xo : XOk T n fnc X) {s : Shared} {H : Hp} {scope : Scope} {cenv : PySem.Env} {fp : List Addr} : XOk T n (some scope) (X.blk s H scope cenv fp) where
  calm := xo.calm
  nd := xo.nd
  room := xo.room
  fn := fun x h => h
  fns := fun f hf => ⟨(xo.fns f hf).ex⟩
  blt := xo.blt
  rng := xo.rng
  zip := xo.zip
  con := xo.con
  dat := xo.dat
  tab := xo.tab
  enu := xo.enu
theorem nameCls {X : Cx} {fnc : Option Scope} (xo : XOk T n fnc X) {t : String} {pos : Pos} (h : t ∈ ["int", "bool", "str", "tuple", "list"]) (hg : isG X.env.scope (Str.ofString t) = true) : PE X (.Name (Str.ofString t) pos) (tC (.ty t)) :=
  pe_bltn (gl_of hg).1 (ty_free xo h) (ty_gl t h).1 rfl (ty_gl t h).2 (gl_of hg).2
theorem PA.consD {X : Cx} {e : Expr} {es : List Expr} {wa : DEnv → Sto → WK → Prop} {wr : DEnv → Sto → (List D → Sto → Prop) → Prop} (ha : PE X e (tD X.K wa)) (hr : PA X es (tDs X.K wr)) (hs : starEach (e :: es) X.env = (false, eval e X.env) :: starEach es X.env) :
    PA X (e :: es) (tDs X.K fun σ S k => wa σ S fun d S1 => wr σ S1 fun ds S2 => k (d :: ds) S2) := by
  refine PA.imp (pa_cons ha hr hs) ?_
  rintro σ H Q ⟨φ, ι, σd, S, k, R, RE, h, P⟩
  refine ⟨φ, ι, σd, S, _, R, RE, h, fun d S1 ι1 H1 v hd E1 R1 r => ⟨φ, ι1, σd, S1, _, R1, RE.mono E1, hd, fun ds S2 ι2 H2 vs hds E2 R2 rs => ?_⟩⟩
  exact P _ _ _ _ _ hds (E1.trans E2) R2 ⟨v, vs, rfl, rep_mono E2 _ _ r, rs⟩

theorem bool_of {T : List DDef} {N : List Str} {fnc : Option Scope} {sc : Scope} {r : PX} {op : BoolOp} {es : List Expr} {pos : Pos} (h : okE T N fnc sc r (.BoolOp op es pos) = true) : isBoolP r = true := by
  cases r <;> first
    | rfl
    | (exfalso
       have h : false = true := h
       cases h)
    | (exfalso
       rename_i a
       have h : (okE T N fnc sc a (.BoolOp op es pos) && plainT (.BoolOp op es pos)) = true := h
       rw [Bool.and_eq_true] at h
       cases h.2)
theorem star_cons {N : List Str} {fnc : Option Scope} {sc : Scope} {ps : List PX} {e : Expr} {es : List Expr} {env : PySem.Env} (h : okEs T N fnc sc ps (e :: es) = true) :
    starEach (e :: es) env = (false, eval e env) :: starEach es env ∧ ∀ pos, (backTo pos (starEach es env)).any (·.1) = false := by
  cases ps with
  | nil => cases h
  | cons p ps =>
    have h : (plainA e && okE T N fnc sc p e && okEs T N fnc sc ps es) = true := h
    simp only [Bool.and_eq_true] at h
    exact ⟨star_of es h.1.1, fun pos => (okEs_star h.2).1⟩
theorem PTs.impD {X : Cx} {C : Calls} (h : PTs X [] tYes) : PTs X [] (tDT X.K (wC C none)) := ⟨fun pins s σ H Q I ⟨φ, ι, σd, S, k, R, RE, w, P⟩ => h.run pins s σ H Q I (P true S ι H w .refl R)⟩
theorem few_of {N : List Str} {fnc : Option Scope} {sc : Scope} {ps : List PX} {es : List Expr} {env : PySem.Env} {cpos : Pos} (h : okEs T N fnc sc ps es = true) (hl : es.length ≤ 1) :
    ((backTo cpos (starEach es env)).all (fun x => !x.1) && (backToKw cpos (keywordEach [] env)).all (fun x => x.1.isSome) && decide (es.length + ([] : List Keyword).length + (if ([] : List Keyword).isEmpty = true then 0 else 1) < 30)) = true := by
  rw [(okEs_star h).2.1]
  have : decide (es.length + ([] : List Keyword).length + (if ([] : List Keyword).isEmpty = true then 0 else 1) < 30) = true := by
    rw [decide_eq_true_eq]
    show es.length + 0 + 0 < 30
    omega
  rw [this]
  rfl
theorem list_ty {K : PySem.W.Frag} {φ ι : List Addr} {H : Hp} {S : Sto} {m : Nat} {v : V} (R : RelS K φ ι H S) (r : rep K φ ι H (.ptr m) v) : tyV K "list" v H := by
  obtain ⟨a, ha, rfl⟩ := r
  obtain ⟨vs, e⟩ := R.mem (List.mem_of_getElem? ha)
  exact .inl ⟨rfl, vs, SqL.of e⟩
theorem ro_ty {K : PySem.W.Frag} {φ ι : List Addr} {H : Hp} {xs : List D} {v : V} (r : rep K φ ι H (.ro xs) v) : tyV K "list" v H := by
  obtain ⟨a, vs, rfl, h, _⟩ := r
  exact .inl ⟨rfl, vs, h.sq⟩
theorem meth_sound {X : Cx} {fnc : Option Scope} (xo : XOk T n fnc X) {m : Mth} {o : PX} {es : List PX} {eo : Expr} {xs : List Expr} {apos cpos : Pos} (hO : PE X eo (tD X.K (wE (callW T n) o))) (hA : PA X xs (tDs X.K (wEs (callW T n) es)))
    (h3 : plainO eo = true) (h4 : okEs T X.N fnc X.env.scope es xs = true) (h5 : (apos.endLine == cpos.line) = true) (h6 : mthLen m xs = true) : PE X (.Call (.Attribute eo (Str.ofString (mtN m)) apos) xs [] cpos) (tD X.K (wE (callW T n) (.meth m o es))) := by
  cases m with
  | append =>
    have h6 : (xs.length == 1) = true := h6
    match xs, h6 with
    | [e], h6 =>
      obtain ⟨s1, s2⟩ := star_cons (env := X.env) h4
      have hl : es.length = 1 := ((okEs_star (env := X.env) (pos := cpos) h4).2.2).symm
      refine PE.imp (pe_bm PySem.F.plainAttrs_list PySem.F.slot_list_append PySem.F.type_list_append mtB hO hA (base_of h3) (few_of h4 (Nat.le_refl _)) h5 s1 (s2 cpos)) ?_
      rintro σ H Q ⟨φ, ι, σd, S, k, R, RE, w, P⟩
      refine ⟨φ, ι, σd, S, _, R, RE, w, fun d S1 ι1 H1 v hd E R1 r => ?_⟩
      cases d with
      | ptr m =>
        refine ⟨list_ty R1 r, φ, ι1, σd, S1, _, R1, RE.mono E, wEs_len (callW_mono T n) _ _ _ _ hd.2, fun ds S2 ι2 H2 vs hds E2 R2 rs => ?_⟩
        obtain ⟨h1, hds⟩ := hds
        rw [hl] at h1
        match ds, h1, hds, rs with
        | [d], _, hds, rs =>
          obtain ⟨u, rfl, ru⟩ := reps1 rs
          exact append_ok R2 (rep_mono E2 _ _ r) ru hds (P.step (E.trans E2))
      | _ => exact (show False from hd.1).elim
  | pop =>
    have h6 : decide (xs.length ≤ 1) = true := h6
    match xs, h6 with
    | [], h6 =>
      refine PE.imp (pe_bm0 PySem.F.plainAttrs_list PySem.F.slot_list_pop PySem.F.type_list_pop mtB hO (base_of h3) h5) ?_
      rintro σ H Q ⟨φ, ι, σd, S, k, R, RE, w, P⟩
      refine ⟨φ, ι, σd, S, _, R, RE, w, fun d S1 ι1 H1 v hd E R1 r => ?_⟩
      have he : es = [] := by
        have := (okEs_star (env := X.env) (pos := cpos) h4).2.2
        exact List.eq_nil_of_length_eq_zero this.symm
      subst he
      cases d with
      | ptr m => exact ⟨list_ty R1 r, pop_ok R1 r hd.2 (P.step E)⟩
      | _ => exact (show False from hd.1).elim
    | [e], h6 =>
      obtain ⟨s1, s2⟩ := star_cons (env := X.env) h4
      have hl : es.length = 1 := ((okEs_star (env := X.env) (pos := cpos) h4).2.2).symm
      refine PE.imp (pe_bm PySem.F.plainAttrs_list PySem.F.slot_list_pop PySem.F.type_list_pop mtB hO hA (base_of h3) (few_of h4 (Nat.le_refl _)) h5 s1 (s2 cpos)) ?_
      rintro σ H Q ⟨φ, ι, σd, S, k, R, RE, w, P⟩
      refine ⟨φ, ι, σd, S, _, R, RE, w, fun d S1 ι1 H1 v hd E R1 r => ?_⟩
      cases d with
      | ptr m =>
        refine ⟨list_ty R1 r, φ, ι1, σd, S1, _, R1, RE.mono E, wEs_len (callW_mono T n) _ _ _ _ hd.2, fun ds S2 ι2 H2 vs hds E2 R2 rs => ?_⟩
        obtain ⟨h1, hds⟩ := hds
        rw [hl] at h1
        match ds, h1, hds, rs with
        | [d], _, hds, rs =>
          obtain ⟨u, rfl, ru⟩ := reps1 rs
          exact popAt_ok R2 (rep_mono E2 _ _ r) ru hds (P.step (E.trans E2))
      | _ => exact (show False from hd.1).elim
  | join =>
    have h6 : (xs.length == 1) = true := h6
    match xs, h6 with
    | [e], h6 =>
      obtain ⟨s1, s2⟩ := star_cons (env := X.env) h4
      have hl : es.length = 1 := ((okEs_star (env := X.env) (pos := cpos) h4).2.2).symm
      refine PE.imp (pe_bm PySem.F.plainAttrs_str PySem.F.slot_str_join PySem.F.type_str_join mtB hO hA (base_of h3) (few_of h4 (Nat.le_refl _)) h5 s1 (s2 cpos)) ?_
      rintro σ H Q ⟨φ, ι, σd, S, k, R, RE, w, P⟩
      refine ⟨φ, ι, σd, S, _, R, RE, w, fun d S1 ι1 H1 v hd E R1 r => ?_⟩
      cases d with
      | str z =>
        obtain rfl : v = .str z := r
        refine ⟨rfl, φ, ι1, σd, S1, _, R1, RE.mono E, wEs_len (callW_mono T n) _ _ _ _ hd.2, fun ds S2 ι2 H2 vs hds E2 R2 rs => ?_⟩
        obtain ⟨h1, hds⟩ := hds
        rw [hl] at h1
        match ds, h1, hds, rs with
        | [d], _, hds, rs =>
          obtain ⟨u, rfl, ru⟩ := reps1 rs
          exact ⟨_, mt_join, join_ok (x := .str z) R2 rfl ru hds (P.step (E.trans E2))⟩
      | _ => exact (show False from hd.1).elim
  | count =>
    have h6 : (xs.length == 1) = true := h6
    match xs, h6 with
    | [e], h6 =>
      obtain ⟨s1, s2⟩ := star_cons (env := X.env) h4
      have hl : es.length = 1 := ((okEs_star (env := X.env) (pos := cpos) h4).2.2).symm
      refine PE.imp (pe_bm PySem.F.plainAttrs_str PySem.F.slot_str_count PySem.F.type_str_count mtB hO hA (base_of h3) (few_of h4 (Nat.le_refl _)) h5 s1 (s2 cpos)) ?_
      rintro σ H Q ⟨φ, ι, σd, S, k, R, RE, w, P⟩
      refine ⟨φ, ι, σd, S, _, R, RE, w, fun d S1 ι1 H1 v hd E R1 r => ?_⟩
      cases d with
      | str z =>
        obtain rfl : v = .str z := r
        refine ⟨rfl, φ, ι1, σd, S1, _, R1, RE.mono E, wEs_len (callW_mono T n) _ _ _ _ hd.2, fun ds S2 ι2 H2 vs hds E2 R2 rs => ?_⟩
        obtain ⟨h1, hds⟩ := hds
        rw [hl] at h1
        match ds, h1, hds, rs with
        | [d], _, hds, rs =>
          obtain ⟨u, rfl, ru⟩ := reps1 rs
          cases d with
          | str b =>
            obtain rfl : u = .str b := ru
            exact ⟨_, mt_count, z, b, rfl, rfl, P _ _ _ _ _ hds (E.trans E2) R2 rfl⟩
          | _ => exact (show False from hds).elim
      | _ => exact (show False from hd.1).elim
  | indexL =>
    have h6 : (xs.length == 1) = true := h6
    match xs, h6 with
    | [e], h6 =>
      obtain ⟨s1, s2⟩ := star_cons (env := X.env) h4
      have hl : es.length = 1 := ((okEs_star (env := X.env) (pos := cpos) h4).2.2).symm
      refine PE.imp (pe_bm PySem.F.plainAttrs_list PySem.F.slot_list_index PySem.F.type_list_index mtB hO hA (base_of h3) (few_of h4 (Nat.le_refl _)) h5 s1 (s2 cpos)) ?_
      rintro σ H Q ⟨φ, ι, σd, S, k, R, RE, w, P⟩
      refine ⟨φ, ι, σd, S, _, R, RE, w, fun d S1 ι1 H1 v hd E R1 r => ?_⟩
      cases d with
      | ptr m =>
        refine ⟨list_ty R1 r, φ, ι1, σd, S1, _, R1, RE.mono E, wEs_len (callW_mono T n) _ _ _ _ hd.2, fun ds S2 ι2 H2 vs hds E2 R2 rs => ?_⟩
        obtain ⟨h1, hds⟩ := hds
        rw [hl] at h1
        match ds, h1, hds, rs with
        | [d], _, hds, rs =>
          obtain ⟨u, rfl, ru⟩ := reps1 rs
          exact indexL_ok R2 (rep_mono E2 _ _ r) ru hds (P.step (E.trans E2))
      | ro m =>
        refine ⟨ro_ty r, φ, ι1, σd, S1, _, R1, RE.mono E, wEs_len (callW_mono T n) _ _ _ _ hd.2, fun ds S2 ι2 H2 vs hds E2 R2 rs => ?_⟩
        obtain ⟨h1, hds⟩ := hds
        rw [hl] at h1
        match ds, h1, hds, rs with
        | [d], _, hds, rs =>
          obtain ⟨u, rfl, ru⟩ := reps1 rs
          exact indexL_ok R2 (rep_mono E2 _ _ r) ru hds (P.step (E.trans E2))
      | _ => exact (show False from hd.1).elim
  | indexT =>
    have h6 : (xs.length == 1) = true := h6
    match xs, h6 with
    | [e], h6 =>
      obtain ⟨s1, s2⟩ := star_cons (env := X.env) h4
      have hl : es.length = 1 := ((okEs_star (env := X.env) (pos := cpos) h4).2.2).symm
      refine PE.imp (pe_idxT hO hA (base_of h3) (few_of h4 (Nat.le_refl _)) h5 s1 (s2 cpos)) ?_
      rintro σ H Q ⟨φ, ι, σd, S, k, R, RE, w, P⟩
      refine ⟨φ, ι, σd, S, _, R, RE, w, fun d S1 ι1 H1 v hd E R1 r => ?_⟩
      cases d with
      | frt m =>
        have r0 := r
        obtain ⟨a, ws, rfl, ⟨ob, ha, hdn, _, _⟩, _⟩ := r0
        refine ⟨⟨a, ob, ws, rfl, ha, hdn⟩, φ, ι1, σd, S1, _, R1, RE.mono E, wEs_len (callW_mono T n) _ _ _ _ hd.2, fun ds S2 ι2 H2 vs hds E2 R2 rs => ?_⟩
        obtain ⟨h1, hds⟩ := hds
        rw [hl] at h1
        match ds, h1, hds, rs with
        | [d], _, hds, rs =>
          obtain ⟨u, rfl, ru⟩ := reps1 rs
          exact indexT_ok R2 (rep_mono E2 _ _ r) ru hds (P.step (E.trans E2))
      | _ => exact (show False from hd.1).elim
  | countL =>
    have h6 : (xs.length == 1) = true := h6
    match xs, h6 with
    | [e], h6 =>
      obtain ⟨s1, s2⟩ := star_cons (env := X.env) h4
      have hl : es.length = 1 := ((okEs_star (env := X.env) (pos := cpos) h4).2.2).symm
      refine PE.imp (pe_bm PySem.F.plainAttrs_list PySem.F.slot_list_count PySem.F.type_list_count mtB hO hA (base_of h3) (few_of h4 (Nat.le_refl _)) h5 s1 (s2 cpos)) ?_
      rintro σ H Q ⟨φ, ι, σd, S, k, R, RE, w, P⟩
      refine ⟨φ, ι, σd, S, _, R, RE, w, fun d S1 ι1 H1 v hd E R1 r => ?_⟩
      cases d with
      | ptr m =>
        refine ⟨list_ty R1 r, φ, ι1, σd, S1, _, R1, RE.mono E, wEs_len (callW_mono T n) _ _ _ _ hd.2, fun ds S2 ι2 H2 vs hds E2 R2 rs => ?_⟩
        obtain ⟨h1, hds⟩ := hds
        rw [hl] at h1
        match ds, h1, hds, rs with
        | [d], _, hds, rs =>
          obtain ⟨u, rfl, ru⟩ := reps1 rs
          exact countL_ok R2 (rep_mono E2 _ _ r) ru hds (P.step (E.trans E2))
      | ro m =>
        refine ⟨ro_ty r, φ, ι1, σd, S1, _, R1, RE.mono E, wEs_len (callW_mono T n) _ _ _ _ hd.2, fun ds S2 ι2 H2 vs hds E2 R2 rs => ?_⟩
        obtain ⟨h1, hds⟩ := hds
        rw [hl] at h1
        match ds, h1, hds, rs with
        | [d], _, hds, rs =>
          obtain ⟨u, rfl, ru⟩ := reps1 rs
          exact countL_ok R2 (rep_mono E2 _ _ r) ru hds (P.step (E.trans E2))
      | _ => exact (show False from hd.1).elim
  | indexS =>
    have h6 : (xs.length == 1) = true := h6
    match xs, h6 with
    | [e], h6 =>
      obtain ⟨s1, s2⟩ := star_cons (env := X.env) h4
      have hl : es.length = 1 := ((okEs_star (env := X.env) (pos := cpos) h4).2.2).symm
      refine PE.imp (pe_bm PySem.F.plainAttrs_str PySem.F.slot_str_index PySem.F.type_str_index mtB hO hA (base_of h3) (few_of h4 (Nat.le_refl _)) h5 s1 (s2 cpos)) ?_
      rintro σ H Q ⟨φ, ι, σd, S, k, R, RE, w, P⟩
      refine ⟨φ, ι, σd, S, _, R, RE, w, fun d S1 ι1 H1 v hd E R1 r => ?_⟩
      cases d with
      | str z =>
        obtain rfl : v = .str z := r
        refine ⟨rfl, φ, ι1, σd, S1, _, R1, RE.mono E, wEs_len (callW_mono T n) _ _ _ _ hd.2, fun ds S2 ι2 H2 vs hds E2 R2 rs => ?_⟩
        obtain ⟨h1, hds⟩ := hds
        rw [hl] at h1
        match ds, h1, hds, rs with
        | [d], _, hds, rs =>
          obtain ⟨u, rfl, ru⟩ := reps1 rs
          exact indexS_ok (x := .str z) R2 rfl ru hds (P.step (E.trans E2))
      | _ => exact (show False from hd.1).elim
  | strip =>
    have h6 : (xs.length == 1) = true := h6
    match xs, h6 with
    | [e], h6 =>
      obtain ⟨s1, s2⟩ := star_cons (env := X.env) h4
      have hl : es.length = 1 := ((okEs_star (env := X.env) (pos := cpos) h4).2.2).symm
      refine PE.imp (pe_bm PySem.F.plainAttrs_str PySem.F.slot_str_strip PySem.F.type_str_strip mtB hO hA (base_of h3) (few_of h4 (Nat.le_refl _)) h5 s1 (s2 cpos)) ?_
      rintro σ H Q ⟨φ, ι, σd, S, k, R, RE, w, P⟩
      refine ⟨φ, ι, σd, S, _, R, RE, w, fun d S1 ι1 H1 v hd E R1 r => ?_⟩
      cases d with
      | str z =>
        obtain rfl : v = .str z := r
        refine ⟨rfl, φ, ι1, σd, S1, _, R1, RE.mono E, wEs_len (callW_mono T n) _ _ _ _ hd.2, fun ds S2 ι2 H2 vs hds E2 R2 rs => ?_⟩
        obtain ⟨h1, hds⟩ := hds
        rw [hl] at h1
        match ds, h1, hds, rs with
        | [d], _, hds, rs =>
          obtain ⟨u, rfl, ru⟩ := reps1 rs
          exact strip_ok (x := .str z) R2 rfl ru hds (P.step (E.trans E2))
      | _ => exact (show False from hd.1).elim
theorem okComp {N : List Str} {fnc : Option Scope} {sc : Scope} {mu : Bool} {elt : PX} {p : PP} {own : List (Str × Nat)} {rng : IK} {src : List PX} {cond : Option PX} {e : Expr} (h : okE T N fnc sc (.comp mu elt p own rng src cond) e = true) :
    ∃ eelt tg iter ifs scope pos, e = .ListComp eelt [⟨tg, iter, ifs, 0⟩] scope pos ∧ blkC N sc scope own = true ∧ okP N (some scope) (relS scope sc) (own.map (·.2)) p tg = true ∧ okE T N (some scope) (relS scope sc) elt eelt = true ∧ plainI iter = true ∧
      iterChk (okEs T N fnc sc src) sc rng (src.length == 1) iter = true ∧ enTp rng p = true ∧ okC T N (some scope) (relS scope sc) cond ifs = true := by
  cases e with
  | ListComp eelt gens scope pos =>
    match gens, h with
    | [⟨tg, iter, ifs, 0⟩], h =>
      refine ⟨eelt, tg, iter, ifs, scope, pos, rfl, ?_⟩
      have h : (blkC N sc scope own && okP N (some scope) (relS scope sc) (own.map (·.2)) p tg && okE T N (some scope) (relS scope sc) elt eelt && plainI iter &&
        iterChk (okEs T N fnc sc src) sc rng (src.length == 1) iter && enTp rng p && okC T N (some scope) (relS scope sc) cond ifs) = true := h
      simp only [Bool.and_eq_true] at h
      obtain ⟨⟨⟨⟨⟨⟨h1, h2⟩, h3⟩, h4⟩, h5⟩, h5'⟩, h6⟩ := h
      exact ⟨h1, h2, h3, h4, h5, h5', h6⟩
  | _ => cases h
theorem okDc {N : List Str} {fnc : Option Scope} {sc : Scope} {kx vx : PX} {p : PP} {own : List (Str × Nat)} {rng : IK} {src : List PX} {cond : Option PX} {e : Expr} (h : okE T N fnc sc (.dcomp kx vx p own rng src cond) e = true) :
    ∃ ekx evx tg iter ifs scope pos, e = .DictComp ekx evx [⟨tg, iter, ifs, 0⟩] scope pos ∧ blkC N sc scope own = true ∧ okP N (some scope) (relS scope sc) (own.map (·.2)) p tg = true ∧ okE T N (some scope) (relS scope sc) kx ekx = true ∧ okE T N (some scope) (relS scope sc) vx evx = true ∧ plainI iter = true ∧
      iterChk (okEs T N fnc sc src) sc rng (src.length == 1) iter = true ∧ enTp rng p = true ∧ okC T N (some scope) (relS scope sc) cond ifs = true := by
  cases e with
  | DictComp ekx evx gens scope pos =>
    match gens, h with
    | [⟨tg, iter, ifs, 0⟩], h =>
      refine ⟨ekx, evx, tg, iter, ifs, scope, pos, rfl, ?_⟩
      have h : (blkC N sc scope own && okP N (some scope) (relS scope sc) (own.map (·.2)) p tg && okE T N (some scope) (relS scope sc) kx ekx && okE T N (some scope) (relS scope sc) vx evx && plainI iter &&
        iterChk (okEs T N fnc sc src) sc rng (src.length == 1) iter && enTp rng p && okC T N (some scope) (relS scope sc) cond ifs) = true := h
      simp only [Bool.and_eq_true] at h
      obtain ⟨⟨⟨⟨⟨⟨⟨h1, h2⟩, h3⟩, h3'⟩, h4⟩, h5⟩, h5'⟩, h6⟩ := h
      exact ⟨h1, h2, h3, h3', h4, h5, h5', h6⟩
  | _ => cases h
theorem okComp2 {N : List Str} {fnc : Option Scope} {sc : Scope} {elt : PX} {p : PP} {own : List (Str × Nat)} {rng : IK} {src : List PX} {cond : Option PX} {vs1 : List Nat} {p1 : PP} {rng1 : IK} {src1 : List PX} {cond1 : Option PX} {e : Expr} (h : okE T N fnc sc (.comp2 elt p own rng src cond vs1 p1 rng1 src1 cond1) e = true) :
    ∃ eelt tg iter ifs tg1 iter1 ifs1 scope pos, e = .ListComp eelt [⟨tg, iter, ifs, 0⟩, ⟨tg1, iter1, ifs1, 0⟩] scope pos ∧ blkC N sc scope own = true ∧ okP N (some scope) (relS scope sc) (own.map (·.2)) p tg = true ∧ okP N (some scope) (relS scope sc) vs1 p1 tg1 = true ∧
      okE T N (some scope) (relS scope sc) elt eelt = true ∧ plainI iter = true ∧ plainI iter1 = true ∧
      iterChk (okEs T N fnc sc src) sc rng (src.length == 1) iter = true ∧ enTp rng p = true ∧ okC T N (some scope) (relS scope sc) cond ifs = true ∧
      iterChk (okEs T N (some scope) (relS scope sc) src1) (relS scope sc) rng1 (src1.length == 1) iter1 = true ∧ enTp rng1 p1 = true ∧ okC T N (some scope) (relS scope sc) cond1 ifs1 = true ∧ ∀ i ∈ vs1, i ∈ own.map (·.2) := by
  cases e with
  | ListComp eelt gens scope pos =>
    match gens, h with
    | [⟨tg, iter, ifs, 0⟩, ⟨tg1, iter1, ifs1, 0⟩], h =>
      refine ⟨eelt, tg, iter, ifs, tg1, iter1, ifs1, scope, pos, rfl, ?_⟩
      have h : (blkC N sc scope own && okP N (some scope) (relS scope sc) (own.map (·.2)) p tg && okP N (some scope) (relS scope sc) vs1 p1 tg1 &&
        okE T N (some scope) (relS scope sc) elt eelt && plainI iter && plainI iter1 &&
        iterChk (okEs T N fnc sc src) sc rng (src.length == 1) iter && enTp rng p && okC T N (some scope) (relS scope sc) cond ifs &&
        iterChk (okEs T N (some scope) (relS scope sc) src1) (relS scope sc) rng1 (src1.length == 1) iter1 && enTp rng1 p1 && okC T N (some scope) (relS scope sc) cond1 ifs1 && vs1.all (fun i => (own.map (·.2)).contains i)) = true := h
      simp only [Bool.and_eq_true] at h
      obtain ⟨⟨⟨⟨⟨⟨⟨⟨⟨⟨⟨⟨h1, h2⟩, h3⟩, h4⟩, h5⟩, h6⟩, h7⟩, h8⟩, h9⟩, h10⟩, h11⟩, h12⟩, h13⟩ := h
      exact ⟨h1, h2, h3, h4, h5, h6, h7, h8, h9, h10, h11, h12, fun i hi => by
        have z := List.all_eq_true.mp h13 i hi
        exact List.contains_iff_mem.mp z⟩
  | _ => cases h
theorem rng_sound {X : Cx} {fnc : Option Scope} (xo : XOk T n fnc X) {tg iter : Expr} {src : List PX} {one : Bool} (hEs : ∀ xs, okEs T X.N fnc X.env.scope src xs = true → PA X xs (tDs X.K (wEs (callW T n) src)))
    (h : iterChk (okEs T X.N fnc X.env.scope src) X.env.scope .rg one iter = true) : PI X tg iter (tDI X.K (wI (callW T n) .rg src)) := by
  unfold iterChk at h
  cases iter with
  | Call ef xs kws pos =>
    cases ef with
    | Name x ps =>
      match xs, kws, h with
      | e0 :: xs, [], h =>
        have h : (decide (x = Str.ofString "range") && isG X.env.scope x && okEs T X.N fnc X.env.scope src (e0 :: xs) && decide (xs.length ≤ 2)) = true := h
        simp only [Bool.and_eq_true, decide_eq_true_eq] at h
        obtain ⟨⟨⟨rfl, h2⟩, h3⟩, h4⟩ := h
        obtain ⟨g1, g2⟩ := gl_of h2
        obtain ⟨s1, s2⟩ := star_cons (env := X.env) h3
        have hl := (okEs_star (env := X.env) (pos := ⟨0, 0, 0, 0⟩) h3).2.2
        match xs, h3, h4, s1, s2, hl with
        | [], h3, h4, s1, s2, hl => exact PI.imp (pi_range1 g1 xo.rng (hEs _ h3) s1) fun σ H Q q => rng1_imp (callW_mono T n) hl.symm q
        | [e2], h3, h4, s1, s2, hl =>
          have s3 : starEach [e2] X.env = [(false, eval e2 X.env)] := by
            have := s2 ⟨0, 0, 0, 0⟩
            cases e2 <;> first
              | rfl
              | cases this
          exact PI.imp (pi_range2 g1 xo.rng (hEs _ h3) (by rw [s1, s3]) s3) fun σ H Q q => rng2_imp (callW_mono T n) hl.symm q
        | [e2, e3], h3, h4, s1, s2, hl => exact PI.imp (pi_range3 g1 xo.rng (hEs _ h3) s1 (s2 pos)) fun σ H Q q => rng3_imp (callW_mono T n) hl.symm q
        | _ :: _ :: _ :: _, _, h4, _, _, _ =>
          simp at h4
    | _ => cases h
  | _ => cases h
theorem enTp_tg {N : List Str} {fnc : Option Scope} {sc : Scope} {vs : List Nat} {p : PP} {tg : Expr} (h : okP N fnc sc vs p tg = true) (ht : enTp .en p = true) : ∃ es k pos, tg = .Tuple es k pos := by
  cases p with
  | nm _ => cases ht
  | tp ps =>
    cases tg with
    | Tuple es k pos => exact ⟨es, k, pos, rfl⟩
    | _ => cases h
theorem en_sound {X : Cx} {fnc : Option Scope} (xo : XOk T n fnc X) {tg iter : Expr} {src : List PX} (hEs : ∀ xs, okEs T X.N fnc X.env.scope src xs = true → PA X xs (tDs X.K (wEs (callW T n) src)))
    (h : iterChk (okEs T X.N fnc X.env.scope src) X.env.scope .en (src.length == 1) iter = true) (ht : ∃ es k pos, tg = .Tuple es k pos) : PI X tg iter (tDI X.K (wI (callW T n) .en src)) := by
  obtain ⟨es, kk, tpos, rfl⟩ := ht
  unfold iterChk at h
  cases iter with
  | Call ef xs kws pos =>
    cases ef with
    | Name x ps =>
      match xs, kws, h with
      | [e0], [], h =>
        have h : ((src.length == 1) && decide (x = Str.ofString "enumerate") && isG X.env.scope x && okEs T X.N fnc X.env.scope src [e0]) = true := h
        simp only [Bool.and_eq_true, decide_eq_true_eq, beq_iff_eq] at h
        obtain ⟨⟨⟨hl, rfl⟩, h2⟩, h3⟩ := h
        obtain ⟨g1, g2⟩ := gl_of h2
        obtain ⟨s1, s2⟩ := star_cons (env := X.env) h3
        exact PI.imp (pi_enumA g1 xo.enu (hEs _ h3) s1) fun σ H Q q => en_imp (callW_mono T n) hl q
      | [_], _ :: _, h => cases h
      | [], _, h => cases h
      | _ :: _ :: _, _, h => cases h
    | _ => cases h
  | _ => cases h

theorem zpTp_tg {N : List Str} {fnc : Option Scope} {sc : Scope} {vs : List Nat} {p : PP} {tg : Expr} (h : okP N fnc sc vs p tg = true) (ht : enTp .zp p = true) : ∃ es k pos, tg = .Tuple es k pos := by
  cases p with
  | nm _ => cases ht
  | tp ps =>
    cases tg with
    | Tuple es k pos => exact ⟨es, k, pos, rfl⟩
    | _ => cases h
theorem zp_sound {X : Cx} {fnc : Option Scope} (xo : XOk T n fnc X) {tg iter : Expr} {src : List PX} (hEs : ∀ xs, okEs T X.N fnc X.env.scope src xs = true → PA X xs (tDs X.K (wEs (callW T n) src)))
    (h : iterChk (okEs T X.N fnc X.env.scope src) X.env.scope .zp (src.length == 1) iter = true) (ht : ∃ es k pos, tg = .Tuple es k pos) : PI X tg iter (tDI X.K (wI (callW T n) .zp src)) := by
  obtain ⟨es, kk, tpos, rfl⟩ := ht
  unfold iterChk at h
  cases iter with
  | Call ef xs kws pos =>
    cases ef with
    | Name x ps =>
      match xs, kws, h with
      | [e0, e1], [], h =>
        have h : (decide (x = Str.ofString "zip") && isG X.env.scope x && okEs T X.N fnc X.env.scope src [e0, e1]) = true := h
        simp only [Bool.and_eq_true, decide_eq_true_eq] at h
        obtain ⟨⟨rfl, h2⟩, h3⟩ := h
        obtain ⟨g1, g2⟩ := gl_of h2
        obtain ⟨s1, s2⟩ := star_cons (env := X.env) h3
        have hl := (okEs_star (env := X.env) (pos := ⟨0, 0, 0, 0⟩) h3).2.2
        exact PI.imp (pi_zipG g1 xo.zip (hEs _ h3) s1 (s2 pos)) fun σ H Q q => zip_imp (callW_mono T n) hl.symm q
      | [_, _], _ :: _, h => cases h
      | [], _, h => cases h
      | [_], _, h => cases h
      | _ :: _ :: _ :: _, _, h => cases h
    | _ => cases h
  | _ => cases h
/-! ### written dicts -/
def trsOf (K : PySem.W.Frag) (C : Calls) : List Key → List PX → List (TE × TE)
  | k :: ks, e :: es => (tC (kV k), tD K (wE C e)) :: trsOf K C ks es
  | _, _ => []
theorem merge_nodup : ∀ (kvs acc : List (Key × V)), ((acc ++ kvs).map (·.1)).Nodup → mergeK acc kvs = acc ++ kvs
  | [], acc, _ => by simp [mergeK]
  | p :: r, acc, h => by
    have hp : putK acc p.1 p.2 = acc ++ [p] := by
      unfold putK
      rw [if_neg]
      intro q
      obtain ⟨x, hx, e⟩ := List.any_eq_true.mp q
      have e := of_decide_eq_true e
      rw [List.map_append, List.map_cons] at h
      have := (List.nodup_append.mp h).2.2 x.1 (List.mem_map.mpr ⟨x, hx, rfl⟩) p.1 List.mem_cons_self
      exact this e
    show mergeK (putK acc p.1 p.2) r = _
    rw [hp, merge_nodup r (acc ++ [p]) (by rw [List.append_assoc]; exact h), List.append_assoc]
    rfl
theorem pairs_imp {K : PySem.W.Frag} {C : Calls} : ∀ (ks : List Key) (es : List PX) {φ ι : List Addr} {σd : DEnv} {S : Sto} {σ : L2.St} {H : Hp} {k : List D → Sto → Prop} {Q : List (V × V) → Hp → Prop}, ks.length = es.length → RelS K φ ι H S → RelE K φ ι H σd σ → wEs C es σd S k →
    (∀ ds S' ι' H' vs, k ds S' → Ext ι H ι' H' → RelS K φ ι' H' S' → reps K φ ι' H' ds vs → vs.length = ks.length → Q ((ks.map kV).zip vs) H') → tPairs (trsOf K C ks es) σ H Q
  | [], [], φ, ι, σd, S, σ, H, k, Q, _, R, RE, w, P => P [] S ι H [] w .refl R rfl rfl
  | [], _ :: _, _, _, _, _, _, _, _, _, hl, _, _, _, _ => by cases hl
  | _ :: _, [], _, _, _, _, _, _, _, _, hl, _, _, _, _ => by cases hl
  | kk :: ks, e :: es, φ, ι, σd, S, σ, H, k, Q, hl, R, RE, w, P => by
    show tD K (wE C e) σ H fun y H2 => tPairs (trsOf K C ks es) σ H2 fun ps H3 => Q ((kV kk, y) :: ps) H3
    refine ⟨φ, ι, σd, S, fun d S1 => wEs C es σd S1 fun ds S2 => k (d :: ds) S2, R, RE, w, fun d S1 ι1 H1 v hd E1 R1 r1 => ?_⟩
    refine pairs_imp ks es (by simpa using hl) R1 (RE.mono E1) hd fun ds S' ι' H' vs hk E R' rs hv => ?_
    exact P (d :: ds) S' ι' H' (v :: vs) hk (E1.trans E) R' ⟨v, vs, rfl, rep_mono E _ _ r1, rs⟩ (by simp [hv])
theorem disp_imp {K : PySem.W.Frag} {C : Calls} {ks : List Key} {es : List PX} {σ : L2.St} {H : Hp} {Q : VK} (hl : ks.length = es.length) (h15 : ks.length ≤ 15) (hn : ks.Nodup) (h : tD K (wE C (.dct ks es)) σ H Q) : tDisp (trsOf K C ks es) σ H Q := by
  obtain ⟨φ, ι, σd, S, k, R, RE, w, P⟩ := h
  intro p hp
  have Rh := R.hide (o := .dK []) hp
  refine pairs_imp ks es hl Rh (RE.hide hp) w fun ds S' ι' H' vs hk E R' rs hv => ?_
  have n1 := (Rh.pv p List.mem_cons_self).1
  obtain ⟨n2, e1⟩ := E.keep p _ upd_same n1
  have hz : (ks.zip vs).map (·.1) = ks := List.map_fst_zip (by omega)
  refine ⟨e1, ks.zip vs, ?_, by rw [List.length_zip]; omega, ?_⟩
  · rw [List.zip_map_left]
    rfl
  · rw [merge_nodup _ [] (by rw [List.nil_append, hz]; exact hn), List.nil_append]
    have nφ : p ∉ φ := R.priv hp
    refine P (.dic ks ds) S' ι' _ (.ref p) hk ⟨E.more, fun a o e n => ?_⟩ (R'.priv_upd List.mem_cons_self).pub ⟨p, vs, rfl, ⟨.inl upd_same, n2, nφ⟩, reps_pub _ _ (reps_priv List.mem_cons_self _ _ rs)⟩
    have na := ne_of_none e hp
    obtain ⟨m1, m2⟩ := E.keep a o (by rw [upd_ne na]; exact e) n
    exact ⟨m1, by rw [upd_ne na]; exact m2⟩
theorem minN_imp {K : PySem.W.Frag} {wa : DEnv → Sto → WK → Prop} {σ : L2.St} {H : Hp} {Q : VK} (h : tD K (fun σ S k => wa σ S fun x S1 => minNW x S1 k) σ H Q) : tCKw (rMinD K) (tCons (tD K wa) tNil) (tCons (tC .non) tNil) σ H Q := by
  obtain ⟨φ, ι, σd, S, k, R, RE, w, P⟩ := h
  refine ⟨φ, ι, σd, S, _, R, RE, w, fun d S1 ι1 H1 v hd E R1 r => ?_⟩
  show rMinD K [v] [.non] H1 Q
  have hd : minNW d S1 k := hd
  unfold minNW at hd
  split at hd
  · rename_i e
    obtain ⟨ds, e1, e2⟩ := Option.bind_eq_some_iff.mp e
    obtain ⟨a, ws, rfl, q, r⟩ := seq_of R1 r e1
    rw [ints_of r e2] at q
    exact ⟨a, _, rfl, rfl, q, fun e => (P.step E).here R1 (hd.1 e) rfl, fun m h1 h2 => (P.step E).here R1 (hd.2 m h1 h2) rfl⟩
  · exact hd.elim
theorem keysOk_all : ∀ {ks : List Key} {es : List (Option Expr)}, keysOk ks es = true → es.all (·.isSome) = true ∧ es.length = ks.length
  | [], [], _ => ⟨rfl, rfl⟩
  | [], _ :: _, h => by cases h
  | .inr s :: ks, es, h => by
    unfold keysOk at h
    split at h
    · rename_i e; cases e
    · rename_i e
      cases e
      rw [Bool.and_eq_true] at h
      obtain ⟨a, b⟩ := keysOk_all h.2
      exact ⟨by simpa using a, by simp [b]⟩
    · rename_i e; cases e
    · cases h
  | .inl s :: ks, es, h => by
    unfold keysOk at h
    split at h
    · rename_i e; cases e
    · rename_i e; cases e
    · rename_i e
      cases e
      rw [Bool.and_eq_true] at h
      obtain ⟨a, b⟩ := keysOk_all h.2
      exact ⟨by simpa using a, by simp [b]⟩
    · cases h
mutual
theorem soundE : ∀ (p : PX) (X : Cx) (fnc : Option Scope) (e : Expr), XOk T n fnc X → okE T X.N fnc X.env.scope p e = true →
    PE X e (tD X.K (wE (callW T n) p)) ∧ PT X e (tDT X.K (wT (callW T n) p)) ∧ (isBoolP p = true → PW X e (tDT X.K (wT (callW T n) p)))
  | .var i, X, fnc, e, xo, h => by
    cases e with
    | Name x pos =>
      have h : (decide (X.N[i]? = some x) && visB X.env.scope x && !(x == ("__debug__" : Str)) && !(x == ("__classdict__" : Str))) = true := h
      simp only [Bool.and_eq_true, decide_eq_true_eq, Bool.not_eq_true'] at h
      obtain ⟨⟨⟨h1, h2⟩, h3⟩, h4⟩ := h
      refine ⟨PE.imp (pe_var h1 (vis_of h2) h3 h4) ?_, PT.none fun _ _ _ q => q, fun z => by cases z⟩
      rintro σ H Q ⟨φ, ι, σd, S, k, R, RE, w, P⟩
      have w : (match σd[i]? with
        | some (some d) => k d S
        | _ => False) := w
      split at w
      · rename_i d e
        obtain ⟨v, e1, r⟩ := RE.get i d e
        exact ⟨v, e1, P.here R w r⟩
      · exact w.elim
    | _ => cases h
  | .con x i, X, fnc, e, xo, h => by
    cases e with
    | Name y pos =>
      have h : (decide (x = y) && isG X.env.scope x && constIn T x i && !(x == ("__name__" : Str))) = true := h
      simp only [Bool.and_eq_true, decide_eq_true_eq, Bool.not_eq_true'] at h
      obtain ⟨⟨⟨rfl, h2⟩, h3⟩, h4⟩ := h
      obtain ⟨g1, g2⟩ := gl_of h2
      obtain ⟨t, e⟩ := xo.con x i h3
      exact ⟨PE.imp (pe_glob (v := .int i) g1 e ⟨t, rfl⟩ g2) fun σ H Q q => tD_const (d := .int i) rfl q, PT.none fun _ _ _ q => q, fun z => by cases z⟩
    | _ => cases h
  | .dat x d, X, fnc, e, xo, h => by
    cases e with
    | Name y pos =>
      have h : (decide (x = y) && isG X.env.scope x && datIn T x d && !(x == ("__name__" : Str))) = true := h
      simp only [Bool.and_eq_true, decide_eq_true_eq, Bool.not_eq_true'] at h
      obtain ⟨⟨⟨rfl, h2⟩, h3⟩, h4⟩ := h
      obtain ⟨g1, g2⟩ := gl_of h2
      obtain ⟨u, e, b⟩ := xo.dat x d h3
      obtain ⟨v, r, q⟩ := repB_ok b
      exact ⟨PE.imp (pe_glob (v := v) g1 e r g2) fun σ H Q z => tD_const (d := d) (fun {φ ι H} => q φ ι H) z, PT.none fun _ _ _ q => q, fun z => by cases z⟩
    | _ => cases h
  | .tab x ks ds i, X, fnc, e, xo, h => by
    cases e with
    | Subscript ea ei pos =>
      cases ea with
      | Name y py =>
        have h : (decide (x = y) && isG X.env.scope x && tabIn T x ks ds && !(x == ("__name__" : Str)) && okE T X.N fnc X.env.scope i ei && plainS ei) = true := h
        simp only [Bool.and_eq_true, decide_eq_true_eq, Bool.not_eq_true'] at h
        obtain ⟨⟨⟨⟨⟨rfl, h2⟩, h3⟩, h4⟩, h5⟩, h6⟩ := h
        obtain ⟨g1, g2⟩ := gl_of h2
        obtain ⟨a, e, b⟩ := xo.tab x ks ds h3
        refine ⟨PE.imp (pe_ix ix_tab (pe_glob (v := .ref a) g1 e rfl g2) (soundE i X fnc ei xo h5).1 (plainIx_of h6)) ?_, PT.none fun _ _ _ q => q, fun z => by cases z⟩
        rintro σ H Q ⟨φ, ι, σd, S, k, R, RE, w, P⟩
        refine ⟨φ, ι, σd, S, _, R, RE, w, fun d S1 ι1 H1 v hd E1 R1 r => ?_⟩
        have hd : tabW ks ds d S1 k := hd
        unfold tabW at hd
        split at hd
        · rename_i l hl
          split at hd
          · rename_i d2 hd2
            exact ⟨a, ks, ds, l, d2, rfl, leaf_rep r hl, b, hd2, fun v0 q => (P.step E1).here R1 hd (q _ _ _)⟩
          · exact hd.elim
        · exact hd.elim
      | _ => cases h
    | _ => cases h
  | .non, X, fnc, e, xo, h => by
    cases e with
    | Constant c j pos =>
      cases c with
      | none => exact ⟨PE.imp pe_non fun σ H Q q => tD_const (d := .non) rfl q, PT.none fun _ _ _ q => q, fun z => by cases z⟩
      | _ => cases h
    | _ => cases h
  | .bl b, X, fnc, e, xo, h => by
    cases e with
    | Constant c j pos =>
      cases c with
      | bool c =>
        have h : (b == c) = true := h
        rw [beq_iff_eq] at h
        subst h
        exact ⟨PE.imp pe_bl fun σ H Q q => tD_const (d := .bl b) rfl q, PT.none fun _ _ _ q => q, fun z => by cases z⟩
      | _ => cases h
    | _ => cases h
  | .int b, X, fnc, e, xo, h => by
    cases e with
    | Constant c j pos =>
      cases c with
      | int c =>
        have h : (b == c) = true := h
        rw [beq_iff_eq] at h
        subst h
        exact ⟨PE.imp pe_int fun σ H Q q => tD_const (d := .int b) rfl q, PT.none fun _ _ _ q => q, fun z => by cases z⟩
      | _ => cases h
    | _ => cases h
  | .str b, X, fnc, e, xo, h => by
    cases e with
    | Constant c j pos =>
      cases c with
      | str c =>
        have h : decide (b = c) = true := h
        have h := of_decide_eq_true h
        subst h
        exact ⟨PE.imp pe_str fun σ H Q q => tD_const (d := .str b) rfl q, PT.none fun _ _ _ q => q, fun z => by cases z⟩
      | _ => cases h
    | _ => cases h
  | .tup es, X, fnc, e, xo, h => by
    cases e with
    | Tuple xs j pos =>
      have h : (okEs T X.N fnc X.env.scope es xs && decide (es.length ≤ 1000)) = true := h
      simp only [Bool.and_eq_true, decide_eq_true_eq] at h
      refine ⟨PE.imp (pe_tup (soundEs es X fnc xs xo h.1)) ?_, PT.none fun _ _ _ q => q, fun z => by cases z⟩
      rintro σ H Q ⟨φ, ι, σd, S, k, R, RE, w, P⟩
      refine ⟨φ, ι, σd, S, fun ds S1 => ds.length = es.length ∧ k (.tup ds) S1, R, RE, wEs_len (callW_mono T n) _ _ _ _ w, fun ds S1 ι1 H1 vs hd E1 R1 r => ⟨?_, fun p hp => (P.step E1).tup R1 hd.2 r hp⟩⟩
      rw [reps_len r, hd.1]
      exact Nat.le_trans h.2 (by decide)
    | _ => cases h
  | .tupX es, X, fnc, e, xo, h => by
    cases e with
    | Tuple xs j pos =>
      have h : (okEs T X.N fnc X.env.scope es xs && decide (es.length ≤ 1000)) = true := h
      simp only [Bool.and_eq_true, decide_eq_true_eq] at h
      refine ⟨PE.imp (pe_tupX (soundEs es X fnc xs xo h.1)) ?_, PT.none fun _ _ _ q => q, fun z => by cases z⟩
      rintro σ H Q ⟨φ, ι, σd, S, k, R, RE, w, P⟩
      refine ⟨φ, ι, σd, S, fun ds S1 => ds.length = es.length ∧ k (.frt ds) S1, R, RE, wEs_len (callW_mono T n) _ _ _ _ w, fun ds S1 ι1 H1 vs hd E1 R1 r => ⟨?_, fun p o ho hp => (P.step E1).frt R1 hd.2 r ho hp⟩⟩
      rw [reps_len r, hd.1]
      exact Nat.le_trans h.2 (by decide)
    | _ => cases h
  | .ls es, X, fnc, e, xo, h => by
    cases e with
    | List xs pos =>
      have h : (okEs T X.N fnc X.env.scope es xs && decide (es.length ≤ 1000)) = true := h
      simp only [Bool.and_eq_true, decide_eq_true_eq] at h
      refine ⟨PE.imp (pe_lst (soundEs es X fnc xs xo h.1)) ?_, PT.none fun _ _ _ q => q, fun z => by cases z⟩
      rintro σ H Q ⟨φ, ι, σd, S, k, R, RE, w, P⟩
      refine ⟨φ, ι, σd, S, fun ds S1 => ds.length = es.length ∧ k (.ro ds) S1, R, RE, wEs_len (callW_mono T n) _ _ _ _ w, fun ds S1 ι1 H1 vs hd E1 R1 r => ⟨?_, fun p hp => (P.step E1).ro R1 hd.2 r hp⟩⟩
      rw [reps_len r, hd.1]
      exact Nat.le_trans h.2 (by decide)
    | _ => cases h
  | .mls es, X, fnc, e, xo, h => by
    cases e with
    | List xs pos =>
      have h : (okEs T X.N fnc X.env.scope es xs && decide (es.length ≤ 1000)) = true := h
      simp only [Bool.and_eq_true, decide_eq_true_eq] at h
      refine ⟨PE.imp (pe_lst (soundEs es X fnc xs xo h.1)) ?_, PT.none fun _ _ _ q => q, fun z => by cases z⟩
      rintro σ H Q ⟨φ, ι, σd, S, k, R, RE, w, P⟩
      refine ⟨φ, ι, σd, S, fun ds S1 => ds.length = es.length ∧ k (.ptr S1.length) (S1 ++ [ds]), R, RE, wEs_len (callW_mono T n) _ _ _ _ w, fun ds S1 ι1 H1 vs hd E1 R1 r => ⟨?_, fun p hp => (P.step E1).mls R1 hd.2 r hp⟩⟩
      rw [reps_len r, hd.1]
      exact Nat.le_trans h.2 (by decide)
    | _ => cases h
  | .bin op a b, X, fnc, e, xo, h => by
    cases e with
    | BinOp ea o eb pos =>
      have h : (decide (opOf op = o) && okE T X.N fnc X.env.scope a ea && okE T X.N fnc X.env.scope b eb) = true := h
      simp only [Bool.and_eq_true, decide_eq_true_eq] at h
      obtain ⟨⟨rfl, h1⟩, h2⟩ := h
      exact ⟨PE.imp (pe_op opB (soundE a X fnc ea xo h1).1 (soundE b X fnc eb xo h2).1) fun σ H Q q => tD_op (g := binW op) (fun R rx ry g P => bin_ok R rx ry g P) q, PT.none fun _ _ _ q => q, fun z => by cases z⟩
    | _ => cases h
  | .neg a, X, fnc, e, xo, h => by
    cases e with
    | UnaryOp o ea pos =>
      cases o with
      | USub =>
        have h : okE T X.N fnc X.env.scope a ea = true := h
        refine ⟨PE.imp (pe_un unB (soundE a X fnc ea xo h).1) fun σ H Q q => tD_un (g := fun x S1 k => match x with
          | .int i => k (.int (-i)) S1
          | _ => False) (fun {φ ι H S k Q x v} R rx g P => ?_) q, PT.none fun _ _ _ q => q, fun z => by cases z⟩
        cases x with
        | int i => exact neg_ok R rx g P
        | _ => exact (show False from g).elim
      | _ => cases h
    | _ => cases h
  | .notv a, X, fnc, e, xo, h => by
    cases e with
    | UnaryOp o ea pos =>
      cases o with
      | Not =>
        have h : okE T X.N fnc X.env.scope a ea = true := h
        refine ⟨PE.imp (pe_notT (soundE a X fnc ea xo h).1) fun σ H Q q => ?_, PT.imp (pt_not (soundE a X fnc ea xo h).2.1) fun σ H Q q => not_imp q, fun z => by cases z⟩
        obtain ⟨φ, ι, σd, S, k, R, RE, w, P⟩ := q
        refine ⟨φ, ι, σd, S, _, R, RE, w, fun d S1 ι1 H1 v hd E R1 r => ?_⟩
        obtain ⟨t, h1, h2⟩ := truth_ok R1 r hd
        exact ⟨t, h1, P _ _ _ _ _ h2 E R1 rfl⟩
      | _ => cases h
    | _ => cases h
  | .cmp op a b, X, fnc, e, xo, h => by
    cases e with
    | Compare ea os ebs pos =>
      match os, ebs, h with
      | [o], [eb], h =>
        have h : (decide (cpOf op = o) && okE T X.N fnc X.env.scope a ea && okE T X.N fnc X.env.scope b eb && !(behindInMarks o eb)) = true := h
        simp only [Bool.and_eq_true, decide_eq_true_eq, Bool.not_eq_true'] at h
        obtain ⟨⟨⟨rfl, h1⟩, h2⟩, h3⟩ := h
        have hu : X.A.units + 65 < cLine := by have := xo.room.un; omega
        exact ⟨PE.imp (pe_cmpR opB (soundE a X fnc ea xo h1).1 (soundE b X fnc eb xo h2).1 h3) fun σ H Q q => tD_op (g := cmpW op) (fun R rx ry g P => cmp_ok hu R rx ry g P) q,
          PT.imp (pt_cmpR opB (soundE a X fnc ea xo h1).1 (soundE b X fnc eb xo h2).1 h3) fun σ H Q q => tst_imp (g := cmpW op) (fun R rx ry g P => cmp_ok hu R rx ry g P) q, fun z => by cases z⟩
    | _ => cases h
  | .chain op op' a b c, X, fnc, e, xo, h => by
    cases e with
    | Compare ea os ebs pos =>
      match os, ebs, h with
      | [o, o'], [eb, ec], h =>
        have h : (decide (cpOf op = o) && decide (cpOf op' = o') && okE T X.N fnc X.env.scope a ea && okE T X.N fnc X.env.scope b eb && okE T X.N fnc X.env.scope c ec && !(lastMarks [o, o'] [eb, ec])) = true := h
        simp only [Bool.and_eq_true, decide_eq_true_eq, Bool.not_eq_true'] at h
        obtain ⟨⟨⟨⟨⟨rfl, rfl⟩, h1⟩, h2⟩, h3⟩, h4⟩ := h
        have hu : X.A.units + 65 < cLine := by have := xo.room.un; omega
        exact ⟨PE.imp (pe_chain opB opB (soundE a X fnc ea xo h1).1 (soundE b X fnc eb xo h2).1 (soundE c X fnc ec xo h3).1 h4) fun σ H Q q => chn_imp (g := cmpW op) (g' := cmpW op') (fun R rx ry g P => cmp_ok hu R rx ry g P) (fun R rx ry g P => cmp_ok hu R rx ry g P) q,
          PT.imp (pt_chain opB opB (soundE a X fnc ea xo h1).1 (soundE b X fnc eb xo h2).1 (soundE c X fnc ec xo h3).1 h4) fun σ H Q q => chnT_imp (g := cmpW op) (g' := cmpW op') (fun R rx ry g P => cmp_ok hu R rx ry g P) (fun R rx ry g P => cmp_ok hu R rx ry g P) q, fun z => by cases z⟩
    | _ => cases h
  | .andv a r, X, fnc, e, xo, h => by
    cases e with
    | BoolOp o es pos =>
      cases o with
      | And =>
        match es, h with
        | ea :: eb :: rest, h =>
          have h : (okE T X.N fnc X.env.scope a ea && okE T X.N fnc X.env.scope r (.BoolOp .And (eb :: rest) pos)) = true := h
          simp only [Bool.and_eq_true] at h
          have hr := soundE r X fnc _ xo h.2
          have hW := hr.2.2 (bool_of h.2)
          have pw := PW.imp (pw_and (pos := pos) (soundE a X fnc ea xo h.1).2.1 hW) fun σ H Q q => and_imp q
          refine ⟨PE.imp (pe_and (soundE a X fnc ea xo h.1).1 hr.1) ?_, pw.pt, fun _ => pw⟩
          rintro σ H Q ⟨φ, ι, σd, S, k, R, RE, w, P⟩
          refine ⟨φ, ι, σd, S, _, R, RE, w, fun d S1 ι1 H1 v hd E R1 rd => ?_⟩
          cases d with
          | bl t =>
            refine ⟨t, rd, ?_⟩
            cases t with
            | true =>
              rw [if_pos rfl]
              exact ⟨φ, ι1, σd, S1, k, R1, RE.mono E, hd, P.step E⟩
            | false =>
              rw [if_neg Bool.false_ne_true]
              exact P _ _ _ _ _ hd E R1 rfl
          | _ => exact (show False from hd).elim
      | _ => cases h
    | _ => cases h
  | .orv a r, X, fnc, e, xo, h => by
    cases e with
    | BoolOp o es pos =>
      cases o with
      | Or =>
        match es, h with
        | ea :: eb :: rest, h =>
          have h : (okE T X.N fnc X.env.scope a ea && okE T X.N fnc X.env.scope r (.BoolOp .Or (eb :: rest) pos)) = true := h
          simp only [Bool.and_eq_true] at h
          have hr := soundE r X fnc _ xo h.2
          have hW := hr.2.2 (bool_of h.2)
          have pw := PW.imp (pw_or (pos := pos) (soundE a X fnc ea xo h.1).2.1 hW) fun σ H Q q => or_imp q
          refine ⟨PE.imp (pe_or (soundE a X fnc ea xo h.1).1 hr.1) ?_, pw.pt, fun _ => pw⟩
          rintro σ H Q ⟨φ, ι, σd, S, k, R, RE, w, P⟩
          refine ⟨φ, ι, σd, S, _, R, RE, w, fun d S1 ι1 H1 v hd E R1 rd => ?_⟩
          cases d with
          | bl t =>
            refine ⟨t, rd, ?_⟩
            cases t with
            | true =>
              rw [if_pos rfl]
              exact P _ _ _ _ _ hd E R1 rfl
            | false =>
              rw [if_neg Bool.false_ne_true]
              exact ⟨φ, ι1, σd, S1, k, R1, RE.mono E, hd, P.step E⟩
          | _ => exact (show False from hd).elim
      | _ => cases h
    | _ => cases h
  | .one a, X, fnc, e, xo, h => by
    cases e with
    | BoolOp o es pos =>
      match es, h with
      | [ea], h =>
        have h : okE T X.N fnc X.env.scope a ea = true := h
        have q := soundE a X fnc ea xo h
        have pw : PW X (.BoolOp o [ea] pos) (tDT X.K (wT (callW T n) a)) := by
          cases o with
          | And => exact pw_and1 q.2.1
          | Or => exact pw_or1 q.2.1
        exact ⟨pe_one q.1, pw.pt, fun _ => pw⟩
    | _ => cases h
  | .tru a, X, fnc, e, xo, h => by
    have h : (okE T X.N fnc X.env.scope a e && plainT e) = true := h
    simp only [Bool.and_eq_true] at h
    have q := soundE a X fnc e xo h.1
    exact ⟨q.1, PT.imp (pt_truth q.1 (isTrue_of h.2)) fun σ H Q z => tru_imp z, fun z => by cases z⟩
  | .ite c a b, X, fnc, e, xo, h => by
    cases e with
    | IfExp ec ea eb pos =>
      have h : (okE T X.N fnc X.env.scope c ec && okE T X.N fnc X.env.scope a ea && okE T X.N fnc X.env.scope b eb) = true := h
      simp only [Bool.and_eq_true] at h
      obtain ⟨⟨h1, h2⟩, h3⟩ := h
      refine ⟨PE.imp (pe_ifExp (soundE c X fnc ec xo h1).2.1 (soundE a X fnc ea xo h2).1 (soundE b X fnc eb xo h3).1) ?_, PT.none fun _ _ _ q => q, fun z => by cases z⟩
      rintro σ H Q ⟨φ, ι, σd, S, k, R, RE, w, P⟩
      refine ⟨φ, ι, σd, S, _, R, RE, w, fun t S1 ι1 H1 ht E R1 => ?_⟩
      cases t with
      | true =>
        rw [if_pos rfl]
        exact ⟨φ, ι1, σd, S1, k, R1, RE.mono E, ht.1 rfl, P.step E⟩
      | false =>
        rw [if_neg Bool.false_ne_true]
        exact ⟨φ, ι1, σd, S1, k, R1, RE.mono E, ht.2 rfl, P.step E⟩
    | _ => cases h
  | .call f es, X, fnc, e, xo, h => by
    cases e with
    | Call ef xs kws pos =>
      cases ef with
      | Name x ps =>
        match xs, kws, h with
        | e0 :: xs, [], h =>
          have h : (callOk T f && decide (x = nameD T f) && isG X.env.scope x && okEs T X.N fnc X.env.scope es (e0 :: xs)) = true := h
          simp only [Bool.and_eq_true, decide_eq_true_eq] at h
          obtain ⟨⟨⟨h1, rfl⟩, h3⟩, h4⟩ := h
          obtain ⟨fa, fd, pn, m1, m2, m3, m4⟩ := (xo.fns f h1).ex
          obtain ⟨g1, g2⟩ := gl_of h3
          obtain ⟨s1, s2⟩ := star_cons (env := X.env) h4
          refine ⟨PE.imp (pe_call m4 xo.room g1 m1 m2 m3 .nil pass0 (soundEs es X fnc _ xo h4) g2 s1 (s2 pos)) ?_, PT.none fun _ _ _ q => q, fun z => by cases z⟩
          rintro σ H Q ⟨φ, ι, σd, S, k, R, RE, w, P⟩
          refine ⟨φ, ι, σd, S, _, R, RE, w, fun ds S1 ι1 H1 vs hd E R1 r => ?_⟩
          show spD X.K (callW T n f) (vs ++ []) H1 Q E0
          rw [List.append_nil]
          exact ⟨φ, ι1, S1, ds, k, R1, r, hd, P.step E⟩
      | _ => cases h
    | _ => cases h
  | .bi b es, X, fnc, e, xo, h => by
    cases e with
    | Call ef xs kws pos =>
      cases ef with
      | Name x ps =>
        match xs, kws, h with
        | e0 :: xs, [], h =>
          have h : (decide (x = Str.ofString (biN b)) && isG X.env.scope x && argsChk b (okEs T X.N fnc X.env.scope es) X.env.scope e0 xs) = true := h
          simp only [Bool.and_eq_true, decide_eq_true_eq] at h
          obtain ⟨⟨rfl, h3⟩, h4⟩ := h
          obtain ⟨g1, g2⟩ := gl_of h3
          refine ⟨?_, PT.none fun _ _ _ q => q, fun z => by cases z⟩
          by_cases hi : ∃ t, b = .isI t
          · obtain ⟨t, rfl⟩ := hi
            match xs, h4 with
            | [.Name y py], h4 =>
              have h4 : (decide (y = Str.ofString t) && isG X.env.scope y && decide (t ∈ ["int", "bool", "str", "tuple", "list"]) && okEs T X.N fnc X.env.scope es [e0]) = true := h4
              simp only [Bool.and_eq_true, decide_eq_true_eq] at h4
              obtain ⟨⟨⟨rfl, h5⟩, h6⟩, h7⟩ := h4
              obtain ⟨s1, s2⟩ := star_cons (env := X.env) h7
              have hl := (okEs_star (env := X.env) (pos := pos) h7).2.2
              match es, h7, hl with
              | [p], h7, hl =>
                have h7 : (plainA e0 && okE T X.N fnc X.env.scope p e0 && okEs T X.N fnc X.env.scope [] []) = true := h7
                simp only [Bool.and_eq_true] at h7
                have hc := nameCls xo (pos := py) h6 h5
                have ha := pa_cons (soundE p X fnc e0 xo h7.1.2).1 (pa_cons hc pa_nil rfl) (star_of _ h7.1.1)
                refine PE.imp (pe_callB (callB (X := X) (f := .builtin "isinstance")) g1 (xo.blt (.isI t)) (bi_gl (b := .isI t)) ha (bi_name (b := .isI t)) g2 (star_of _ h7.1.1) rfl) ?_
                rintro σ H Q ⟨φ, ι, σd, S, k, R, RE, w, P⟩
                refine ⟨φ, ι, σd, S, _, R, RE, w, fun d S1 ι1 H1 v hd E R1 r => ?_⟩
                have rr : reps X.K φ ι1 H1 [d] [v] := ⟨v, [], rfl, r, rfl⟩
                exact bi_ok (b := .isI t) xo.calm xo.room.units R1 rr hd (P.step E)
          · have h4 : okEs T X.N fnc X.env.scope es (e0 :: xs) = true := by
              cases b <;> first
                | exact h4
                | exact (hi ⟨_, rfl⟩).elim
            obtain ⟨s1, s2⟩ := star_cons (env := X.env) h4
            have hx : ∀ vs, biX b vs = vs := fun vs => by
              cases b <;> first
                | rfl
                | exact (hi ⟨_, rfl⟩).elim
            have pa := soundEs es X fnc _ xo h4
            have key : ∀ σ H Q, tD X.K (wE (callW T n) (.bi b es)) σ H Q → tCB (CallB X (biV b)) (tDs X.K (wEs (callW T n) es)) σ H Q := by
              rintro σ H Q ⟨φ, ι, σd, S, k, R, RE, w, P⟩
              refine ⟨φ, ι, σd, S, _, R, RE, w, fun ds S1 ι1 H1 vs hd E R1 r => ?_⟩
              have q := bi_ok (b := b) xo.calm xo.room.units R1 r hd (P.step E)
              rw [hx] at q
              exact q
            have hN := bi_name (b := b)
            have hB := bi_gl (b := b)
            have hM := xo.blt b
            generalize biN b = nm at g1 g2 hN hB hM
            cases b <;> first
              | exact PE.imp (pe_callB callB g1 hM hB pa hN g2 s1 (s2 pos)) key
              | exact PE.imp (pe_callTy callB g1 hM hB pa hN g2 s1 (s2 pos)) key
              | exact (hi ⟨_, rfl⟩).elim
      | _ => cases h
    | _ => cases h
  | .meth m o es, X, fnc, e, xo, h => by
    cases e with
    | Call ef xs kws cpos =>
      cases ef with
      | Attribute eo nm apos =>
        match kws, h with
        | [], h =>
          have h : (decide (nm = Str.ofString (mtN m)) && okE T X.N fnc X.env.scope o eo && plainO eo && okEs T X.N fnc X.env.scope es xs && (apos.endLine == cpos.line) && mthLen m xs) = true := h
          simp only [Bool.and_eq_true, decide_eq_true_eq] at h
          obtain ⟨⟨⟨⟨⟨rfl, h2⟩, h3⟩, h4⟩, h5⟩, h6⟩ := h
          refine ⟨?_, PT.none fun _ _ _ q => q, fun z => by cases z⟩
          have hO := (soundE o X fnc eo xo h2).1
          have hA := soundEs es X fnc xs xo h4
          exact meth_sound xo hO hA h3 h4 h5 h6
      | _ => cases h
    | _ => cases h
  | .lrg mu a, X, fnc, e, xo, h => by
    cases e with
    | Call ef xs kws pos =>
      cases ef with
      | Name x ps =>
        match xs, kws, h with
        | [e0], [], h =>
          have hh : (match unArg e0 with
            | some (y, e1) => decide (x = "list") && decide (y = "range") && isG X.env.scope x && isG X.env.scope y && plainA e1 && okE T X.N fnc X.env.scope a e1
            | none => false) = true := h
          clear h
          split at hh
          case h_2 => cases hh
          rename_i y e1 hu
          simp only [Bool.and_eq_true, decide_eq_true_eq] at hh
          obtain ⟨⟨⟨⟨⟨rfl, rfl⟩, h3⟩, h4⟩, h5⟩, h6⟩ := hh
          obtain ⟨py, p2, rfl⟩ := unArg_eq hu
          refine ⟨PE.imp (pe_listRg xo.calm (gl_of h3).1 (xo.blt .list) (prg_1 (gl_of h4).1 xo.rng (soundE a X fnc e1 xo h6).1 (star_of _ h5))) ?_, PT.none fun _ _ _ q => q, fun z => by cases z⟩
          rintro σ H Q ⟨φ, ι, σd, S, k, R, RE, w, P⟩
          refine ⟨φ, ι, σd, S, _, R, RE, w, fun d S1 ι1 H1 v hd E1 R1 r => ?_⟩
          cases d with
          | int m =>
            obtain rfl : v = .int m := r
            obtain ⟨hd1, hd2⟩ := hd
            refine ⟨m, rfl, ⟨by decide, by decide, hd1.1, by omega, by omega⟩, fun p hp => ?_⟩
            have rr := reps_rg (K := X.K) (φ := φ) (ι := ι1) (H := H1) m
            by_cases hm : mu = true
            · rw [if_pos hm] at hd2
              exact (P.step E1).mls R1 hd2 rr hp
            · rw [if_neg hm] at hd2
              exact (P.step E1).ro R1 hd2 rr hp
          | _ => exact (show False from hd).elim
      | _ => cases h
    | _ => cases h
  | .minN a, X, fnc, e, xo, h => by
    have h0 : (match minArg e with
      | some (y, e1) => decide (y = "min") && isG X.env.scope y && plainA e1 && okE T X.N fnc X.env.scope a e1
      | none => false) = true := h
    cases hm : minArg e with
    | none =>
      rw [hm] at h0
      cases h0
    | some ye =>
      obtain ⟨y, e1⟩ := ye
      rw [hm] at h0
      have h0 : (decide (y = "min") && isG X.env.scope y && plainA e1 && okE T X.N fnc X.env.scope a e1) = true := h0
      simp only [Bool.and_eq_true, decide_eq_true_eq] at h0
      obtain ⟨⟨⟨rfl, h2⟩, h3⟩, h4⟩ := h0
      obtain ⟨p, q, c1, c2, c3, rfl⟩ := minArg_eq hm
      obtain ⟨g1, g2⟩ := gl_of h2
      have hs := star_of (env := X.env) [] h3
      exact ⟨PE.imp (pe_callBK (cr_minD xo.calm) g1 (xo.blt .min) (bi_gl (b := .min)) (pa_cons (soundE a X fnc e1 xo h4).1 pa_nil hs) (pk_cons pe_non pk_nil) (bi_name (b := .min)) g2 (by rw [hs]; rfl) (by rw [hs]; rfl) rfl rfl rfl) fun σ H Q q => minN_imp q, PT.none fun _ _ _ q => q, fun z => by cases z⟩
  | .dct ks es, X, fnc, e, xo, h => by
    cases e with
    | Dict keys xs pos =>
      have h : (keysOk ks keys && okEs T X.N fnc X.env.scope es xs && decide (ks.length = es.length) && decide (ks.length ≤ 15) && !ks.isEmpty && decide ks.Nodup) = true := h
      simp only [Bool.and_eq_true, decide_eq_true_eq, Bool.not_eq_true'] at h
      obtain ⟨⟨⟨⟨⟨h1, h2⟩, h3⟩, h4⟩, h5⟩, h6⟩ := h
      obtain ⟨k1, k2⟩ := keysOk_all h1
      have k3 : keys ≠ [] := fun z => by
        rw [z] at k2
        cases ks with
        | nil => cases h5
        | cons _ _ => cases k2
      exact ⟨PE.imp (pe_disp (soundKs es X fnc ks keys xs pos xo h1 h2 h3).1 k1 (soundKs es X fnc ks keys xs pos xo h1 h2 h3).2 k3 (by omega)) fun σ H Q q => disp_imp h3 h4 h6 q, PT.none fun _ _ _ q => q, fun z => by cases z⟩
    | _ => cases h
  | .idx a i, X, fnc, e, xo, h => by
    cases e with
    | Subscript ea ei pos =>
      have h : (okE T X.N fnc X.env.scope a ea && okE T X.N fnc X.env.scope i ei && plainS ei) = true := h
      simp only [Bool.and_eq_true] at h
      exact ⟨PE.imp (pe_ix ixB (soundE a X fnc ea xo h.1.1).1 (soundE i X fnc ei xo h.1.2).1 (plainIx_of h.2)) fun σ H Q q => tD_op (g := idxW) (fun R rx ry g P => idx_ok xo.room.units R rx ry g P) q, PT.none fun _ _ _ q => q, fun z => by cases z⟩
    | _ => cases h
  | .slc a lo hi, X, fnc, e, xo, h => by
    cases e with
    | Subscript ea es pos =>
      cases es with
      | Slice elo ehi est p2 =>
        match est, h with
        | none, h =>
          have h : (okE T X.N fnc X.env.scope a ea && okO T X.N fnc X.env.scope lo elo && okO T X.N fnc X.env.scope hi ehi) = true := h
          simp only [Bool.and_eq_true] at h
          refine ⟨PE.imp (pe_slice slB (soundE a X fnc ea xo h.1.1).1 (soundO lo X fnc elo xo h.1.2) (soundO hi X fnc ehi xo h.2)) ?_, PT.none fun _ _ _ q => q, fun z => by cases z⟩
          rintro σ H Q ⟨φ, ι, σd, S, k, R, RE, w, P⟩
          refine ⟨φ, ι, σd, S, _, R, RE, w, fun d S1 ι1 H1 v hd E1 R1 rd => ⟨φ, ι1, σd, S1, _, R1, RE.mono E1, hd, fun l S2 ι2 H2 hl E2 R2 => ⟨φ, ι2, σd, S2, _, R2, RE.mono (E1.trans E2), hl, fun u S3 ι3 H3 hu E3 R3 => ?_⟩⟩⟩
          exact slc_ok R3 (rep_mono (E2.trans E3) _ _ rd) hu (P.step (E1.trans (E2.trans E3)))
      | _ => exact absurd h (by simp [okE])
    | _ => cases h
  | .dcomp kx vx p own rng src cond, X, fnc, e, xo, h => by
    refine ⟨?_, PT.none fun _ _ _ q => q, fun z => by cases z⟩
    obtain ⟨ekx, evx, tg, iter, ifs, scope, pos, rfl, h1, h2, h3, h3', h4, h5, h5', h6⟩ := okDc h
    have hb : ∀ (s : Shared) (H : Hp) (C : Addr) (cl : List (Str × Addr)) (fp : List Addr), XOk T n (some scope) (X.blk s H scope (compEnvC scope cl C X.env) fp) := fun s H C cl fp => xo.blk
    have hI : PI X tg iter (tDI X.K (wI (callW T n) rng src)) := by
      cases rng with
      | rg => exact rng_sound xo (fun xs z => soundEs src X fnc xs xo z) h5
      | en => exact en_sound xo (fun xs z => soundEs src X fnc xs xo z) h5 (enTp_tg h2 h5')
      | zp => exact zp_sound xo (fun xs z => soundEs src X fnc xs xo z) h5 (zpTp_tg h2 h5')
      | sq =>
        match src, h5 with
        | [q], h5 =>
          have h5 : (plainA iter && okE T X.N fnc X.env.scope q iter && okEs T X.N fnc X.env.scope [] []) = true := h5
          simp only [Bool.and_eq_true] at h5
          exact PI.imp (pi_seq (soundE q X fnc iter xo h5.1.2).1) fun σ H Q z => seq_imp z
    have hT : ∀ (s : Shared) (H : Hp) (C : Addr) (cl : List (Str × Addr)) (fp : List Addr), PTs (X.blk s H scope (compEnvC scope cl C X.env) fp) ifs (tDT X.K (wC (callW T n) cond)) := fun s H C cl fp =>
      soundC cond (X.blk s H scope (compEnvC scope cl C X.env) fp) (some scope) ifs (hb s H C cl fp) h6
    exact PE.imp (pe_dc (own := own) xo.calm xo.nd hI (blkOk_by h1) (fun s H C cl fp => soundP (hb s H C cl fp) p tg h2) hT
      (fun s H C cl fp => (soundE kx (X.blk s H scope (compEnvC scope cl C X.env) fp) (some scope) ekx (hb s H C cl fp) h3).1)
      (fun s H C cl fp => (soundE vx (X.blk s H scope (compEnvC scope cl C X.env) fp) (some scope) evx (hb s H C cl fp) h3').1) (fold_of h4)) fun σ H Q q => dcomp_imp q
  | .comp mu elt p own rng src cond, X, fnc, e, xo, h => by
    refine ⟨?_, PT.none fun _ _ _ q => q, fun z => by cases z⟩
    obtain ⟨eelt, tg, iter, ifs, scope, pos, rfl, h1, h2, h3, h4, h5, h5', h6⟩ := okComp h
    have hb : ∀ (s : Shared) (H : Hp) (C : Addr) (cl : List (Str × Addr)) (fp : List Addr), XOk T n (some scope) (X.blk s H scope (compEnvC scope cl C X.env) fp) := fun s H C cl fp => xo.blk
    have hI : PI X tg iter (tDI X.K (wI (callW T n) rng src)) := by
      cases rng with
      | rg => exact rng_sound xo (fun xs z => soundEs src X fnc xs xo z) h5
      | en => exact en_sound xo (fun xs z => soundEs src X fnc xs xo z) h5 (enTp_tg h2 h5')
      | zp => exact zp_sound xo (fun xs z => soundEs src X fnc xs xo z) h5 (zpTp_tg h2 h5')
      | sq =>
        match src, h5 with
        | [q], h5 =>
          have h5 : (plainA iter && okE T X.N fnc X.env.scope q iter && okEs T X.N fnc X.env.scope [] []) = true := h5
          simp only [Bool.and_eq_true] at h5
          exact PI.imp (pi_seq (soundE q X fnc iter xo h5.1.2).1) fun σ H Q z => seq_imp z
    have hT : ∀ (s : Shared) (H : Hp) (C : Addr) (cl : List (Str × Addr)) (fp : List Addr), PTs (X.blk s H scope (compEnvC scope cl C X.env) fp) ifs (tDT X.K (wC (callW T n) cond)) := fun s H C cl fp =>
      soundC cond (X.blk s H scope (compEnvC scope cl C X.env) fp) (some scope) ifs (hb s H C cl fp) h6
    exact PE.imp (pe_lc (own := own) xo.calm xo.nd hI (blkOk_by h1) (fun s H C cl fp => soundP (hb s H C cl fp) p tg h2) hT
      (fun s H C cl fp => (soundE elt (X.blk s H scope (compEnvC scope cl C X.env) fp) (some scope) eelt (hb s H C cl fp) h3).1) (fold_of h4)) fun σ H Q q => comp_imp q
  | .comp2 elt p own rng src cond vs1 p1 rng1 src1 cond1, X, fnc, e, xo, h => by
    refine ⟨?_, PT.none fun _ _ _ q => q, fun z => by cases z⟩
    obtain ⟨eelt, tg, iter, ifs, tg1, iter1, ifs1, scope, pos, rfl, h1, h2, h3, h4, h5, h6, h7, h8, h9, h10, h11, h12, h13⟩ := okComp2 h
    have hb : ∀ (s : Shared) (H : Hp) (C : Addr) (cl : List (Str × Addr)) (fp : List Addr), XOk T n (some scope) (X.blk s H scope (compEnvC scope cl C X.env) fp) := fun s H C cl fp => xo.blk
    have hI : PI X tg iter (tDI X.K (wI (callW T n) rng src)) := by
      cases rng with
      | rg => exact rng_sound xo (fun xs z => soundEs src X fnc xs xo z) h7
      | en => exact en_sound xo (fun xs z => soundEs src X fnc xs xo z) h7 (enTp_tg h2 h8)
      | zp => exact zp_sound xo (fun xs z => soundEs src X fnc xs xo z) h7 (zpTp_tg h2 h8)
      | sq =>
        match src, h7 with
        | [q], h7 =>
          have h7 : (plainA iter && okE T X.N fnc X.env.scope q iter && okEs T X.N fnc X.env.scope [] []) = true := h7
          simp only [Bool.and_eq_true] at h7
          exact PI.imp (pi_seq (soundE q X fnc iter xo h7.1.2).1) fun σ H Q z => seq_imp z
    have hI1 : ∀ (s : Shared) (H : Hp) (C : Addr) (cl : List (Str × Addr)) (fp : List Addr), PI (X.blk s H scope (compEnvC scope cl C X.env) fp) tg1 iter1 (tDI X.K (wI (callW T n) rng1 src1)) := fun s H C cl fp => by
      cases rng1 with
      | rg => exact rng_sound (hb s H C cl fp) (fun xs z => soundEs src1 (X.blk s H scope (compEnvC scope cl C X.env) fp) (some scope) xs (hb s H C cl fp) z) h10
      | en => exact en_sound (hb s H C cl fp) (fun xs z => soundEs src1 (X.blk s H scope (compEnvC scope cl C X.env) fp) (some scope) xs (hb s H C cl fp) z) h10 (enTp_tg h3 h11)
      | zp => exact zp_sound (hb s H C cl fp) (fun xs z => soundEs src1 (X.blk s H scope (compEnvC scope cl C X.env) fp) (some scope) xs (hb s H C cl fp) z) h10 (zpTp_tg h3 h11)
      | sq =>
        match src1, h10 with
        | [q], h10 =>
          have h10 : (plainA iter1 && okE T X.N (some scope) (relS scope X.env.scope) q iter1 && okEs T X.N (some scope) (relS scope X.env.scope) [] []) = true := h10
          simp only [Bool.and_eq_true] at h10
          exact PI.imp (pi_seq (soundE q (X.blk s H scope (compEnvC scope cl C X.env) fp) (some scope) iter1 (hb s H C cl fp) h10.1.2).1) fun σ H Q z => seq_imp z
    exact PE.imp (pe_lc2 (own := own) (vs1 := vs1) xo.calm xo.nd hI (blkOk_by h1) h13 (fun s H C cl fp => soundP (hb s H C cl fp) p tg h2)
      (fun s H C cl fp => soundC cond (X.blk s H scope (compEnvC scope cl C X.env) fp) (some scope) ifs (hb s H C cl fp) h9) hI1
      (fun s H C cl fp => soundP (hb s H C cl fp) p1 tg1 h3)
      (fun s H C cl fp => soundC cond1 (X.blk s H scope (compEnvC scope cl C X.env) fp) (some scope) ifs1 (hb s H C cl fp) h12)
      (fun s H C cl fp => (soundE elt (X.blk s H scope (compEnvC scope cl C X.env) fp) (some scope) eelt (hb s H C cl fp) h4).1) (fold_of h5) (fun env => fold_of h6)) fun σ H Q q => comp2_imp q
theorem soundEs : ∀ (ps : List PX) (X : Cx) (fnc : Option Scope) (es : List Expr), XOk T n fnc X → okEs T X.N fnc X.env.scope ps es = true → PA X es (tDs X.K (wEs (callW T n) ps))
  | [], X, fnc, es, xo, h => by
    cases es with
    | nil =>
      refine PA.imp pa_nil ?_
      rintro σ H Q ⟨φ, ι, σd, S, k, R, RE, w, P⟩
      exact P _ _ _ _ _ w .refl R rfl
    | cons _ _ => cases h
  | p :: ps, X, fnc, es, xo, h => by
    cases es with
    | nil => cases h
    | cons e es =>
      have h : (plainA e && okE T X.N fnc X.env.scope p e && okEs T X.N fnc X.env.scope ps es) = true := h
      simp only [Bool.and_eq_true] at h
      exact PA.consD (soundE p X fnc e xo h.1.2).1 (soundEs ps X fnc es xo h.2) (star_of es h.1.1)
theorem soundKs : ∀ (ps : List PX) (X : Cx) (fnc : Option Scope) (ks : List Key) (keys : List (Option Expr)) (es : List Expr) (pos : Pos), XOk T n fnc X → keysOk ks keys = true → okEs T X.N fnc X.env.scope ps es = true → ks.length = ps.length →
    PPs X pos keys es (trsOf X.K (callW T n) ks ps) ∧ keys.length = es.length
  | [], X, fnc, ks, keys, es, pos, xo, h1, h2, h3 => by
    match ks, keys, es, h1, h2, h3 with
    | [], [], [], _, _, _ => exact ⟨pps_nil, rfl⟩
  | p :: ps, X, fnc, ks, keys, es, pos, xo, h1, h2, h3 => by
    match ks, es, h1, h2, h3 with
    | k :: ks, e :: es, h1, h2, h3 =>
      have h2 : (plainA e && okE T X.N fnc X.env.scope p e && okEs T X.N fnc X.env.scope ps es) = true := h2
      simp only [Bool.and_eq_true] at h2
      match k, keys, h1 with
      | .inr s, some (.Constant (.str t) a b) :: keys, h1 =>
        have h1 : (decide (s = t) && keysOk ks keys) = true := h1
        simp only [Bool.and_eq_true, decide_eq_true_eq] at h1
        obtain ⟨rfl, hk⟩ := h1
        have ih := soundKs ps X fnc ks keys es pos xo hk h2.2 (Nat.succ.inj h3)
        exact ⟨pps_cons pe_str (soundE p X fnc e xo h2.1.2).1 ih.1, by simp [ih.2]⟩
      | .inl s, some (.Constant (.int t) a b) :: keys, h1 =>
        have h1 : (s == t && keysOk ks keys) = true := h1
        rw [Bool.and_eq_true] at h1
        obtain ⟨h0, hk⟩ := h1
        obtain rfl := eq_of_beq h0
        have ih := soundKs ps X fnc ks keys es pos xo hk h2.2 (Nat.succ.inj h3)
        exact ⟨pps_cons pe_int (soundE p X fnc e xo h2.1.2).1 ih.1, by simp [ih.2]⟩
theorem soundC : ∀ (o : Option PX) (X : Cx) (fnc : Option Scope) (ifs : List Expr), XOk T n fnc X → okC T X.N fnc X.env.scope o ifs = true → PTs X ifs (tDT X.K (wC (callW T n) o))
  | none, X, fnc, ifs, xo, h => by
    cases ifs with
    | nil => exact PTs.impD pts_nil
    | cons _ _ => cases h
  | some p, X, fnc, ifs, xo, h => by
    match ifs, h with
    | [e], h => exact pts_one (soundE p X fnc e xo h).2.1
theorem soundO : ∀ (o : Option PX) (X : Cx) (fnc : Option Scope) (e : Option Expr), XOk T n fnc X → okO T X.N fnc X.env.scope o e = true → PO X e (tDO X.K (wO (callW T n) o))
  | none, X, fnc, e, xo, h => by
    cases e with
    | none =>
      refine PO.imp po_none ?_
      rintro σ H Q ⟨φ, ι, σd, S, k, R, RE, w, P⟩
      exact P _ _ _ _ w .refl R
    | some _ => cases h
  | some p, X, fnc, e, xo, h => by
    cases e with
    | none => cases h
    | some e =>
      have h : okE T X.N fnc X.env.scope p e = true := h
      refine PO.imp (po_some (soundE p X fnc e xo h).1) ?_
      rintro σ H Q ⟨φ, ι, σd, S, k, R, RE, w, P⟩
      refine ⟨φ, ι, σd, S, _, R, RE, w, fun d S1 ι1 H1 v hd E R1 r => ?_⟩
      cases d with
      | int i => exact ⟨i, r, P _ _ _ _ hd E R1⟩
      | _ => exact (show False from hd).elim
end
theorem iter_sound {X : Cx} {fnc : Option Scope} (xo : XOk T n fnc X) {tg iter : Expr} {rng : IK} {src : List PX} (h5 : iterChk (okEs T X.N fnc X.env.scope src) X.env.scope rng (src.length == 1) iter = true) (ht : rng = .en ∨ rng = .zp → ∃ es k pos, tg = .Tuple es k pos) : PI X tg iter (tDI X.K (wI (callW T n) rng src)) := by
  cases rng with
  | rg => exact rng_sound xo (fun xs z => soundEs src X fnc xs xo z) h5
  | en => exact en_sound xo (fun xs z => soundEs src X fnc xs xo z) h5 (ht (.inl rfl))
  | zp => exact zp_sound xo (fun xs z => soundEs src X fnc xs xo z) h5 (ht (.inr rfl))
  | sq =>
    match src, h5 with
    | [q], h5 =>
      have h5 : (plainA iter && okE T X.N fnc X.env.scope q iter && okEs T X.N fnc X.env.scope [] []) = true := h5
      simp only [Bool.and_eq_true] at h5
      exact PI.imp (pi_seq (soundE q X fnc iter xo h5.1.2).1) fun σ H Q z => seq_imp z
theorem compParts {X : Cx} {fnc : Option Scope} (xo : XOk T n fnc X) {elt : PX} {p : PP} {own : List (Str × Nat)} {rng : IK} {src : List PX} {cond : Option PX} {eelt tg iter : Expr} {ifs : List Expr} {scope : Scope}
    (h2 : okP X.N (some scope) (relS scope X.env.scope) (own.map (·.2)) p tg = true) (h3 : okE T X.N (some scope) (relS scope X.env.scope) elt eelt = true)
    (h5 : iterChk (okEs T X.N fnc X.env.scope src) X.env.scope rng (src.length == 1) iter = true) (h5' : enTp rng p = true) (h6 : okC T X.N (some scope) (relS scope X.env.scope) cond ifs = true) :
    PI X tg iter (tDI X.K (wI (callW T n) rng src)) ∧
    (∀ (s : Shared) (H : Hp) (C : Addr) (cl : List (Str × Addr)) (fp : List Addr), PG (X.blk s H scope (compEnvC scope cl C X.env) fp) tg (tDG X.K (own.map (·.2)) (bindW p))) ∧
    (∀ (s : Shared) (H : Hp) (C : Addr) (cl : List (Str × Addr)) (fp : List Addr), PTs (X.blk s H scope (compEnvC scope cl C X.env) fp) ifs (tDT X.K (wC (callW T n) cond))) ∧
    (∀ (s : Shared) (H : Hp) (C : Addr) (cl : List (Str × Addr)) (fp : List Addr), PE (X.blk s H scope (compEnvC scope cl C X.env) fp) eelt (tD X.K (wE (callW T n) elt))) :=
  ⟨iter_sound xo h5 (fun e => by rcases e with e | e <;> subst e <;> first | exact enTp_tg h2 h5' | exact zpTp_tg h2 h5'), fun s H C cl fp => soundP (XOk.blk xo (s := s) (H := H) (cenv := compEnvC scope cl C X.env) (fp := fp)) p tg h2,
    fun s H C cl fp => soundC cond (X.blk s H scope (compEnvC scope cl C X.env) fp) (some scope) ifs xo.blk h6,
    fun s H C cl fp => (soundE elt (X.blk s H scope (compEnvC scope cl C X.env) fp) (some scope) eelt xo.blk h3).1⟩
end
end Ov
-- OvI
namespace Ov
open PySem PySem.Spec PyProof.Rows L2

/-! ### statements -/
/-- a comprehension that is no store of its own -/
def swF (sc : Scope) (tg : Option Expr) (e : Expr) : Bool :=
  match e with
  | .ListComp _ _ s lpos => match tg with
    | some (.Name t py) => !(decide (sc.names.lookup t = some .local) && py.line == lpos.line && !(s.names.any fun (n, k) => n == t && (k == .local || k == .cell)))
    | some _ => true
    | none => false
  | .SetComp .. => false
  | .DictComp .. => false
  | _ => true
def swT (sc : Scope) (tg : Expr) (e : Expr) : Bool :=
  match tg, e with
  | .Name t py, .ListComp _ _ s lpos => decide (sc.names.lookup t = some .local) && py.line == lpos.line && !(s.names.any fun (n, k) => n == t && (k == .local || k == .cell))
  | _, _ => false
def isTup : Expr → Bool
  | .Tuple .. => true
  | _ => false
def tupLen : Expr → Nat
  | .Tuple es _ _ => es.length
  | _ => 0
/-- no two or three names change places -/
def noSwap (tg e : Expr) : Bool := match tg with
  | .Name .. => true
  | .Tuple ts _ _ => !(isTup e) || decide (4 ≤ ts.length)
  | _ => false
def slots : PP → List Nat
  | .nm i => [i]
  | .tp ps => slotss ps
where slotss : List PP → List Nat
  | [] => []
  | p :: ps => slots p ++ slotss ps
def asgAlt (N : List Str) (sc : Scope) (p : PP) (tg : Expr) (e : PX) (ee : Expr) : Bool :=
  match p, tg, e with
  | .nm i, .Name y _, .comp .. => decide (N[i]? = some y) && swT sc tg ee
  | _, _, _ => false
def augOk (op : BOp) (o : Operator) : Bool :=
  match op, o with
  | .add, .Add => true
  | .sub, .Sub => true
  | _, _ => false
def swD (sc : Scope) (tg : Expr) (e : Expr) : Bool :=
  match tg, e with
  | .Name t py, .DictComp _ _ _ s lpos => decide (sc.names.lookup t = some .local) && py.line == lpos.line && !(s.names.any fun (n, k) => n == t && (k == .local || k == .cell))
  | _, _ => false
def asgDc (N : List Str) (sc : Scope) (p : PP) (tg : Expr) (e : PX) (ee : Expr) : Bool :=
  match p, tg, e with
  | .nm i, .Name y _, .dcomp .. => decide (N[i]? = some y) && swD sc tg ee
  | _, _, _ => false
theorem asgDc_of {N : List Str} {sc : Scope} {p : PP} {tg : Expr} {e : PX} {ee : Expr} (h : asgDc N sc p tg e ee = true) :
    ∃ i y py kx vx pp own rng src cond, p = .nm i ∧ tg = .Name y py ∧ e = .dcomp kx vx pp own rng src cond ∧ N[i]? = some y ∧ swD sc tg ee = true := by
  cases p with
  | nm i =>
    cases tg with
    | Name y py =>
      cases e with
      | dcomp kx vx pp own rng src cond =>
        have h : (decide (N[i]? = some y) && swD sc (.Name y py) ee) = true := h
        rw [Bool.and_eq_true, decide_eq_true_eq] at h
        exact ⟨i, y, py, kx, vx, pp, own, rng, src, cond, rfl, rfl, rfl, h.1, h.2⟩
      | _ => cases h
    | _ => cases h
  | tp _ => cases h
theorem asgAlt_of {N : List Str} {sc : Scope} {p : PP} {tg : Expr} {e : PX} {ee : Expr} (h : asgAlt N sc p tg e ee = true) :
    ∃ i y py mu elt pp own rng src cond, p = .nm i ∧ tg = .Name y py ∧ e = .comp mu elt pp own rng src cond ∧ N[i]? = some y ∧ swT sc tg ee = true := by
  cases p with
  | nm i =>
    cases tg with
    | Name y py =>
      cases e with
      | comp mu elt pp own rng src cond =>
        have h : (decide (N[i]? = some y) && swT sc (.Name y py) ee) = true := h
        rw [Bool.and_eq_true, decide_eq_true_eq] at h
        exact ⟨i, y, py, mu, elt, pp, own, rng, src, cond, rfl, rfl, rfl, h.1, h.2⟩
      | _ => cases h
    | _ => cases h
  | tp _ => cases h
/-- two or three names change places -/
def parNs (sc : Scope) (ts : List Expr) : List Str :=
  let line := (ts.head?.map (·.pos.line)).getD 0
  ts.filterMap fun
    | .Name id pos => if (sc.names.lookup id == some NameKind.local) && pos.line == line then some id else none
    | _ => none
def parOk (sc : Scope) (ts vs : List Expr) : Bool :=
  (ts.length == 2 || ts.length == 3) && decide (vs.length = ts.length) && !(vs.any fun | .Starred .. => true | _ => false) && decide ((parNs sc ts).length = ts.length) && decide ((parNs sc ts).eraseDups.length = (parNs sc ts).length) &&
  !(vs.all (foldedForSure 8)) && !(vs.all (constantsAlone 8))
theorem par_of {env : PySem.Env} {ts vs : List Expr} {kt k2} {pt pt2 : Pos} (h : parOk env.scope ts vs = true) (hk : env.scope.kind = .function) : swappedStores [.Tuple ts kt pt] (.Tuple vs k2 pt2) env = pure (some (parNs env.scope ts)) := by
  have hb : (env.blockKind != ScopeKind.function) = false := by unfold Env.blockKind; rw [hk]; rfl
  unfold parOk at h
  simp only [Bool.and_eq_true, decide_eq_true_eq, Bool.not_eq_true'] at h
  obtain ⟨⟨⟨⟨⟨⟨h1, h2⟩, h3⟩, h4⟩, h5⟩, h6⟩, h7⟩ := h
  have e1 : (!(ts.length == 2 || ts.length == 3) || vs.length != ts.length || env.blockKind != ScopeKind.function) = false := by
    rw [h1, hb, h2]
    simp
  have e4 : ((parNs env.scope ts).length != ts.length || (parNs env.scope ts).eraseDups.length != (parNs env.scope ts).length) = false := by
    rw [h5, h4]
    simp
  show (do
    if (!(ts.length == 2 || ts.length == 3) || vs.length != ts.length || env.blockKind != ScopeKind.function) = true then return none
    if (vs.any fun | .Starred .. => true | _ => false) = true then return none
    if ((parNs env.scope ts).length != ts.length || (parNs env.scope ts).eraseDups.length != (parNs env.scope ts).length) = true then return none
    if vs.all (foldedForSure 8) = true then return none
    if vs.all (constantsAlone 8) = true then unsupported "assign.tuple-of-constant-expressions:order-of-the-stores"
    return some (parNs env.scope ts) : Sem (Option (List Str))) = _
  rw [e1, h3, e4, h6, h7]
  rfl
/-- a local name's slot -/
def atN (N : List Str) (sc : Scope) (i : Nat) (e : Expr) : Bool := match e with
  | .Name x _ => decide (N[i]? = some x) && decide (sc.names.lookup x = some .local)
  | _ => false
theorem atN_of {N : List Str} {sc : Scope} {i : Nat} {e : Expr} (h : atN N sc i e = true) : ∃ x p, e = .Name x p ∧ N[i]? = some x ∧ sc.names.lookup x = some .local := by
  unfold atN at h
  split at h
  · simp only [Bool.and_eq_true, decide_eq_true_eq] at h
    exact ⟨_, _, rfl, h.1, h.2⟩
  · cases h
theorem parNs2 {sc : Scope} {x y : Str} {p q : Pos} (h : (parNs sc [.Name x p, .Name y q]).length = 2) : parNs sc [.Name x p, .Name y q] = [x, y] := by
  have e : parNs sc [.Name x p, .Name y q] = [Expr.Name x p, .Name y q].filterMap (fun
    | .Name id pos => if (sc.names.lookup id == some NameKind.local) && pos.line == p.line then some id else none
    | _ => none) := rfl
  rw [e] at h ⊢
  simp only [List.filterMap_cons, List.filterMap_nil] at h ⊢
  split at h <;> split at h <;> simp_all
theorem parNs3 {sc : Scope} {x y z : Str} {p q r : Pos} (h : (parNs sc [.Name x p, .Name y q, .Name z r]).length = 3) : parNs sc [.Name x p, .Name y q, .Name z r] = [x, y, z] := by
  have e : parNs sc [.Name x p, .Name y q, .Name z r] = [Expr.Name x p, .Name y q, .Name z r].filterMap (fun
    | .Name id pos => if (sc.names.lookup id == some NameKind.local) && pos.line == p.line then some id else none
    | _ => none) := rfl
  rw [e] at h ⊢
  simp only [List.filterMap_cons, List.filterMap_nil] at h ⊢
  split at h <;> split at h <;> split at h <;> simp_all
mutual
def okS (T : List DDef) (N : List Str) (sc : Scope) : PSt → Stmt → Bool
  | .asg p e, st => match st with
    | .Assign [tg] ee _ => okE T N none sc e ee && ((okP N none sc (List.range N.length) p tg && swF sc (some tg) ee && noSwap tg ee) || (asgAlt N sc p tg e ee || asgDc N sc p tg e ee))
    | _ => false
  | .sub o i e, st => match st with
    | .Assign [.Subscript eo ei _] ee _ => okE T N none sc e ee && okE T N none sc o eo && okE T N none sc i ei && swF sc (some (.Subscript eo ei ⟨0, 0, 0, 0⟩)) ee && plainS ei
    | _ => false
  | .augS o i op e, st => match st with
    | .AugAssign (.Subscript eo ei _) oo ee _ => okE T N none sc o eo && okE T N none sc i ei && okE T N none sc e ee && augOk op oo && plainS ei
    | _ => false
  | .par i j a b, st => match st with
    | .Assign [.Tuple ts _ _] (.Tuple vs _ _) _ => okEs T N none sc [a, b] vs && parOk sc ts vs && decide (ts.length = 2) && atN N sc i (ts.getD 0 (.Constant .none 0 ⟨0, 0, 0, 0⟩)) && atN N sc j (ts.getD 1 (.Constant .none 0 ⟨0, 0, 0, 0⟩)) && decide (i ≠ j)
    | _ => false
  | .par3 i j l a b c, st => match st with
    | .Assign [.Tuple ts _ _] (.Tuple vs _ _) _ => okEs T N none sc [a, b, c] vs && parOk sc ts vs && decide (ts.length = 3) && atN N sc i (ts.getD 0 (.Constant .none 0 ⟨0, 0, 0, 0⟩)) && atN N sc j (ts.getD 1 (.Constant .none 0 ⟨0, 0, 0, 0⟩)) && atN N sc l (ts.getD 2 (.Constant .none 0 ⟨0, 0, 0, 0⟩)) && decide (i ≠ j ∧ i ≠ l ∧ j ≠ l)
    | _ => false
  | .aug i op e, st => match st with
    | .AugAssign (.Name x _) o ee _ => decide (N[i]? = some x) && locB none sc x && augOk op o && okE T N none sc e ee
    | _ => false
  | .expr e, st => match st with
    | .Expr ee _ => okE T N none sc e ee && swF sc none ee
    | _ => false
  | .ret e, st => match st with
    | .Return (some ee) _ => okE T N none sc e ee
    | _ => false
  | .retN, st => match st with
    | .Return none _ => true
    | _ => false
  | .ite c t e, st => match st with
    | .If ec a b _ => okE T N none sc c ec && okSs T N sc t a && okSs T N sc e b
    | _ => false
  | .forS p rng src b, st => match st with
    | .For tg iter body [] _ => okP N none sc (List.range N.length) p tg && plainI iter && iterChk (okEs T N none sc src) sc rng (src.length == 1) iter && enTp rng p && okSs T N sc b body
    | _ => false
  | .whil c b, st => match st with
    | .While ec body [] _ => okE T N none sc c ec && okSs T N sc b body
    | _ => false
  | .pass, st => match st with
    | .Pass _ => true
    | .Expr (.Constant (.str _) _ _) _ => true
    | _ => false
  | .brk, st => match st with
    | .Break _ => true
    | _ => false
  | .cont, st => match st with
    | .Continue _ => true
    | _ => false
  | .bad, _ => true
termination_by structural p => p
def okSs (T : List DDef) (N : List Str) (sc : Scope) : List PSt → List Stmt → Bool
  | [], sts => sts.isEmpty
  | p :: ps, sts => match sts with
    | [] => false
    | st :: sts => okS T N sc p st && okSs T N sc ps sts
termination_by structural p => p
end

structure EndsOk (K : PySem.W.Frag) (φ ι : List Addr) (H : Hp) (E : DEnds) (D : Ends) : Prop where
  nx : ∀ σd S' ι' H' σ, E.nx σd S' → Ext ι H ι' H' → RelS K φ ι' H' S' → RelE K φ ι' H' σd σ → D.nx σ H'
  rt : Post K φ ι H E.rt D.rt
  bk : ∀ σd S' ι' H' σ, E.bk σd S' → Ext ι H ι' H' → RelS K φ ι' H' S' → RelE K φ ι' H' σd σ → D.bk σ H'
  ct : ∀ σd S' ι' H' σ, E.ct σd S' → Ext ι H ι' H' → RelS K φ ι' H' S' → RelE K φ ι' H' σd σ → D.ct σ H'
theorem EndsOk.step {K : PySem.W.Frag} {φ ι ι' : List Addr} {H H' : Hp} {E : DEnds} {D : Ends} (o : EndsOk K φ ι H E D) (e : Ext ι H ι' H') : EndsOk K φ ι' H' E D :=
  ⟨fun σd S ι2 H2 σ h e2 => o.nx σd S ι2 H2 σ h (e.trans e2), o.rt.step e, fun σd S ι2 H2 σ h e2 => o.bk σd S ι2 H2 σ h (e.trans e2), fun σd S ι2 H2 σ h e2 => o.ct σd S ι2 H2 σ h (e.trans e2)⟩
def tDS (K : PySem.W.Frag) (w : DEnv → Sto → DEnds → Prop) : TS := fun D σ H => ∃ φ ι σd S E, RelS K φ ι H S ∧ RelE K φ ι H σd σ ∧ w σd S E ∧ EndsOk K φ ι H E D

structure XOkS (T : List DDef) (n : Nat) (X : Cx) : Prop extends XOk T n none X where
  kind : X.env.scope.kind = .function
  own : PassesOwn (model X.prog X.w) X.A X.env X.xe

theorem swF_of {env : PySem.Env} {tg : Option Expr} {e : Expr} {l : Nat} (h : swF env.scope tg e = true) (hk : env.scope.kind = .function) : swapsWith e tg l env = pure false := by
  cases e with
  | ListComp elt gs s lpos =>
    cases tg with
    | none => cases h
    | some tg =>
      cases tg with
      | Name t py =>
        have h : (!(decide (env.scope.names.lookup t = some .local) && py.line == lpos.line && !(s.names.any fun (n, k) => n == t && (k == .local || k == .cell)))) = true := h
        have hb : env.blockKind = .function := by unfold Env.blockKind; rw [hk]; rfl
        show (pure (env.blockKind == .function && env.kindOf t == some .local && py.line == lpos.line && !(s.names.any fun (n, k) => n == t && (k == .local || k == .cell))) : Sem Bool) = pure false
        have e1 : (env.kindOf t == some NameKind.local) = decide (env.scope.names.lookup t = some .local) := by
          show (env.scope.names.lookup t == some NameKind.local) = _
          by_cases q : env.scope.names.lookup t = some NameKind.local
          · rw [q]
            rfl
          · rw [decide_eq_false q]
            cases z : env.scope.names.lookup t with
            | none => rfl
            | some k =>
              rw [z] at q
              cases k <;> first
                | rfl
                | exact (q rfl).elim
        rw [hb, e1]
        have e2 : ((ScopeKind.function == ScopeKind.function) && decide (env.scope.names.lookup t = some .local) && py.line == lpos.line && !(s.names.any fun (n, k) => n == t && (k == .local || k == .cell))) = (decide (env.scope.names.lookup t = some .local) && py.line == lpos.line && !(s.names.any fun (n, k) => n == t && (k == .local || k == .cell))) := rfl
        rw [e2]
        rw [Bool.not_eq_true'] at h
        rw [h]
      | _ => rfl
  | SetComp _ _ _ _ => cases h
  | DictComp _ _ _ _ _ => cases h
  | _ => rfl
theorem noSwap_of {env : PySem.Env} {tg e : Expr} (h : noSwap tg e = true) : swappedStores [tg] e env = pure none := by
  cases tg with
  | Name _ _ => cases e <;> rfl
  | Tuple ts k pos =>
    have h : (!(isTup e) || decide (4 ≤ ts.length)) = true := h
    cases e with
    | Tuple vs k2 pos2 =>
      have h : decide (4 ≤ ts.length) = true := by simpa [isTup] using h
      have h : 4 ≤ ts.length := of_decide_eq_true h
      unfold swappedStores
      have e2 : (ts.length == 2) = false := by simp; omega
      have e3 : (ts.length == 3) = false := by simp; omega
      simp only [e2, e3]
      rfl
    | _ => rfl
  | _ => cases h
theorem one_of {env : PySem.Env} {T : List DDef} {N : List Str} {sc : Scope} {vs : List Nat} {fnc : Option Scope} {p : PP} {tg : Expr} (h : okP N fnc sc vs p tg = true) : (assignEach [tg] env).map (·.2) = [assign tg env] := by
  cases p <;> cases tg <;> first
    | rfl
    | cases h

section
variable {T : List DDef} {n : Nat} {K : PySem.W.Frag} {C : Calls}
theorem forW_still {body : D → DEnv → Sto → DEnds → Prop} {src : Option Nat} {all xs : List D} {σ : DEnv} {S : Sto} {E : DEnds} (h : forW body src all xs σ S E) : still src all S := by
  cases xs with
  | nil => exact h.1
  | cons x xs => exact h.1
theorem for_imp {p : PP} {rng : IK} {src : List PX} {b : List PSt} {vs : List Nat} {D : Ends} {σ : L2.St} {H : Hp} (h : tDS K (wS C (.forS p rng src b)) D σ H) :
    tFor (tDI K (wI C rng src)) (tDG K vs (bindW p)) (tDS K (wSs C b)) D σ H := by
  obtain ⟨φ, ι, σd, S, E, RS, RE, w, q⟩ := h
  refine ⟨φ, ι, σd, S, fun xs sr S1 => True ∧ forW (fun x σ1 S2 E2 => bindW p x σ1 fun σ2 => wSs C b σ2 S2 E2) sr xs xs σd S1 E, RS, RE, w, ?_⟩
  intro xs sr S1 ι1 H1 J hc E1 R1 hJ
  have hc := hc.2
  generalize hbody : (fun (x : Ov.D) (σ1 : DEnv) (S2 : Sto) (E2 : DEnds) => bindW p x σ1 fun σ2 => wSs C b σ2 S2 E2) = body at hc
  refine ⟨fun i m σ2 H2 => ∃ ι2 σd2 S2, m = xs.length - i ∧ i ≤ xs.length ∧ RelS K φ ι2 H2 S2 ∧ Ext ι H ι2 H2 ∧ RelE K φ ι2 H2 σd2 σ2 ∧ JIs K φ J ι2 H2 xs sr ∧ forW body sr xs (xs.drop i) σd2 S2 E,
    ⟨xs.length, ι1, σd, S1, by simp, Nat.zero_le _, R1, E1, RE.mono E1, hJ, hc⟩, ?_⟩
  rintro i m σ2 H2 ⟨ι2, σd2, S2, rfl, hi, R2, E2, RE2, J2, hw⟩
  have st := forW_still hw
  cases hd : xs.drop i with
  | nil =>
    have hi2 : xs.length ≤ i := by
      have := congrArg List.length hd
      simp at this
      omega
    rw [hd] at hw
    exact .inl ⟨J2.stop R2 st hi2 hi, q.nx _ _ _ _ _ hw.2 E2 R2 RE2⟩
  | cons x r =>
    obtain ⟨hx, hr, hlt⟩ := drop_cons hd
    obtain ⟨go, yld⟩ := J2.go R2 st hx
    rw [hd] at hw
    refine .inr ⟨go, fun σ' H' => ∃ ι3 σd3 S3, RelS K φ ι3 H' S3 ∧ Ext ι H ι3 H' ∧ RelE K φ ι3 H' σd3 σ' ∧ JIs K φ J ι3 H' xs sr ∧ forW body sr xs (xs.drop (i + 1)) σd3 S3 E, ?_, ?_⟩
    · rintro σ' H' ⟨ι3, σd3, S3, a1, a2, a3, a4, a5⟩
      exact ⟨xs.length - (i + 1), by omega, ι3, σd3, S3, rfl, hlt, a1, a2, a3, a4, a5⟩
    · intro v H' hy
      obtain ⟨sp, rv⟩ := yld v H' hy
      replace E2 : Ext ι H ι2 H' := E2.trans sp.ext
      replace R2 := sp.rel R2
      replace J2 := J2.mono sp.ext
      replace RE2 := RE2.mono sp.ext
      have hw2 := hw.2
      rw [← hbody] at hw2
      refine ⟨φ, ι2, σd2, x, _, RE2, rv, hw2, fun σd3 σ3 h3 RE3 _ => ?_⟩
      refine ⟨φ, ι2, σd3, S2, _, R2, RE3, h3, ?_⟩
      refine ⟨fun σd4 S4 ι4 H4 σ4 h4 E4 R4 RE4 => ?_, fun d S4 ι4 H4 v4 h4 E4 R4 r4 => q.rt d S4 ι4 H4 v4 h4 (E2.trans E4) R4 r4, fun σd4 S4 ι4 H4 σ4 h4 E4 R4 RE4 => q.nx _ _ _ _ _ h4 (E2.trans E4) R4 RE4, fun σd4 S4 ι4 H4 σ4 h4 E4 R4 RE4 => ?_⟩
      · exact ⟨ι4, σd4, S4, R4, E2.trans E4, RE4, J2.mono E4, by rw [hr, ← hbody]; exact h4⟩
      · exact ⟨ι4, σd4, S4, R4, E2.trans E4, RE4, J2.mono E4, by rw [hr, ← hbody]; exact h4⟩
theorem while_imp {c : PX} {b : List PSt} {D : Ends} {σ : L2.St} {H : Hp} (h : tDS K (wS C (.whil c b)) D σ H) : tWhile (tDT K (wT C c)) (tDS K (wSs C b)) D σ H := by
  obtain ⟨φ, ι, σd, S, E, RS, RE, ⟨W, ⟨m0, w0⟩, turn⟩, q⟩ := h
  refine ⟨fun m σ2 H2 => ∃ ι2 σd2 S2, RelS K φ ι2 H2 S2 ∧ Ext ι H ι2 H2 ∧ RelE K φ ι2 H2 σd2 σ2 ∧ W m σd2 S2, ⟨m0, ι, σd, S, RS, .refl, RE, w0⟩, ?_⟩
  rintro m σ2 H2 ⟨ι2, σd2, S2, R2, E2, RE2, hw⟩
  refine ⟨φ, ι2, σd2, S2, _, R2, RE2, turn m σd2 S2 hw, fun t S3 ι3 H3 ht E3 R3 => ?_⟩
  cases t with
  | true =>
    rw [if_pos rfl]
    refine ⟨fun σ' H' => ∃ m', m' < m ∧ ∃ ι4 σd4 S4, RelS K φ ι4 H' S4 ∧ Ext ι H ι4 H' ∧ RelE K φ ι4 H' σd4 σ' ∧ W m' σd4 S4, fun σ' H' ⟨m', hm, z⟩ => ⟨m', hm, z⟩, ?_⟩
    refine ⟨φ, ι3, σd2, S3, _, R3, RE2.mono E3, ht.1 rfl, ?_⟩
    have E23 := E2.trans E3
    refine ⟨fun σd4 S4 ι4 H4 σ4 h4 E4 R4 RE4 => ?_, fun d S4 ι4 H4 v4 h4 E4 R4 r4 => q.rt d S4 ι4 H4 v4 h4 (E23.trans E4) R4 r4, fun σd4 S4 ι4 H4 σ4 h4 E4 R4 RE4 => q.nx _ _ _ _ _ h4 (E23.trans E4) R4 RE4, fun σd4 S4 ι4 H4 σ4 h4 E4 R4 RE4 => ?_⟩
    · obtain ⟨m', hm, hw'⟩ := h4
      exact ⟨m', hm, ι4, σd4, S4, R4, E23.trans E4, RE4, hw'⟩
    · obtain ⟨m', hm, hw'⟩ := h4
      exact ⟨m', hm, ι4, σd4, S4, R4, E23.trans E4, RE4, hw'⟩
  | false =>
    rw [if_neg Bool.false_ne_true]
    exact q.nx _ _ _ _ _ (ht.2 rfl) (E2.trans E3) R3 (RE2.mono E3)
/-- an expression's value, stored -/
theorem asg_imp {e : PX} {p : PP} {vs : List Nat} {D : Ends} {σ : L2.St} {H : Hp} (h : tDS K (wS C (.asg p e)) D σ H) : tAsg (tD K (wE C e)) (tDG K vs (bindW p)) D σ H := by
  obtain ⟨φ, ι, σd, S, E, RS, RE, w, q⟩ := h
  refine ⟨φ, ι, σd, S, _, RS, RE, w, fun d S1 ι1 H1 v hd E1 R1 r => ?_⟩
  exact ⟨φ, ι1, σd, d, _, RE.mono E1, r, hd, fun σd2 σ2 h2 RE2 _ => q.nx _ _ _ _ _ h2 E1 R1 RE2⟩
theorem sub_ok {X : Cx} {φ ι : List Addr} {H : Hp} {S : Sto} {k : Sto → Prop} {x y d : Ov.D} {v u w : V} {Q : Hp → Prop} (R : RelS K φ ι H S) (rx : rep K φ ι H x v) (ry : rep K φ ι H y u) (rd : rep K φ ι H d w) (h : subW x y d S k)
    (q : ∀ S' H', k S' → Ext ι H ι H' → RelS K φ ι H' S' → Q H') : rSetL v u w H Q := by
  unfold subW at h
  split at h
  · obtain ⟨a, ha, rfl⟩ := rx
    obtain rfl : u = _ := ry
    split at h
    · rename_i e
      obtain ⟨b, ws, h1, h2, h3⟩ := R.cell _ _ e
      rw [ha] at h1
      cases h1
      split at h
      · rename_i e1
        exact ⟨a, ws, _, _, rfl, rfl, h2, by rw [reps_len h3]; exact e1, q _ _ h (.set ha) (R.set ha (reps_set _ h3 rd))⟩
      · exact h.elim
    · exact h.elim
  · exact h.elim

theorem range_all {N : List Str} {i : Nat} {y : Str} (h : N[i]? = some y) : i ∈ List.range N.length := List.mem_range.mpr (List.getElem?_eq_some_iff.mp h).1
mutual
theorem soundS : ∀ (s : PSt) (X : Cx) (st : Stmt), XOkS T n X → okS T X.N X.env.scope s st = true → PS X st (tDS X.K (wS (callW T n) s))
  | .asg p e, X, st, xo, h => by
    cases st with
    | Assign tgs ee pos =>
      match tgs, h with
      | [tg], h =>
        have h : (okE T X.N none X.env.scope e ee && ((okP X.N none X.env.scope (List.range X.N.length) p tg && swF X.env.scope (some tg) ee && noSwap tg ee) || (asgAlt X.N X.env.scope p tg e ee || asgDc X.N X.env.scope p tg e ee))) = true := h
        rw [Bool.and_eq_true, Bool.or_eq_true, Bool.or_eq_true] at h
        obtain ⟨h1, h2 | h2 | h2⟩ := h
        · simp only [Bool.and_eq_true] at h2
          obtain ⟨⟨h2, h3⟩, h4⟩ := h2
          refine PS.imp (ps_asg (soundE e X none ee xo.toXOk h1).1 (soundP xo.toXOk p tg h2) (swF_of h3 xo.kind) (noSwap_of h4) (one_of (T := T) h2)) fun D σ H q => asg_imp q
        · obtain ⟨i, y, py, mu, elt, pp, own, rng, src, cond, rfl, rfl, rfl, h2a, h3⟩ := asgAlt_of h2
          obtain ⟨eelt, tg, iter, ifs, scope, pos2, rfl, c1, c2, c3, c4, c5, c5', c6⟩ := okComp h1
          have h3 : (decide (X.env.scope.names.lookup y = some .local) && py.line == pos2.line && !(scope.names.any fun (n, k) => n == y && (k == .local || k == .cell))) = true := h3
          simp only [Bool.and_eq_true, decide_eq_true_eq, Bool.not_eq_true'] at h3
          obtain ⟨⟨h3, h4⟩, h5⟩ := h3
          have pcs := compParts xo.toXOk c2 c3 c5 c5' c6
          refine PS.imp (ps_setLc (own := own) xo.calm xo.nd h2a h3 (sw_true xo.kind h3 h4 h5) pcs.1 (blkOk_by c1) pcs.2.1 pcs.2.2.1 pcs.2.2.2 (fold_of c4)) ?_
          rintro D σ H ⟨φ, ι, σd, S, E, RS, RE, w, q⟩
          have w2 : wE (callW T n) (.comp mu elt pp own rng src cond) σd S (fun d S1 => E.nx (σd.set i (some d)) S1) := w
          have w3 : tD X.K (wE (callW T n) (.comp mu elt pp own rng src cond)) σ H (fun v H' => gName i v σ H' D.nx) := by
            refine ⟨φ, ι, σd, S, _, RS, RE, w2, fun d S1 ι1 H1 v hd E1 R1 r => ?_⟩
            exact q.nx _ _ _ _ _ hd E1 R1 ((RE.mono E1).set r)
          exact comp_imp w3
        · obtain ⟨i, y, py, kx, vx, pp, own, rng, src, cond, rfl, rfl, rfl, h2a, h3⟩ := asgDc_of h2
          obtain ⟨ekx, evx, tg, iter, ifs, scope, pos2, rfl, c1, c2, c3, c3', c4, c5, c5', c6⟩ := okDc h1
          have h3 : (decide (X.env.scope.names.lookup y = some .local) && py.line == pos2.line && !(scope.names.any fun (n, k) => n == y && (k == .local || k == .cell))) = true := h3
          simp only [Bool.and_eq_true, decide_eq_true_eq, Bool.not_eq_true'] at h3
          obtain ⟨⟨h3, h4⟩, h5⟩ := h3
          have pcs := compParts xo.toXOk c2 c3 c5 c5' c6
          have pcv := compParts xo.toXOk c2 c3' c5 c5' c6
          refine PS.imp (ps_setDc (own := own) xo.calm xo.nd h2a h3 (sw_trueD xo.kind h3 h4 h5) pcs.1 (blkOk_by c1) pcs.2.1 pcs.2.2.1 pcs.2.2.2 pcv.2.2.2 (fold_of c4)) ?_
          rintro D σ H ⟨φ, ι, σd, S, E, RS, RE, w, q⟩
          have w2 : wE (callW T n) (.dcomp kx vx pp own rng src cond) σd S (fun d S1 => E.nx (σd.set i (some d)) S1) := w
          have w3 : tD X.K (wE (callW T n) (.dcomp kx vx pp own rng src cond)) σ H (fun v H' => gName i v σ H' D.nx) := by
            refine ⟨φ, ι, σd, S, _, RS, RE, w2, fun d S1 ι1 H1 v hd E1 R1 r => ?_⟩
            exact q.nx _ _ _ _ _ hd E1 R1 ((RE.mono E1).set r)
          exact dcomp_imp w3
    | _ => cases h
  | .sub o i e, X, st, xo, h => by
    cases st with
    | Assign tgs ee pos =>
      match tgs, h with
      | [.Subscript eo ei spos], h =>
        have h : (okE T X.N none X.env.scope e ee && okE T X.N none X.env.scope o eo && okE T X.N none X.env.scope i ei && swF X.env.scope (some (.Subscript eo ei ⟨0, 0, 0, 0⟩)) ee && plainS ei) = true := h
        simp only [Bool.and_eq_true] at h
        obtain ⟨⟨⟨⟨h1, h2⟩, h3⟩, h4⟩, h5⟩ := h
        have hs : swapsWith ee (some (.Subscript eo ei spos)) pos.line X.env = pure false := by
          cases ee <;> first
            | rfl
            | cases h4
        have hw : swappedStores [.Subscript eo ei spos] ee X.env = pure none := by cases ee <;> rfl
        refine PS.imp (ps_asg (soundE e X none ee xo.toXOk h1).1 (pg_sub (soundE o X none eo xo.toXOk h2).1 (soundE i X none ei xo.toXOk h3).1 set_list (fun v => by cases ei <;> first | rfl | cases h5)) hs hw) ?_
        rintro D σ H ⟨φ, ι, σd, S, E, RS, RE, w, q⟩
        refine ⟨φ, ι, σd, S, _, RS, RE, w, fun d S1 ι1 H1 v hd E1 R1 r => ?_⟩
        refine ⟨φ, ι1, σd, S1, _, R1, RE.mono E1, hd, fun x S2 ι2 H2 u hx E2 R2 r2 => ?_⟩
        refine ⟨φ, ι2, σd, S2, _, R2, RE.mono (E1.trans E2), hx, fun y S3 ι3 H3 t hy E3 R3 r3 => ?_⟩
        refine sub_ok (X := X) R3 (rep_mono E3 _ _ r2) r3 (rep_mono (E2.trans E3) _ _ r) hy fun S4 H4 z E4 R4 => ?_
        have E := E1.trans (E2.trans (E3.trans E4))
        exact q.nx _ _ _ _ _ z E R4 (RE.mono E)
    | _ => cases h
  | .augS o i op e, X, st, xo, h => by
    cases st with
    | AugAssign tg oo ee pos =>
      cases tg with
      | Subscript eo ei spos =>
        have h : (okE T X.N none X.env.scope o eo && okE T X.N none X.env.scope i ei && okE T X.N none X.env.scope e ee && augOk op oo && plainS ei) = true := h
        simp only [Bool.and_eq_true] at h
        obtain ⟨⟨⟨⟨h1, h2⟩, h3⟩, h4⟩, h5⟩ := h
        have ha : ∀ ov iv new, augStore ei ov iv new = (do holding [new, ov, iv] (setItem ov iv new); release [new, ov, iv] []; pure .next) := fun ov iv new => by
          cases ei <;> first
            | rfl
            | cases h5
        have key : ∀ {f : Int → Int → Int}, (∀ x y (k : Ov.D → Prop), augW op x y k → ∃ a b, x = .int a ∧ y = .int b ∧ k (.int (f a b))) → ∀ D σ H, tDS X.K (wS (callW T n) (.augS o i op e)) D σ H →
            tAugS (tD X.K (wE (callW T n) o)) (tD X.K (wE (callW T n) i)) (tD X.K (wE (callW T n) e)) (rGetL X.K) (ipI f) rSetL D σ H := by
          rintro f hf D σ H ⟨φ, ι, σd, S, E, RS, RE, w, q⟩
          refine ⟨φ, ι, σd, S, _, RS, RE, w, fun x S1 ι1 H1 v hx E1 R1 rx => ?_⟩
          refine ⟨φ, ι1, σd, S1, _, R1, RE.mono E1, hx, fun y S2 ι2 H2 u hy E2 R2 ry => ?_⟩
          have rx2 := rep_mono E2 _ _ rx
          unfold getW at hy
          split at hy
          · rename_i nn j
            split at hy
            · rename_i xs es
              split at hy
              · rename_i d ed
                obtain ⟨j0, hy⟩ := hy
                obtain ⟨a, ha2, rfl⟩ := id rx2
                obtain rfl : u = _ := ry
                obtain ⟨b, ws, g1, g2, g3⟩ := R2.cell _ _ es
                rw [ha2] at g1
                cases g1
                obtain ⟨w1, g4, rd⟩ := atI_reps g3 ed
                refine ⟨a, ws, j, w1, rfl, rfl, j0, SqL.of g2, g4, ?_⟩
                refine ⟨φ, ι2, σd, S2, _, R2, RE.mono (E1.trans E2), hy, fun z S3 ι3 H3 t hz E3 R3 rz => ?_⟩
                obtain ⟨p, r, rfl, rfl, hk⟩ := hf _ _ _ hz
                obtain rfl : w1 = .int p := rd
                obtain rfl : t = .int r := rz
                refine ⟨p, r, rfl, rfl, ?_⟩
                refine sub_ok (X := X) (d := .int (f p r)) R3 (rep_mono E3 _ _ rx2) (y := .int j) rfl rfl hk fun S4 H4 z E4 R4 => ?_
                have E := E1.trans (E2.trans (E3.trans E4))
                exact q.nx _ _ _ _ _ z E R4 (RE.mono E)
              · exact hy.elim
            · exact hy.elim
          · exact hy.elim
        unfold augOk at h4
        split at h4
        · exact PS.imp (ps_augS (soundE o X none eo xo.toXOk h1).1 (soundE i X none ei xo.toXOk h2).1 get_list (soundE e X none ee xo.toXOk h3).1 ip_add set_list ha) (key fun x y k z => by
            cases x <;> cases y <;> first
              | exact ⟨_, _, rfl, rfl, z⟩
              | exact (show False from z).elim)
        · exact PS.imp (ps_augS (soundE o X none eo xo.toXOk h1).1 (soundE i X none ei xo.toXOk h2).1 get_list (soundE e X none ee xo.toXOk h3).1 ip_sub set_list ha) (key fun x y k z => by
            cases x <;> cases y <;> first
              | exact ⟨_, _, rfl, rfl, z⟩
              | exact (show False from z).elim)
        · cases h4
      | _ => cases h
    | _ => cases h
  | .par i j a b, X, st, xo, h => by
    cases st with
    | Assign tgs ee pos =>
      match tgs, ee, h with
      | [.Tuple ts kt pt], .Tuple vs k2 pt2, h =>
        have h : (okEs T X.N none X.env.scope [a, b] vs && parOk X.env.scope ts vs && decide (ts.length = 2) && atN X.N X.env.scope i (ts.getD 0 (.Constant .none 0 ⟨0, 0, 0, 0⟩)) && atN X.N X.env.scope j (ts.getD 1 (.Constant .none 0 ⟨0, 0, 0, 0⟩)) && decide (i ≠ j)) = true := h
        simp only [Bool.and_eq_true, decide_eq_true_eq] at h
        obtain ⟨⟨⟨⟨⟨h1, h2⟩, h3⟩, h4⟩, h5⟩, h6⟩ := h
        match ts, h3, h2, h4, h5 with
        | [t1, t2], _, h2, h4, h5 =>
          obtain ⟨x, px, rfl, x1, x2⟩ := atN_of (show atN X.N X.env.scope i t1 = true from h4)
          obtain ⟨y, py, rfl, y1, y2⟩ := atN_of (show atN X.N X.env.scope j t2 = true from h5)
          have hl := (okEs_star (env := X.env) (pos := pos) h1).2.2
          match vs, hl, h1, h2 with
          | [ea, eb], _, h1, h2 =>
            have hw := par_of (kt := kt) (k2 := k2) (pt := pt) (pt2 := pt2) h2 xo.kind
            unfold parOk at h2
            simp only [Bool.and_eq_true, decide_eq_true_eq] at h2
            rw [parNs2 h2.1.1.1.2] at hw
            refine PS.imp (ps_par xo.calm xo.nd x1 y1 h6 x2 y2 (soundEs [a, b] X none [ea, eb] xo.toXOk h1) hw) ?_
            rintro D σ H ⟨φ, ι, σd, S, E, RS, RE, w, q⟩
            refine ⟨φ, ι, σd, S, fun ds S1 => ∃ u v, ds = [u, v] ∧ E.nx ((σd.set i (some u)).set j (some v)) S1, RS, RE, ?_, ?_⟩
            · refine wE_mono (callW_mono T n) a σd S _ _ (fun u S1 h1 => ?_) w
              exact wE_mono (callW_mono T n) b σd S1 _ _ (fun v S2 h2 => ⟨u, v, rfl, h2⟩) h1
            · rintro ds S1 ι1 H1 vs ⟨u, v, rfl, hk⟩ E1 R1 r
              obtain ⟨v1, v2, rfl, r1, r2⟩ := reps2 r
              exact ⟨v1, v2, rfl, q.nx _ _ _ _ _ hk E1 R1 (((RE.mono E1).set r1).set r2)⟩
    | _ => cases h
  | .par3 i j l a b c, X, st, xo, h => by
    cases st with
    | Assign tgs ee pos =>
      match tgs, ee, h with
      | [.Tuple ts kt pt], .Tuple vs k2 pt2, h =>
        have h : (okEs T X.N none X.env.scope [a, b, c] vs && parOk X.env.scope ts vs && decide (ts.length = 3) && atN X.N X.env.scope i (ts.getD 0 (.Constant .none 0 ⟨0, 0, 0, 0⟩)) && atN X.N X.env.scope j (ts.getD 1 (.Constant .none 0 ⟨0, 0, 0, 0⟩)) && atN X.N X.env.scope l (ts.getD 2 (.Constant .none 0 ⟨0, 0, 0, 0⟩)) && decide (i ≠ j ∧ i ≠ l ∧ j ≠ l)) = true := h
        simp only [Bool.and_eq_true, decide_eq_true_eq] at h
        obtain ⟨⟨⟨⟨⟨⟨h1, h2⟩, h3⟩, h4⟩, h5⟩, h5'⟩, h6, h7, h8⟩ := h
        match ts, h3, h2, h4, h5, h5' with
        | [t1, t2, t3], _, h2, h4, h5, h5' =>
          obtain ⟨x, px, rfl, x1, x2⟩ := atN_of (show atN X.N X.env.scope i t1 = true from h4)
          obtain ⟨y, py, rfl, y1, y2⟩ := atN_of (show atN X.N X.env.scope j t2 = true from h5)
          obtain ⟨z, pz, rfl, z1, z2⟩ := atN_of (show atN X.N X.env.scope l t3 = true from h5')
          have hl := (okEs_star (env := X.env) (pos := pos) h1).2.2
          match vs, hl, h1, h2 with
          | [ea, eb, ec], _, h1, h2 =>
            have hw := par_of (kt := kt) (k2 := k2) (pt := pt) (pt2 := pt2) h2 xo.kind
            unfold parOk at h2
            simp only [Bool.and_eq_true, decide_eq_true_eq] at h2
            rw [parNs3 h2.1.1.1.2] at hw
            refine PS.imp (ps_par3 xo.calm xo.nd x1 y1 z1 h6 h7 h8 x2 y2 z2 (soundEs [a, b, c] X none [ea, eb, ec] xo.toXOk h1) hw) ?_
            rintro D σ H ⟨φ, ι, σd, S, E, RS, RE, w, q⟩
            refine ⟨φ, ι, σd, S, fun ds S1 => ∃ u v t, ds = [u, v, t] ∧ E.nx (((σd.set i (some u)).set j (some v)).set l (some t)) S1, RS, RE, ?_, ?_⟩
            · refine wE_mono (callW_mono T n) a σd S _ _ (fun u S1 h1 => ?_) w
              refine wE_mono (callW_mono T n) b σd S1 _ _ (fun v S2 h2 => ?_) h1
              exact wE_mono (callW_mono T n) c σd S2 _ _ (fun t S3 h3 => ⟨u, v, t, rfl, h3⟩) h2
            · rintro ds S1 ι1 H1 vs ⟨u, v, t, rfl, hk⟩ E1 R1 r
              obtain ⟨v1, rr, rfl, r1, r2a⟩ := r
              obtain ⟨v2, v3, rfl, r2, r3⟩ := reps2 r2a
              exact ⟨v1, v2, v3, rfl, q.nx _ _ _ _ _ hk E1 R1 ((((RE.mono E1).set r1).set r2).set r3)⟩
    | _ => cases h
  | .aug i op e, X, st, xo, h => by
    cases st with
    | AugAssign tg o ee pos =>
      cases tg with
      | Name x px =>
        have h : (decide (X.N[i]? = some x) && locB none X.env.scope x && augOk op o && okE T X.N none X.env.scope e ee) = true := h
        simp only [Bool.and_eq_true, decide_eq_true_eq] at h
        obtain ⟨⟨⟨h1, h2⟩, h3⟩, h4⟩ := h
        obtain ⟨h5, h6⟩ := loc_of xo.fn h2
        have key : ∀ {f : Int → Int → Int}, (∀ x y (k : Ov.D → Prop), augW op x y k → ∃ a b, x = .int a ∧ y = .int b ∧ k (.int (f a b))) → ∀ D σ H, tDS X.K (wS (callW T n) (.aug i op e)) D σ H → tAug i (tD X.K (wE (callW T n) e)) (ipI f) D σ H := by
          rintro f hf D σ H ⟨φ, ι, σd, S, E, RS, RE, w, q⟩
          have w : (match σd[i]? with
            | some (some x) => wE (callW T n) e σd S fun y S1 => augW op x y fun z => E.nx (σd.set i (some z)) S1
            | _ => False) := w
          split at w
          · rename_i d hd
            obtain ⟨v, e1, rv⟩ := RE.get i d hd
            refine ⟨v, e1, φ, ι, σd, S, _, RS, RE, w, fun y S1 ι1 H1 u hy E1 R1 ry => ?_⟩
            obtain ⟨a, b, rfl, rfl, hk⟩ := hf _ _ _ hy
            exact ⟨a, b, rv, ry, q.nx _ _ _ _ _ hk E1 R1 ((RE.mono E1).set rfl)⟩
          · exact w.elim
        unfold augOk at h3
        split at h3
        · exact PS.imp (ps_aug xo.nd h1 h5 (soundE e X none ee xo.toXOk h4).1 ip_add h6) (key fun x y k z => by
            cases x <;> cases y <;> first
              | exact ⟨_, _, rfl, rfl, z⟩
              | exact (show False from z).elim)
        · exact PS.imp (ps_aug xo.nd h1 h5 (soundE e X none ee xo.toXOk h4).1 ip_sub h6) (key fun x y k z => by
            cases x <;> cases y <;> first
              | exact ⟨_, _, rfl, rfl, z⟩
              | exact (show False from z).elim)
        · cases h3
      | _ => cases h
    | _ => cases h
  | .expr e, X, st, xo, h => by
    cases st with
    | Expr ee pos =>
      have h : (okE T X.N none X.env.scope e ee && swF X.env.scope none ee) = true := h
      simp only [Bool.and_eq_true] at h
      refine PS.imp (ps_expr (soundE e X none ee xo.toXOk h.1).1 (swF_of h.2 xo.kind)) ?_
      rintro D σ H ⟨φ, ι, σd, S, E, RS, RE, w, q⟩
      exact ⟨φ, ι, σd, S, _, RS, RE, w, fun d S1 ι1 H1 v hd E1 R1 r => q.nx _ _ _ _ _ hd E1 R1 (RE.mono E1)⟩
    | _ => cases h
  | .ret e, X, st, xo, h => by
    cases st with
    | Return v pos =>
      match v, h with
      | some ee, h =>
        refine PS.imp (ps_ret (soundE e X none ee xo.toXOk h).1) ?_
        rintro D σ H ⟨φ, ι, σd, S, E, RS, RE, w, q⟩
        exact ⟨φ, ι, σd, S, _, RS, RE, w, q.rt⟩
    | _ => cases h
  | .retN, X, st, xo, h => by
    cases st with
    | Return v pos =>
      match v, h with
      | none, h =>
        refine PS.imp ps_retN ?_
        rintro D σ H ⟨φ, ι, σd, S, E, RS, RE, w, q⟩
        exact q.rt _ _ _ _ _ w .refl RS rfl
    | _ => cases h
  | .ite c t e, X, st, xo, h => by
    cases st with
    | If ec a b pos =>
      have h : (okE T X.N none X.env.scope c ec && okSs T X.N X.env.scope t a && okSs T X.N X.env.scope e b) = true := h
      simp only [Bool.and_eq_true] at h
      refine PS.imp (ps_if (soundE c X none ec xo.toXOk h.1.1).2.1 (soundSs t X a xo h.1.2) (soundSs e X b xo h.2)) ?_
      rintro D σ H ⟨φ, ι, σd, S, E, RS, RE, w, q⟩
      refine ⟨φ, ι, σd, S, _, RS, RE, w, fun b S1 ι1 H1 hb E1 R1 => ?_⟩
      cases b with
      | true =>
        rw [if_pos rfl]
        exact ⟨φ, ι1, σd, S1, E, R1, RE.mono E1, hb.1 rfl, q.step E1⟩
      | false =>
        rw [if_neg Bool.false_ne_true]
        exact ⟨φ, ι1, σd, S1, E, R1, RE.mono E1, hb.2 rfl, q.step E1⟩
    | _ => cases h
  | .forS p rng src b, X, st, xo, h => by
    cases st with
    | For tg iter body els pos =>
      match els, h with
      | [], h =>
        have h : (okP X.N none X.env.scope (List.range X.N.length) p tg && plainI iter && iterChk (okEs T X.N none X.env.scope src) X.env.scope rng (src.length == 1) iter && enTp rng p && okSs T X.N X.env.scope b body) = true := h
        simp only [Bool.and_eq_true] at h
        obtain ⟨⟨⟨⟨h1, h2⟩, h3⟩, h3'⟩, h4⟩ := h
        exact PS.imp (ps_for xo.own xo.calm (iter_sound xo.toXOk h3 (fun e => by rcases e with e | e <;> subst e <;> first | exact enTp_tg h1 h3' | exact zpTp_tg h1 h3')) (soundP xo.toXOk p tg h1) (soundSs b X body xo h4) (fold_of h2)) fun D σ H q => for_imp q
    | _ => cases h
  | .whil c b, X, st, xo, h => by
    cases st with
    | While ec body els pos =>
      match els, h with
      | [], h =>
        have h : (okE T X.N none X.env.scope c ec && okSs T X.N X.env.scope b body) = true := h
        simp only [Bool.and_eq_true] at h
        exact PS.imp (ps_while xo.own (soundE c X none ec xo.toXOk h.1).2.1 (soundSs b X body xo h.2)) fun D σ H q => while_imp q
    | _ => cases h
  | .pass, X, st, xo, h => by
    have key : ∀ D σ H, tDS X.K (wS (callW T n) .pass) D σ H → tNext D σ H := by
      rintro D σ H ⟨φ, ι, σd, S, E, RS, RE, w, q⟩
      exact q.nx _ _ _ _ _ w .refl RS RE
    cases st with
    | Pass pos => exact PS.imp ps_pass key
    | Expr e pos =>
      cases e with
      | Constant c k p2 =>
        cases c with
        | str x => exact PS.imp ps_doc key
        | _ => cases h
      | _ => cases h
    | _ => cases h
  | .brk, X, st, xo, h => by
    cases st with
    | Break pos =>
      refine PS.imp ps_break ?_
      rintro D σ H ⟨φ, ι, σd, S, E, RS, RE, w, q⟩
      exact q.bk _ _ _ _ _ w .refl RS RE
    | _ => cases h
  | .cont, X, st, xo, h => by
    cases st with
    | Continue pos =>
      refine PS.imp ps_continue ?_
      rintro D σ H ⟨φ, ι, σd, S, E, RS, RE, w, q⟩
      exact q.ct _ _ _ _ _ w .refl RS RE
    | _ => cases h
  | .bad, X, st, xo, h => by
    refine ⟨fun pins s σ H D I q => ?_⟩
    obtain ⟨φ, ι, σd, S, E, RS, RE, w, q⟩ := q
    exact (show False from w).elim
theorem soundSs : ∀ (ss : List PSt) (X : Cx) (sts : List Stmt), XOkS T n X → okSs T X.N X.env.scope ss sts = true → PSs X sts (tDS X.K (wSs (callW T n) ss))
  | [], X, sts, xo, h => by
    cases sts with
    | nil =>
      refine PSs.imp pss_nil ?_
      rintro D σ H ⟨φ, ι, σd, S, E, RS, RE, w, q⟩
      exact q.nx _ _ _ _ _ w .refl RS RE
    | cons _ _ => cases h
  | s :: ss, X, sts, xo, h => by
    cases sts with
    | nil => cases h
    | cons st sts =>
      have h : (okS T X.N X.env.scope s st && okSs T X.N X.env.scope ss sts) = true := h
      simp only [Bool.and_eq_true] at h
      refine PSs.imp (pss_cons (soundS s X st xo h.1) (soundSs ss X sts xo h.2)) ?_
      rintro D σ H ⟨φ, ι, σd, S, E, RS, RE, w, q⟩
      refine ⟨φ, ι, σd, S, _, RS, RE, w, ⟨fun σd1 S1 ι1 H1 σ1 h1 E1 R1 RE1 => ?_, q.rt, q.bk, q.ct⟩⟩
      exact ⟨φ, ι1, σd1, S1, E, R1, RE1, h1, q.step E1⟩
end
end
end Ov
-- OvJ
namespace Ov
open PySem PySem.Spec PyProof.Rows L2

/-! ### a whole table -/
def scB (d : DDef) (sc : Scope) : Bool :=
  (match sc.kind with
    | .function => true
    | _ => false) && !sc.isCoroutine && !sc.isGenerator && decide d.names.Nodup && decide (d.np ≤ d.names.length) &&
    ((d.names.take d.np).all fun x => match sc.names.lookup x with
      | some .local => true
      | some .cell => true
      | _ => false) && (sc.names.all fun y => match y.2 with
      | .free => false
      | _ => true)
def chkD (T : List DDef) (d : DDef) (st : Stmt) : Bool := scB d (defScope st) && okSs T d.names (defScope st) d.body (defBody st)
theorem scB_ok {d : DDef} {sc : Scope} (h : scB d sc = true) : FnScope d.names (d.names.take d.np) sc := by
  unfold scB at h
  simp only [Bool.and_eq_true, decide_eq_true_eq, Bool.not_eq_true', List.all_eq_true] at h
  obtain ⟨⟨⟨⟨⟨⟨h1, h2⟩, h3⟩, h4⟩, h5⟩, h6⟩, h7⟩ := h
  refine ⟨?_, h2, h3, h4, ?_, fun x hx => ?_, fun y hy e => ?_⟩
  · split at h1
    · assumption
    · cases h1
  · rw [List.length_take, Nat.min_eq_left h5]
  · have q := h6 x hx
    split at q
    · exact .inl (by assumption)
    · exact .inr (by assumption)
    · cases q
  · have q := h7 y hy
    rw [e] at q
    cases q

structure TabOk (T : List DDef) (st : Nat → Stmt) (w : World) (K : PySem.W.Frag) (mg : Str → Option Value) : Prop where
  fns : ∀ (f : Nat) (d : DDef), T[f]? = some d → isC d = false → ∃ fa fd, FunD K d.name d.name (defArgs (st f)) (defBody (st f)) (defScope (st f)) [] [] fa fd ∧ mg d.name = some (.ref fa) ∧ Binds K fd (d.names.take d.np) []
  chk : ∀ (f : Nat) (d : DDef), T[f]? = some d → isC d = false → chkD T d (st f) = true
  con : ∀ x i, constIn T x i = true → ∃ t, mg x = some (.int i t)
  dat : ∀ x d, datIn T x d = true → ∃ u, mg x = some u ∧ repB K d u = true
  tab : ∀ x ks ds, tabIn T x ks ds = true → ∃ a, mg x = some (.ref a) ∧ KTab K w a ks ds
  enu : mg (Str.ofString "enumerate") = none
  blt : ∀ b : BI, mg (Str.ofString (biN b)) = none
  rng : mg (Str.ofString "range") = none
  zip : mg (Str.ofString "zip") = none
def constD (p : Str × Int) : DDef := ⟨p.1, [], 1, [.ret (.int p.2)]⟩
def datE (p : Str × D) : DDef := ⟨p.1, [], 1, [.ret (.dat p.1 p.2)]⟩
def tabE (t : TabD) : DDef := ⟨t.name, [], 1, [.ret (.tab t.name t.ks t.ds .non)]⟩
section
variable {T A : List DDef} {cs : List (Str × Int)} {ps : List (Str × D)} {ts : List TabD} {mg : Str → Option Value}
theorem cst_mem (hT : T = A ++ (cs.map constD ++ (ps.map datE ++ ts.map tabE))) (hA : A.all (fun d => !isC d) = true) {d : DDef} (hd : d ∈ T) (h : isC d = true) :
    (∃ p ∈ cs, d = constD p) ∨ (∃ p ∈ ps, d = datE p) ∨ ∃ t ∈ ts, d = tabE t := by
  rw [hT] at hd
  rcases List.mem_append.mp hd with hd | hd
  · have := List.all_eq_true.mp hA d hd
    rw [h] at this
    cases this
  · rcases List.mem_append.mp hd with hd | hd
    · obtain ⟨p, hp, rfl⟩ := List.mem_map.mp hd
      exact .inl ⟨p, hp, rfl⟩
    · rcases List.mem_append.mp hd with hd | hd
      · obtain ⟨p, hp, rfl⟩ := List.mem_map.mp hd
        exact .inr (.inl ⟨p, hp, rfl⟩)
      · obtain ⟨p, hp, rfl⟩ := List.mem_map.mp hd
        exact .inr (.inr ⟨p, hp, rfl⟩)
theorem con_of (hT : T = A ++ (cs.map constD ++ (ps.map datE ++ ts.map tabE))) (hA : A.all (fun d => !isC d) = true) (h : ∀ p ∈ cs, ∃ t, mg p.1 = some (.int p.2 t)) :
    ∀ x i, constIn T x i = true → ∃ t, mg x = some (.int i t) := by
  intro x i hc
  unfold constIn at hc
  rw [List.any_eq_true] at hc
  obtain ⟨d, hd, hc⟩ := hc
  simp only [Bool.and_eq_true, decide_eq_true_eq] at hc
  obtain ⟨⟨h1, h2⟩, h3⟩ := hc
  rcases cst_mem hT hA hd h1 with ⟨p, hp, rfl⟩ | ⟨p, hp, rfl⟩ | ⟨p, hp, rfl⟩
  · have h2 : p.1 = x := h2
    have h3 : decide (i = p.2) = true := h3
    rw [← h2, of_decide_eq_true h3]
    exact h p hp
  · exact (Bool.false_ne_true h3).elim
  · exact (Bool.false_ne_true h3).elim
theorem dat_of {K : PySem.W.Frag} (hT : T = A ++ (cs.map constD ++ (ps.map datE ++ ts.map tabE))) (hA : A.all (fun d => !isC d) = true) (h : ∀ p ∈ ps, ∃ u, mg p.1 = some u ∧ repB K p.2 u = true) :
    ∀ x d, datIn T x d = true → ∃ u, mg x = some u ∧ repB K d u = true := by
  intro x i hc
  unfold datIn at hc
  rw [List.any_eq_true] at hc
  obtain ⟨d, hd, hc⟩ := hc
  simp only [Bool.and_eq_true, decide_eq_true_eq] at hc
  obtain ⟨⟨h1, h2⟩, h3⟩ := hc
  rcases cst_mem hT hA hd h1 with ⟨p, hp, rfl⟩ | ⟨p, hp, rfl⟩ | ⟨p, hp, rfl⟩
  · exact (Bool.false_ne_true h3).elim
  · have h2 : p.1 = x := h2
    have h3 : sameD i p.2 = true := h3
    rw [← h2, sameD_eq h3]
    exact h p hp
  · exact (Bool.false_ne_true h3).elim
theorem tab_of {K : PySem.W.Frag} {w : World} (hT : T = A ++ (cs.map constD ++ (ps.map datE ++ ts.map tabE))) (hA : A.all (fun d => !isC d) = true) (h : ∀ t ∈ ts, ∃ a, mg t.name = some (.ref a) ∧ KTab K w a t.ks t.ds) :
    ∀ x ks ds, tabIn T x ks ds = true → ∃ a, mg x = some (.ref a) ∧ KTab K w a ks ds := by
  intro x ks ds hc
  unfold tabIn at hc
  rw [List.any_eq_true] at hc
  obtain ⟨d, hd, hc⟩ := hc
  simp only [Bool.and_eq_true, decide_eq_true_eq] at hc
  obtain ⟨⟨h1, h2⟩, h3⟩ := hc
  rcases cst_mem hT hA hd h1 with ⟨p, hp, rfl⟩ | ⟨p, hp, rfl⟩ | ⟨p, hp, rfl⟩
  · exact (Bool.false_ne_true h3).elim
  · exact (Bool.false_ne_true h3).elim
  · have h2 : p.name = x := h2
    have h3 : (decide (ks = p.ks) && sameDs ds p.ds) = true := h3
    simp only [Bool.and_eq_true, decide_eq_true_eq] at h3
    rw [← h2, h3.1, sameDs_eq h3.2]
    exact h p hp
end
/-! ### the head's look -/
def datB (K : PySem.W.Frag) (p : Str × D) : Bool := match PySem.W.nsIn K mainGlobals p.1 with
  | some (some u) => repB K p.2 u
  | _ => false
theorem datB_ok {K : PySem.W.Frag} {h : Heap} {mg : Str → Option Value} {p : Str × D} (X : K.In h) (G : h.Ns mainGlobals mg) (c : datB K p = true) : ∃ u, mg p.1 = some u ∧ repB K p.2 u = true := by
  unfold datB at c
  split at c
  · rename_i u e
    exact ⟨u, PySem.W.mg_of X G e, c⟩
  · cases c
abbrev AlV : Type := He.AlD × (Bool × List (Option (List (Option (Leaf × Int)))))
def obsV (fa : List He.Fa) (fn : List He.DefD) (ps : List (Str × D)) (ts : List TabD) (K : PySem.W.Frag) : AlV := (He.obsD fa fn K, ps.all (datB K), ts.map fun t => tabK K (He.ga K t.name) t)
def valV (fn : List He.DefD) (ts : List TabD) (w : World) : AlV := (He.valD fn, true, ts.map fun t => some (keysT w t.ks))
def obsVG (n : Nat) (fa : List He.Fa) (fn : List He.DefD) (ps : List (Str × D)) (ts : List TabD) (g : Addr → Option Obj) : AlV := obsV fa fn ps ts (He.frG g (He.asD g n))
def SaysV (fa : List He.Fa) (fn : List He.DefD) (ps : List (Str × D)) (ts : List TabD) (w : World) (K : PySem.W.Frag) : Prop := obsV fa fn ps ts K = valV fn ts w
def hookV (n : Nat) (fa : List He.Fa) (fn : List He.DefD) (ps : List (Str × D)) (ts : List TabD) : PySem.W.Hook where
  α := AlV
  obs := fun s => obsVG n fa fn ps ts s.heap.get?
  val := fun w => valV fn ts w
  says := fun w h => ∃ K : PySem.W.Frag, K.In h ∧ SaysV fa fn ps ts w K
  of := fun _ _ e => ⟨_, He.frG_in, e⟩
  keeps := fun _ _ _ ⟨K, hK, c⟩ k => ⟨K, PySem.W.Frag.In.keeps hK k, c⟩
theorem obsVG_eq {n : Nat} {fa : List He.Fa} {fn : List He.DefD} {ps : List (Str × D)} {ts : List TabD} {g : Addr → Option Obj} {s : Shared} (h : ∀ a, g a = s.heap.get? a) : obsVG n fa fn ps ts g = (hookV n fa fn ps ts).obs s := by
  have e : g = s.heap.get? := funext h
  rw [e] <;> rfl
section
variable {fa : List He.Fa} {fn : List He.DefD} {ps : List (Str × D)} {ts : List TabD} {w : World} {K : PySem.W.Frag}
theorem SaysV.d (c : SaysV fa fn ps ts w K) : He.SaysD fa fn K := congrArg (fun z : AlV => z.1) c
theorem SaysV.dat (c : SaysV fa fn ps ts w K) {p : Str × D} (hp : p ∈ ps) : datB K p = true :=
  List.all_eq_true.mp (show ps.all (datB K) = true from congrArg (fun z : AlV => z.2.1) c) p hp
theorem SaysV.tab (c : SaysV fa fn ps ts w K) {t : TabD} (ht : t ∈ ts) : KTab K w (He.ga K t.name) t.ks t.ds := by
  have e : (ts.map fun t => tabK K (He.ga K t.name) t) = ts.map fun t => some (keysT w t.ks) := congrArg (fun z : AlV => z.2.2) c
  obtain ⟨i, hi, rfl⟩ := List.getElem_of_mem ht
  have e2 : (ts.map fun t => tabK K (He.ga K t.name) t)[i]? = (ts.map fun t => some (keysT w t.ks))[i]? := by rw [e]
  rw [List.getElem?_map, List.getElem?_map, List.getElem?_eq_getElem hi] at e2
  exact tabK_ok (Option.some.inj e2)
end
theorem nameD_of {T : List DDef} {f : Nat} {d : DDef} (h : T[f]? = some d) : nameD T f = d.name := by
  unfold nameD
  rw [h]
  rfl
theorem tab_ok {P : Program} {w : World} {base : Heap} {T : List DDef} {st : Nat → Stmt} {K : PySem.W.Frag} {mg : Str → Option Value} (O : TabOk T st w K mg) :
    ∀ (n f : Nat) (d : DDef), T[f]? = some d → isC d = false → ∀ (fa : Addr) (fd : FuncData), FunD K d.name d.name (defArgs (st f)) (defBody (st f)) (defScope (st f)) [] [] fa fd →
      FnOk P w K mg base CX0 n fa fd (d.names.take d.np) (spD K (callW T n f)) := by
  intro n
  induction n with
  | zero =>
    intro f d hd hn fa fd F
    refine ⟨fun vs H Q E h => ?_, fun A outer s H args us vs Q E hr he hb hv h => ?_⟩
    · obtain ⟨φ, ι, S, ds, k, R, r, w, P⟩ := h
      exact (show False from w).elim
    · obtain ⟨φ, ι, S, ds, k, R, r, w, P⟩ := h
      exact (show False from w).elim
  | succ n ih =>
    intro f d hd hn fa fd F
    have hc := O.chk f d hd hn
    unfold chkD at hc
    rw [Bool.and_eq_true] at hc
    have sc := scB_ok hc.1
    have un : ∀ {ds : List D} {S : Sto} {k : WK}, callW T (n + 1) f ds S k → ds.length = d.np ∧ wSs (callW T n) d.body (startD d ds) S { nx := fun _ S1 => k .non S1, rt := k } := fun {ds S k} h => by
      have h : (match T[f]? with
        | some d => ds.length = d.np ∧ wSs (callW T n) d.body (startD d ds) S { nx := fun _ S1 => k .non S1, rt := k }
        | none => False) := h
      rw [hd] at h
      exact h
    have hnp : (d.names.take d.np).length = d.np := by
      have q := hc.1
      unfold scB at q
      simp only [Bool.and_eq_true, decide_eq_true_eq] at q
      rw [List.length_take, Nat.min_eq_left q.1.1.2]
    refine F.ok sc (fun vs H Q E h => ?_) fun cdv A outer s H vs Q E hr h => ?_
    · obtain ⟨φ, ι, S, ds, k, R, r, w, P⟩ := h
      rw [reps_len r, (un w).1, hnp]
    · have xo : XOkS T n (cxOf CX0 P w K mg base d.names d.name (defScope (st f)) fa cdv A outer s H E).nox := {
        calm := rfl
        nd := sc.nd
        room := hr
        fn := fun x _ => rfl
        fns := fun g hg => by
          obtain ⟨e, he, hne⟩ : ∃ e, T[g]? = some e ∧ isC e = false := by
            unfold callOk at hg
            split at hg
            · rename_i e he
              exact ⟨e, he, by simpa using hg⟩
            · cases hg
          obtain ⟨ga, gd, G, hm, hb⟩ := O.fns g e he hne
          exact ⟨ga, gd, _, by rw [nameD_of he]; exact hm, G.kp, hb, ih g e he hne ga gd G⟩
        blt := O.blt
        rng := O.rng
        zip := O.zip
        con := O.con
        dat := O.dat
        tab := O.tab
        enu := O.enu
        kind := sc.kind
        own := PassesOwn.never }
      refine ⟨_, PSs.nox (soundSs d.body _ (defBody (st f)) xo hc.2), ?_⟩
      obtain ⟨φ, ι, S, ds, k, R, r, w, P⟩ := h
      obtain ⟨w1, w2⟩ := un w
      refine ⟨φ, ι, startD d ds, S, _, R, ⟨?_, fun i e he => ?_⟩, w2, ⟨fun σd S' ι' H' σ q E1 R1 RE1 => P _ _ _ _ _ q E1 R1 rfl, P, fun σd S' ι' H' σ q => q.elim, fun σd S' ι' H' σ q => q.elim⟩⟩
      · unfold startD L2.start
        simp [reps_len r]
      · unfold startD at he
        by_cases hi : i < ds.length
        · rw [List.getElem?_append_left (by simpa using hi), List.getElem?_map] at he
          cases q : ds[i]? with
          | none => rw [q] at he; cases he
          | some e' =>
            rw [q] at he
            cases he
            obtain ⟨v, e1, rv⟩ := reps_get r q
            refine ⟨v, ?_, rv⟩
            unfold L2.start
            have hi2 : i < vs.length := by rw [reps_len r]; exact hi
            rw [List.getElem?_append_left (by simpa using hi2), List.getElem?_map, e1]
            rfl
        · rw [List.getElem?_append_right (by simpa using hi), List.getElem?_replicate] at he
          split at he <;> cases he
/-- the script, the answer True -/
theorem law_sp {T : List DDef} {K : PySem.W.Frag} {n L : Nat} (hl : ∀ ns : List Int, ns.length ≤ 63 → callW T n L [.ro (ns.map D.int)] [] fun d _ => d = .bl true) :
    ∀ (H : Hp) (a : Addr) (ns : List Int), ns.length ≤ 63 → Only H → SqL K H a (ns.map V.int) → spD K (callW T n L) [.ref a] H (fun v _ => v = .bl true) fun _ _ _ => False := by
  intro H a ns hn _ hS
  have R : RelS K [] [] H [] := ⟨rfl, List.nodup_nil, fun a h => (List.not_mem_nil h).elim, fun n xs h => by
    rw [List.getElem?_nil] at h
    cases h⟩
  have rs : ∀ ms : List Int, reps K [] [] H (ms.map D.int) (ms.map V.int) := fun ms => by
    induction ms with
    | nil => rfl
    | cons i ms ih => exact ⟨.int i, ms.map V.int, rfl, rfl, ih⟩
  have f : FixL K [] [] H a (ns.map V.int) := by
    rcases hS with hS | hS
    · exact .inl ⟨hS, List.not_mem_nil, List.not_mem_nil⟩
    · exact .inr (.inr hS)
  have r0 : reps K [] [] H [.ro (ns.map D.int)] [.ref a] := ⟨.ref a, [], rfl, ⟨a, ns.map V.int, rfl, f, rs ns⟩, rfl⟩
  refine ⟨[], [], [], _, _, R, r0, hl ns hn, fun d S' ι' H' v hd _ _ r => ?_⟩
  subst hd
  exact r
end Ov
-- OvK
/-! Working with programs over data; the laws' common defs. -/
namespace Ov
open PySem L2

/-- the lists but t stand as they stood -/
def KeepB (t : Nat) (S S' : Sto) : Prop := S'.length ≥ S.length ∧ ∀ (n : Nat) (xs : List D), n ≠ t → S[n]? = some xs → S'[n]? = some xs
def Keep (S S' : Sto) : Prop := S'.length ≥ S.length ∧ ∀ (n : Nat) (xs : List D), S[n]? = some xs → S'[n]? = some xs
theorem Keep.refl (S : Sto) : Keep S S := ⟨Nat.le_refl _, fun _ _ h => h⟩
theorem Keep.trans {S S1 S2 : Sto} (a : Keep S S1) (b : Keep S1 S2) : Keep S S2 := ⟨Nat.le_trans a.1 b.1, fun n xs h => b.2 n xs (a.2 n xs h)⟩
theorem KeepB.refl (t : Nat) (S : Sto) : KeepB t S S := ⟨Nat.le_refl _, fun _ _ _ h => h⟩
theorem KeepB.trans {t : Nat} {S S1 S2 : Sto} (a : KeepB t S S1) (b : KeepB t S1 S2) : KeepB t S S2 := ⟨Nat.le_trans a.1 b.1, fun n xs e h => b.2 n xs e (a.2 n xs e h)⟩
theorem Keep.b {t : Nat} {S S' : Sto} (a : Keep S S') : KeepB t S S' := ⟨a.1, fun n xs _ h => a.2 n xs h⟩
theorem Keep.app (S : Sto) (x : List (List D)) : Keep S (S ++ x) := ⟨by simp, fun n xs h => by
  have hn : n < S.length := (List.getElem?_eq_some_iff.mp h).1
  rw [List.getElem?_append_left hn]
  exact h⟩
theorem KeepB.set (t : Nat) (S : Sto) (x : List D) : KeepB t S (S.set t x) := ⟨by simp, fun n xs e h => by
  rw [List.getElem?_set_ne (Ne.symm e)]
  exact h⟩

/-- a tape: the script, the place, the number at hand, the total -/
def TapeL (xs : List D) : Prop := ∃ (ns : List Int) (place number total : Int), xs = [.ro (ns.map D.int), .int place, .int number, .int total] ∧ 0 ≤ place ∧ 0 ≤ number ∧ 0 ≤ total ∧ total < 2147483647
def Tape (S : Sto) (t : Nat) : Prop := ∃ xs, S[t]? = some xs ∧ TapeL xs

def dDraw : DDef :=
  ⟨"_law_draw", ["tape", "many", "number", "place"], 2, [
    .ite (.cmp .eq (.idx (.var 0) (.int 2)) (.int 0)) [
      .asg (.nm 3) (.idx (.var 0) (.int 1)),
      .asg (.nm 2) (.int 0),
      .ite (.cmp .lt (.var 3) (.bi .len [(.idx (.var 0) (.int 0))])) [
        .asg (.nm 2) (.bi .abs [(.bi .int [(.idx (.idx (.var 0) (.int 0)) (.var 3))])])] [
        .sub (.var 0) (.int 3) (.bin .mod (.bi .int [(.bin .add (.bin .add (.bin .mul (.idx (.var 0) (.int 3)) (.int 48271)) (.var 3)) (.int 1))]) (.int 2147483647)),
        .asg (.nm 2) (.idx (.var 0) (.int 3))],
      .sub (.var 0) (.int 1) (.bin .add (.var 3) (.int 1)),
      .ite (.cmp .lt (.var 2) (.bin .pow (.int 10) (.int 18))) [
        .asg (.nm 2) (.bin .mod (.bi .int [(.bin .add (.bin .add (.bin .mul (.var 2) (.int 48271)) (.bin .mul (.var 3) (.int 69621))) (.int 5))]) (.int 2147483647)),
        .asg (.nm 2) (.bin .mod (.bi .int [(.bin .mul (.var 2) (.int 69621))]) (.int 2147483629)),
        .ret (.bin .mod (.bi .int [(.var 2)]) (.bi .max [(.var 1), (.int 1)]))] [],
      .sub (.var 0) (.int 2) (.var 2)] [],
    .asg (.nm 2) (.idx (.var 0) (.int 2)),
    .sub (.var 0) (.int 2) (.bin .fdiv (.var 2) (.bi .max [(.var 1), (.int 2)])),
    .ret (.bin .mod (.bi .int [(.var 2)]) (.bi .max [(.var 1), (.int 1)]))]⟩

/-- a table's calls, sealed -/
@[irreducible] def Run (T : List DDef) (n : Nat) : Calls := callW T n
theorem Run_eq (T : List DDef) (n : Nat) : Run T n = callW T n := by unfold Run; rfl
theorem Run_mono (T : List DDef) (n : Nat) : MonoC (Run T n) := by rw [Run_eq]; exact callW_mono T n
theorem run_of {T : List DDef} {f : Nat} {d : DDef} (h : T[f]? = some d) {n : Nat} {ds : List D} {S : Sto} {k : WK} (hl : ds.length = d.np)
    (w : wSs (Run T n) d.body (startD d ds) S { nx := fun _ S1 => k .non S1, rt := k }) : Run T (n + 1) f ds S k := by
  rw [Run_eq] at w ⊢
  show (match T[f]? with
    | some d => ds.length = d.np ∧ wSs (callW T n) d.body (startD d ds) S { nx := fun _ S1 => k .non S1, rt := k }
    | none => False)
  rw [h]
  exact ⟨hl, w⟩

theorem eqI_t {a b : Int} (h : eqD (.int a) (.int b) = true) : a = b := by
  have h : (a == b) = true := h
  exact eq_of_beq h
theorem eqI_f {a b : Int} (h : eqD (.int a) (.int b) = false) : a ≠ b := by
  have h : (a == b) = false := h
  exact fun e => by rw [e, beq_self_eq_true] at h; cases h
theorem at_nat {xs : List D} {i : Int} {d : D} (h0 : 0 ≤ i) (h : xs[i.toNat]? = some d) : atI xs i = some d := by
  have hl : i.toNat < xs.length := (List.getElem?_eq_some_iff.mp h).1
  unfold atI ixN
  rw [if_pos h0, if_pos (by omega)]
  exact h
local macro_rules | `(tactic| walk_at "w") => `(tactic| conv => whnf)
local macro_rules | `(tactic| walk_at "wn") => `(tactic| simp only [List.set_cons_zero, List.set_cons_succ, Int.reduceToNat])
theorem draw_spec {T : List DDef} {f n : Nat} (hf : T[f]? = some dDraw) {S : Sto} {t : Nat} {many : Int} {k : WK} (ht : Tape S t) (hm : many < 1073741824)
    (h : ∀ r S', 0 ≤ r → r < max many 1 → Tape S' t → KeepB t S S' → S'.length = S.length → k (.int r) S') : Run T (n + 1) f [.ptr t, .int many] S k := by
  obtain ⟨xs, e, ns, place, number, total, rfl, h1, h2, h3, h4⟩ := ht
  -- the end: a number at hand is cut
  have cut : ∀ (S1 : Sto) (ns : List Int) (p nu to : Int) (σ : DEnv) (v3 : Option D), S1[t]? = some [.ro (ns.map D.int), .int p, .int nu, .int to] → 0 ≤ p → 0 ≤ nu → 0 ≤ to → to < 2147483647 → KeepB t S S1 → S1.length = S.length →
      (∃ v2, σ = [some (.ptr t), some (.int many), v2, v3]) →
      wSs (Run T n) [.asg (.nm 2) (.idx (.var 0) (.int 2)),
        .sub (.var 0) (.int 2) (.bin .fdiv (.var 2) (.bi .max [(.var 1), (.int 2)])),
        .ret (.bin .mod (.bi .int [(.var 2)]) (.bi .max [(.var 1), (.int 1)]))] σ S1 { nx := fun _ S1 => k .non S1, rt := k } := by
    rintro S1 ns p nu to σ v3 e p0 n0 t0 t1 kb hl ⟨v2, rfl⟩
    walk_at "w"
    rw [show seqOf S1 (.ptr t) = _ from e]
    walk_at "w"
    have hmx : (0 : Int) < (if (2 : Int) > many then 2 else many) ∧ (if (2 : Int) > many then 2 else many) < 1073741824 := by split <;> omega
    refine ⟨hmx, ?_⟩
    walk_at "w"
    rw [e]
    walk_at "w"
    have hm1 : (0 : Int) < (if (1 : Int) > many then 1 else many) := by split <;> omega
    refine ⟨hm1, ?_⟩
    have hr0 := Int.emod_nonneg nu (Int.ne_of_gt hm1)
    have hr1 := Int.emod_lt_of_pos nu hm1
    have ht : t < S1.length := (List.getElem?_eq_some_iff.mp e).1
    refine h _ _ hr0 ?_ ⟨_, List.getElem?_set_self ht, ns, p, _, to, rfl, p0, Int.ediv_nonneg n0 (Int.le_of_lt hmx.1), t0, t1⟩ (kb.trans (KeepB.set _ _ _)) (by rw [List.length_set]; exact hl)
    have : (if (1 : Int) > many then 1 else many) = max many 1 := by rw [Int.max_def]; split <;> split <;> omega
    rw [← this]
    exact hr1
  refine run_of hf rfl ?_
  walk_at "w"
  rw [show seqOf S (.ptr t) = _ from e]
  walk_at "w"
  refine ⟨rfl, ?_⟩
  walk_at "w"
  refine ⟨fun c => ?_, fun c => ?_⟩
  · -- no number at hand
    walk_at "w"
    rw [show seqOf S (.ptr t) = _ from e]
    walk_at "w"
    rw [show seqOf S (.ptr t) = _ from e]
    walk_at "w"
    -- what is left once a number has been found, the tape's lists as they stand
    have rest : ∀ (S1 : Sto) (nu to : Int), S1[t]? = some [.ro (ns.map D.int), .int place, .int number, .int to] → 0 ≤ nu → 0 ≤ to → to < 2147483647 → KeepB t S S1 → S1.length = S.length →
        wSs (Run T n) [.sub (.var 0) (.int 1) (.bin .add (.var 3) (.int 1)),
          .ite (.cmp .lt (.var 2) (.bin .pow (.int 10) (.int 18))) [
            .asg (.nm 2) (.bin .mod (.bi .int [(.bin .add (.bin .add (.bin .mul (.var 2) (.int 48271)) (.bin .mul (.var 3) (.int 69621))) (.int 5))]) (.int 2147483647)),
            .asg (.nm 2) (.bin .mod (.bi .int [(.bin .mul (.var 2) (.int 69621))]) (.int 2147483629)),
            .ret (.bin .mod (.bi .int [(.var 2)]) (.bi .max [(.var 1), (.int 1)]))] [],
          .sub (.var 0) (.int 2) (.var 2)] [some (.ptr t), some (.int many), some (.int nu), some (.int place)] S1
          { nx := fun σ1 S1 => wSs (Run T n) [.asg (.nm 2) (.idx (.var 0) (.int 2)),
              .sub (.var 0) (.int 2) (.bin .fdiv (.var 2) (.bi .max [(.var 1), (.int 2)])),
              .ret (.bin .mod (.bi .int [(.var 2)]) (.bi .max [(.var 1), (.int 1)]))] σ1 S1 { nx := fun _ S1 => k .non S1, rt := k }, rt := k } := by
      intro S1 nu to e n0 t0 t1 kb hl
      have htl : t < S1.length := (List.getElem?_eq_some_iff.mp e).1
      walk_at "w"
      rw [e]
      walk_at "w"
      have e2 : (S1.set t [.ro (ns.map D.int), .int (place + 1), .int number, .int to])[t]? = _ := List.getElem?_set_self htl
      have htl2 : t < (S1.set t [.ro (ns.map D.int), .int (place + 1), .int number, .int to]).length := by rw [List.length_set]; exact htl
      have kb2 := kb.trans (KeepB.set t S1 [.ro (ns.map D.int), .int (place + 1), .int number, .int to])
      have hl2 : (S1.set t [.ro (ns.map D.int), .int (place + 1), .int number, .int to]).length = S.length := by rw [List.length_set]; exact hl
      refine ⟨⟨by decide, by decide, by decide⟩, ?_⟩
      walk_at "w"
      refine ⟨fun c => ?_, fun c => ?_⟩
      · walk_at "w"
        refine ⟨.inr ⟨by decide, by decide⟩, ?_⟩
        walk_at "w"
        refine ⟨.inr ⟨by decide, by decide⟩, ?_⟩
        walk_at "w"
        refine ⟨by decide, ?_⟩
        walk_at "w"
        refine ⟨.inr ⟨by decide, by decide⟩, ?_⟩
        walk_at "w"
        refine ⟨by decide, ?_⟩
        walk_at "w"
        have hm1 : (0 : Int) < (if (1 : Int) > many then 1 else many) := by split <;> omega
        refine ⟨hm1, ?_⟩
        refine h _ _ (Int.emod_nonneg _ (Int.ne_of_gt hm1)) ?_ ⟨_, e2, ns, _, _, to, rfl, by omega, h2, t0, t1⟩ kb2 hl2
        have : (if (1 : Int) > many then 1 else many) = max many 1 := by rw [Int.max_def]; split <;> split <;> omega
        rw [← this]
        exact Int.emod_lt_of_pos _ hm1
      · walk_at "w"
        walk_at "wn"
        rw [e2]
        walk_at "w"
        exact cut _ ns (place + 1) nu to _ (some (.int place)) (List.getElem?_set_self htl2) (by omega) n0 t0 t1 (kb2.trans (KeepB.set _ _ _)) (by rw [List.length_set]; exact hl2) ⟨_, rfl⟩
    refine ⟨fun c2 => ?_, fun c2 => ?_⟩
    · -- from the script
      have hp : place < (ns.length : Int) := by
        have c2 : decide (place < ((ns.map D.int).length : Int)) = true := c2
        have := of_decide_eq_true c2
        rw [List.length_map] at this
        exact this
      have hpn : place.toNat < ns.length := by omega
      walk_at "w"
      rw [show seqOf S (.ptr t) = _ from e]
      walk_at "w"
      rw [show atI (ns.map D.int) place = some (.int ns[place.toNat]) from at_nat h1 (by rw [List.getElem?_map, List.getElem?_eq_getElem hpn]; rfl)]
      walk_at "w"
      exact rest S (if ns[place.toNat] < 0 then -ns[place.toNat] else ns[place.toNat]) total e (by split <;> omega) h3 h4 (KeepB.refl _ _) rfl
    · -- by the total
      walk_at "w"
      rw [show seqOf S (.ptr t) = _ from e]
      walk_at "w"
      refine ⟨.inr ⟨by decide, by decide⟩, ?_⟩
      walk_at "w"
      refine ⟨by decide, ?_⟩
      walk_at "w"
      rw [e]
      have htl : t < S.length := (List.getElem?_eq_some_iff.mp e).1
      walk_at "w"
      walk_at "wn"
      have e2 : (S.set t [.ro (ns.map D.int), .int place, .int number, .int ((total * 48271 + place + 1) % 2147483647)])[t]? = _ := List.getElem?_set_self htl
      rw [show seqOf (S.set t [.ro (ns.map D.int), .int place, .int number, .int ((total * 48271 + place + 1) % 2147483647)]) (.ptr t) = _ from e2]
      walk_at "w"
      exact rest _ _ _ e2 (Int.emod_nonneg _ (by decide)) (Int.emod_nonneg _ (by decide)) (Int.emod_lt_of_pos _ (by decide)) (KeepB.set _ _ _) (by rw [List.length_set])
  · walk_at "w"
    exact cut S ns place number total _ none e h1 h2 h3 h4 (KeepB.refl _ _) rfl ⟨_, rfl⟩
end Ov
-- OvL
/-! Loops and comprehensions over data; common defs of the laws. -/
namespace Ov
open PySem L2
local macro_rules | `(tactic| walk_at "w") => `(tactic| conv => whnf)
local macro_rules | `(tactic| walk_at "wn") => `(tactic| simp only [List.set_cons_zero, List.set_cons_succ, Int.reduceToNat])

/-! ### loops -/
def forB (C : Calls) (p : PP) (b : List PSt) : D → DEnv → Sto → DEnds → Prop := fun x σ S E => bindW p x σ fun σ2 => wSs C b σ2 S E
theorem forB_mono {C : Calls} (hC : MonoC C) (p : PP) (b : List PSt) : ∀ x σ S (E E' : DEnds), E.Le E' → forB C p b x σ S E → forB C p b x σ S E' :=
  fun x σ S E E' i h => bindW_mono (fun σ2 h2 => wSs_mono hC b σ2 S E E' i h2) p x σ h
theorem for_inv' {body : D → DEnv → Sto → DEnds → Prop} (hb : ∀ x σ S (E E' : DEnds), E.Le E' → body x σ S E → body x σ S E') (I : Nat → DEnv → Sto → Prop) {all : List D} {E : DEnds} :
    ∀ (xs : List D) (i : Nat) (σ : DEnv) (S : Sto), all.drop i = xs → i + xs.length = all.length → I i σ S →
    (∀ i x σ S, all[i]? = some x → I i σ S → body x σ S { nx := I (i + 1), rt := E.rt, bk := E.nx, ct := I (i + 1) }) → (∀ σ S, I all.length σ S → E.nx σ S) → forW body none all xs σ S E
  | [], i, σ, S, hd, hi, h0, hs, he => by
    have hi : i = all.length := hi
    subst hi
    exact ⟨trivial, he _ _ h0⟩
  | x :: xs, i, σ, S, hd, hi, h0, hs, he => by
    obtain ⟨hx, hr, _⟩ := drop_cons hd
    have hi2 : i + 1 + xs.length = all.length := by simp at hi; omega
    refine ⟨trivial, hb x σ S _ _ ?_ (hs i x σ S hx h0)⟩
    exact ⟨fun σ1 S1 h1 => for_inv' hb I xs (i + 1) σ1 S1 hr hi2 h1 hs he, fun _ _ h => h, fun _ _ h => h, fun σ1 S1 h1 => for_inv' hb I xs (i + 1) σ1 S1 hr hi2 h1 hs he⟩
/-- a loop by an invariant: over the turn, the slots, the lists -/
theorem for_inv {C : Calls} (hC : MonoC C) {p : PP} {b : List PSt} (I : Nat → DEnv → Sto → Prop) {all : List D} {E : DEnds} {σ : DEnv} {S : Sto} (h0 : I 0 σ S)
    (hs : ∀ i x σ S, all[i]? = some x → I i σ S → forB C p b x σ S { nx := I (i + 1), rt := E.rt, bk := E.nx, ct := I (i + 1) }) (he : ∀ σ S, I all.length σ S → E.nx σ S) : forW (forB C p b) none all all σ S E :=
  for_inv' (forB_mono hC p b) I all 0 σ S rfl (Nat.zero_add _) h0 hs he

/-! ### comprehensions -/
def compB (C : Calls) (elt : PX) (p : PP) (σ : DEnv) (cond : Option PX) : D → Sto → (Bool → D → Sto → Prop) → Prop := fun x S2 kk => bindW p x σ fun σ1 => wC C cond σ1 S2 fun b S3 => (b = true → wE C elt σ1 S3 fun d S4 => kk true d S4) ∧ (b = false → kk false .non S3)
theorem compB_mono {C : Calls} (hC : MonoC C) (elt : PX) (p : PP) (σ : DEnv) (cond : Option PX) : ∀ x S (k k' : Bool → D → Sto → Prop), (∀ b d S, k b d S → k' b d S) → compB C elt p σ cond x S k → compB C elt p σ cond x S k' :=
  fun x S k k' i h => bindW_mono (fun σ1 h3 => wC_mono hC cond σ1 S _ _ (fun b S3 h4 => ⟨fun e => wE_mono hC elt σ1 S3 _ _ (fun d S4 h5 => i _ _ _ h5) (h4.1 e), fun e => i _ _ _ (h4.2 e)⟩) h3) p x _ h
def collect (p : D → Bool) (f : D → D) (xs : List D) : List D := (xs.filter p).map f
/-- a comprehension that changes nothing -/
theorem comp_pure {body : D → Sto → (Bool → D → Sto → Prop) → Prop} {all : List D} {S : Sto} (p : D → Bool) (f : D → D) :
    ∀ (xs : List D) (k : List D → Sto → Prop), (∀ x ∈ xs, ∀ kk : Bool → D → Sto → Prop, kk (p x) (f x) S → body x S kk) → k (collect p f xs) S → compW body none all xs S k
  | [], k, _, h => ⟨trivial, h⟩
  | x :: xs, k, hb, h => by
    refine ⟨trivial, hb x List.mem_cons_self _ ?_⟩
    refine comp_pure p f xs _ (fun y hy => hb y (List.mem_cons_of_mem _ hy)) ?_
    unfold collect at h
    cases hp : p x with
    | true =>
      rw [List.filter_cons_of_pos hp] at h
      exact h
    | false =>
      rw [List.filter_cons_of_neg (by rw [hp]; exact Bool.false_ne_true)] at h
      exact h
/-- .. with a choice -/
theorem comp_pick {body : D → Sto → (Bool → D → Sto → Prop) → Prop} {all : List D} {S : Sto} (p : D → Bool) (f : D → D) :
    ∀ (xs : List D) (k : List D → Sto → Prop), (∀ x ∈ xs, ∀ kk : Bool → D → Sto → Prop, (p x = true → kk true (f x) S) → (p x = false → kk false .non S) → body x S kk) → k (collect p f xs) S → compW body none all xs S k
  | [], k, _, h => ⟨trivial, h⟩
  | x :: xs, k, hb, h => by
    unfold collect at h
    cases hp : p x with
    | true =>
      rw [List.filter_cons_of_pos hp] at h
      exact ⟨trivial, hb x List.mem_cons_self _ (fun _ => comp_pick p f xs _ (fun y hy => hb y (List.mem_cons_of_mem _ hy)) h) fun e => by rw [hp] at e; cases e⟩
    | false =>
      rw [List.filter_cons_of_neg (by rw [hp]; exact Bool.false_ne_true)] at h
      exact ⟨trivial, hb x List.mem_cons_self _ (fun e => by rw [hp] at e; cases e) fun _ => comp_pick p f xs _ (fun y hy => hb y (List.mem_cons_of_mem _ hy)) h⟩
/-- .. by an invariant: over the turn, what is made so far, the lists -/
theorem comp_inv' {body : D → Sto → (Bool → D → Sto → Prop) → Prop} (hb : ∀ x S (k k' : Bool → D → Sto → Prop), (∀ b d S, k b d S → k' b d S) → body x S k → body x S k') (I : Nat → List D → Sto → Prop) {all : List D} :
    ∀ (xs : List D) (i : Nat) (out : List D) (S : Sto) (k : List D → Sto → Prop), all.drop i = xs → i + xs.length = all.length → I i out S →
    (∀ i x out S, all[i]? = some x → I i out S → body x S fun b d S1 => I (i + 1) (if b = true then out ++ [d] else out) S1) → (∀ o S, I all.length (out ++ o) S → k o S) → compW body none all xs S k
  | [], i, out, S, k, hd, hi, h0, hs, he => by
    have hi : i = all.length := hi
    subst hi
    exact ⟨trivial, he [] S (by rw [List.append_nil]; exact h0)⟩
  | x :: xs, i, out, S, k, hd, hi, h0, hs, he => by
    obtain ⟨hx, hr, _⟩ := drop_cons hd
    have hi2 : i + 1 + xs.length = all.length := by simp at hi; omega
    refine ⟨trivial, hb x S _ _ (fun b d S1 h1 => ?_) (hs i x out S hx h0)⟩
    refine comp_inv' hb I xs (i + 1) _ S1 _ hr hi2 h1 hs fun o S2 h2 => he _ S2 ?_
    cases b with
    | true =>
      simp only [if_true] at h2 ⊢
      rw [List.append_assoc] at h2
      exact h2
    | false => exact h2
theorem comp_inv {C : Calls} (hC : MonoC C) {elt : PX} {p : PP} {σ : DEnv} {cond : Option PX} (I : Nat → List D → Sto → Prop) {all : List D} {S : Sto} {k : List D → Sto → Prop} (h0 : I 0 [] S)
    (hs : ∀ i x out S, all[i]? = some x → I i out S → compB C elt p σ cond x S fun b d S1 => I (i + 1) (if b = true then out ++ [d] else out) S1) (he : ∀ o S, I all.length o S → k o S) : compW (compB C elt p σ cond) none all all S k :=
  comp_inv' (compB_mono hC elt p σ cond) I all 0 [] S k rfl (Nat.zero_add _) h0 hs fun o S h => he o S h

/-! ### comprehensions of two clauses -/
/-- .. that change nothing -/
theorem acc_flat {body : D → Sto → List D → (List D → Sto → Prop) → Prop} {all : List D} {S : Sto} (f : D → List D) :
    ∀ (xs out : List D) (k : List D → Sto → Prop), (∀ x ∈ xs, ∀ (out : List D) (kk : List D → Sto → Prop), out.length + (f x).length ≤ sizeLine → kk (out ++ f x) S → body x S out kk) →
      out.length + (xs.map f).flatten.length ≤ sizeLine → k (out ++ (xs.map f).flatten) S → accW body none all xs S out k
  | [], out, k, _, _, h => ⟨trivial, by simpa using h⟩
  | x :: xs, out, k, hb, hl, h => by
    simp only [List.map_cons, List.flatten_cons, List.length_append] at hl h
    refine ⟨trivial, hb x List.mem_cons_self _ _ (by omega) ?_⟩
    refine acc_flat f xs _ _ (fun y hy => hb y (List.mem_cons_of_mem _ hy)) (by simp only [List.length_append]; omega) ?_
    rw [List.append_assoc]
    exact h
/-- the inner clause: one item a turn -/
theorem acc_each {body : D → Sto → List D → (List D → Sto → Prop) → Prop} {all : List D} {S : Sto} (g : D → D) (xs out : List D) (k : List D → Sto → Prop)
    (hb : ∀ x ∈ xs, ∀ (out : List D) (kk : List D → Sto → Prop), out.length < sizeLine → kk (out ++ [g x]) S → body x S out kk) (hl : out.length + xs.length ≤ sizeLine) (h : k (out ++ xs.map g) S) : accW body none all xs S out k := by
  have e : (xs.map fun x => [g x]).flatten = xs.map g := by
    clear hb hl h
    induction xs with
    | nil => rfl
    | cons x xs ih => simp [ih]
  refine acc_flat (fun x => [g x]) xs out k (fun x hx o kk ho hk => hb x hx o kk (by simp only [List.length_cons, List.length_nil] at ho; omega) hk) (by rw [e, List.length_map]; exact hl) (by rw [e]; exact h)

/-! ### the tape -/
def dTape : DDef :=
  ⟨"_law_tape", ["script", "total", "cell"], 1, [
    .asg (.nm 1) (.int 7),
    .forS (.nm 2) .sq [(.var 0)] [
      .asg (.nm 1) (.bin .mod (.bi .int [(.bin .add (.bin .mul (.var 1) (.int 31)) (.bi .abs [(.bi .int [(.var 2)])]))]) (.int 2147483647))],
    .ret (.mls [(.bi .list [(.var 0)]), (.int 0), (.int 0), (.var 1)])]⟩
theorem tape_spec {T : List DDef} {f n : Nat} (hf : T[f]? = some dTape) {S : Sto} {ns : List Int} {k : WK} (h : ∀ S', Tape S' S.length → S'.length = S.length + 1 → Keep S S' → k (.ptr S.length) S') : Run T (n + 1) f [.ro (ns.map D.int)] S k := by
  refine run_of hf rfl ?_
  walk_at "w"
  refine ⟨trivial, ?_⟩
  refine for_inv (Run_mono T n) (fun i σ S1 => S1 = S ∧ ∃ (t : Int) (v : Option D), σ = [some (.ro (ns.map D.int)), some (.int t), v] ∧ 0 ≤ t ∧ t < 2147483647) ⟨rfl, 7, none, rfl, by decide, by decide⟩ ?_ ?_
  · rintro i x σ S1 hx ⟨rfl, t, v, rfl, h1, h2⟩
    rw [List.getElem?_map] at hx
    obtain ⟨m, _, rfl⟩ := Option.map_eq_some_iff.mp hx
    walk_at "w"
    refine ⟨.inr ⟨by decide, by decide⟩, ?_⟩
    walk_at "w"
    refine ⟨by decide, ?_⟩
    exact ⟨rfl, _, _, rfl, Int.emod_nonneg _ (by decide), Int.emod_lt_of_pos _ (by decide)⟩
  · rintro σ S1 ⟨rfl, t, v, rfl, h1, h2⟩
    walk_at "w"
    refine h _ ⟨_, List.getElem?_concat_length .., ns, 0, 0, t, rfl, by decide, by decide, h1, h2⟩ (by simp) (Keep.app _ _)

/-! ### equal data -/
def dSame (f : Nat) : DDef :=
  ⟨"_law_same", ["told", "due", "k"], 2, [
    .ite (.cmp .is (.var 1) .non) [
      .ret (.cmp .is (.var 0) .non)] [],
    .ite (.tru (.bi (.isI "tuple") [(.var 1)])) [
      .ite (.orv (.notv (.tru (.bi (.isI "tuple") [(.var 0)]))) (.one (.cmp .ne (.bi .len [(.var 0)]) (.bi .len [(.var 1)])))) [
        .ret (.bl false)] [],
      .ret (.cmp .eq (.bi .len [(.comp false (.var 2) (.nm 2) [("k", 2)] .rg [(.bi .len [(.var 1)])] (some (.notv (.tru (.call f [(.idx (.var 0) (.var 2)), (.idx (.var 1) (.var 2))])))))]) (.int 0))] [],
    .ite (.tru (.bi (.isI "str") [(.var 1)])) [
      .ret (.andv (.bi (.isI "str") [(.var 0)]) (.one (.cmp .eq (.var 0) (.var 1))))] [],
    .ret (.andv (.bi (.isI "int") [(.var 0)]) (.andv (.cmp .eq (.bi (.isI "bool") [(.var 0)]) (.bi (.isI "bool") [(.var 1)])) (.one (.cmp .eq (.var 0) (.var 1)))))]⟩
mutual
/-- data without lists, at most m deep, with lengths in bounds -/
def good : Nat → D → Prop
  | _, .non => True
  | _, .bl _ => True
  | _, .int _ => True
  | _, .str _ => True
  | 0, .tup _ => False
  | m + 1, .tup xs => xs.length < 1000000 ∧ goods m xs
  | _, .ro _ => False
  | _, .ptr _ => False
  | _, .dic _ _ => False
  | _, .rng _ _ => False
  | _, .frt _ => False
def goods : Nat → List D → Prop
  | _, [] => True
  | m, x :: xs => good m x ∧ goods m xs
end
theorem goods_mem : ∀ {m : Nat} {xs : List D} {x : D}, goods m xs → x ∈ xs → good m x
  | m, y :: ys, x, h, hx => by
    have h : good m y ∧ goods m ys := h
    rcases List.mem_cons.mp hx with e | hx
    · rw [e]; exact h.1
    · exact goods_mem h.2 hx
theorem eqS_refl (s : Str) : eqD (.str s) (.str s) = true := by
  show (s == s) = true
  exact beq_self_eq_true s
theorem eqI_refl (i : Int) : eqD (.int i) (.int i) = true := by
  show (i == i) = true
  exact beq_self_eq_true i
theorem range_mem {lo : Int} {n : Nat} {x : D} (h : x ∈ rangeD lo n) : ∃ i : Nat, i < n ∧ x = .int (lo + i) := by
  unfold rangeD at h
  obtain ⟨i, hi, e⟩ := List.mem_map.mp h
  exact ⟨i, List.mem_range.mp hi, e.symm⟩
theorem same_spec {T : List DDef} {f : Nat} (hf : T[f]? = some (dSame f)) : ∀ (m n : Nat) (x : D) (S : Sto) (k : WK), good m x → k (.bl true) S → Run T (n + m + 1) f [x, x] S k := by
  intro m
  have flat : ∀ (n : Nat) (x : D) (S : Sto) (k : WK), flatD x = true → k (.bl true) S → Run T (n + 1) f [x, x] S k := by
    intro n x S k hg hk
    refine run_of hf rfl ?_
    cases x with
    | non =>
      walk_at "w"
      exact ⟨fun _ => hk, fun h => by cases h⟩
    | int i =>
      walk_at "w"
      refine ⟨fun h => (by cases h), fun _ => ?_⟩
      walk_at "w"
      refine ⟨fun h => (by cases h), fun _ => ?_⟩
      walk_at "w"
      refine ⟨fun h => (by cases h), fun _ => ?_⟩
      walk_at "w"
      refine ⟨rfl, ?_⟩
      walk_at "w"
      refine ⟨rfl, ?_⟩
      show k (.bl (eqD (.int i) (.int i))) S
      rw [eqI_refl]
      exact hk
    | bl i =>
      walk_at "w"
      refine ⟨fun h => (by cases h), fun _ => ?_⟩
      walk_at "w"
      refine ⟨fun h => (by cases h), fun _ => ?_⟩
      walk_at "w"
      refine ⟨fun h => (by cases h), fun _ => ?_⟩
      walk_at "w"
      refine ⟨rfl, ?_⟩
      walk_at "w"
      refine ⟨rfl, ?_⟩
      cases i <;> exact hk
    | str i =>
      walk_at "w"
      refine ⟨fun h => (by cases h), fun _ => ?_⟩
      walk_at "w"
      refine ⟨fun h => (by cases h), fun _ => ?_⟩
      walk_at "w"
      refine ⟨fun _ => ?_, fun h => by cases h⟩
      walk_at "w"
      refine ⟨rfl, ?_⟩
      show k (.bl (eqD (.str i) (.str i))) S
      rw [eqS_refl]
      exact hk
    | _ => cases hg
  induction m with
  | zero =>
    intro n x S k hg hk
    cases x with
    | tup _ => exact hg.elim
    | ro _ => exact hg.elim
    | ptr _ => exact hg.elim
    | dic _ _ => exact hg.elim
    | rng _ _ => exact hg.elim
    | frt _ => exact hg.elim
    | _ => exact flat n _ S k rfl hk
  | succ m ih =>
    intro n x S k hg hk
    cases x with
    | ro _ => exact hg.elim
    | ptr _ => exact hg.elim
    | dic _ _ => exact hg.elim
    | rng _ _ => exact hg.elim
    | frt _ => exact hg.elim
    | tup xs =>
      obtain ⟨hl, hg⟩ := hg
      refine run_of hf rfl ?_
      walk_at "w"
      refine ⟨fun h => (by cases h), fun _ => ?_⟩
      walk_at "w"
      refine ⟨fun _ => ?_, fun h => by cases h⟩
      walk_at "w"
      refine ⟨fun h => (by cases h), fun _ => ?_⟩
      walk_at "w"
      refine ⟨rfl, ?_⟩
      have e0 : eqD (.int (xs.length : Int)) (.int (xs.length : Int)) = true := eqI_refl _
      refine ⟨fun h => ?_, fun _ => ?_⟩
      · have h : (!eqD (.int (xs.length : Int)) (.int (xs.length : Int))) = true := h
        rw [e0] at h
        cases h
      walk_at "w"
      have hb : big62 (xs.length : Int) := ⟨by omega, by omega⟩
      refine ⟨hb, ?_⟩
      have hlen : (rangeD 0 (xs.length : Int).toNat).length < sizeLine := by rw [rangeD_len]; show _ < 16777216; omega
      refine ⟨hlen, ?_⟩
      refine comp_pure (fun _ => false) (fun _ => .non) _ _ (fun y hy kk hkk => ?_) ?_
      · obtain ⟨i, hi, rfl⟩ := range_mem hy
        have hi : i < xs.length := by omega
        have ha : atI xs (0 + (i : Int)) = some xs[i] := at_nat (by omega) (by rw [show (0 + (i : Int)).toNat = i by omega]; exact List.getElem?_eq_getElem hi)
        walk_at "w"
        rw [ha]
        walk_at "w"
        rw [ha]
        walk_at "w"
        refine ih n xs[i] S _ (goods_mem hg (List.getElem_mem hi)) ?_
        walk_at "w"
        exact ⟨fun h => (by cases h), fun _ => hkk⟩
      · have e : collect (fun _ => false) (fun _ => .non) (rangeD 0 (xs.length : Int).toNat) = [] := by
          unfold collect
          rw [List.filter_eq_nil_iff.mpr (fun a _ => Bool.false_ne_true)]
          rfl
        rw [e]
        walk_at "w"
        exact ⟨rfl, hk⟩
    | _ => exact flat (n + m + 1) _ S k rfl hk
end Ov
-- OvN
/-! Business days: the mathematics, and what program and laws say of them. -/
namespace Ov
open PySem L2
local macro_rules | `(tactic| walk_at "w") => `(tactic| conv => whnf)
local macro_rules | `(tactic| walk_at "wn") => `(tactic| simp only [List.set_cons_zero, List.set_cons_succ, Int.reduceToNat])

theorem least_at {p : Nat → Bool} : ∀ {m : Nat}, p m = true → ∃ i, i ≤ m ∧ p i = true ∧ ∀ j, j < i → p j = false := by
  intro m
  induction m using Nat.strongRecOn with
  | ind m ih =>
    intro h
    by_cases hx : ∃ j, j < m ∧ p j = true
    · obtain ⟨j, hj, e⟩ := hx
      obtain ⟨i, hi, e2, e3⟩ := ih j hj e
      exact ⟨i, by omega, e2, e3⟩
    · refine ⟨m, Nat.le_refl _, h, fun j hj => ?_⟩
      cases e : p j with
      | false => rfl
      | true => exact (hx ⟨j, hj, e⟩).elim
theorem nodup_le : ∀ {l m : List Int}, l.Nodup → (∀ x ∈ l, x ∈ m) → l.length ≤ m.length
  | [], m, _, _ => Nat.zero_le _
  | x :: l, m, hn, hs => by
    have hx : x ∈ m := hs x List.mem_cons_self
    have ih : l.length ≤ (m.erase x).length := nodup_le (List.nodup_cons.mp hn).2 fun y hy => by
      have hne : y ≠ x := fun e => (List.nodup_cons.mp hn).1 (e ▸ hy)
      exact (List.mem_erase_of_ne hne).mpr (hs y (List.mem_cons_of_mem _ hy))
    rw [List.length_erase_of_mem hx] at ih
    have : 0 < m.length := List.length_pos_of_mem hx
    rw [List.length_cons]
    omega

/-- a week's signs and closed days -/
structure Cal (wk : List Nat) (cl : List Int) : Prop where
  len : wk.length = 7
  one : ∃ i, i < 7 ∧ wk[i]? = some 49
  few : cl.length ≤ 10
def calD (wk : List Nat) (cl : List Int) : D := .tup [.str ⟨wk.toArray⟩, .tup (cl.map D.int)]
def biz (wk : List Nat) (cl : List Int) (d : Int) : Bool := (wk.getD (d % 7).toNat 0 == 49) && !(cl.any fun c => c == d)

theorem biz_of {wk : List Nat} {cl : List Int} {d : Int} (h1 : wk[(d % 7).toNat]? = some 49) (h2 : d ∉ cl) : biz wk cl d = true := by
  unfold biz
  rw [List.getD_eq_getElem?_getD, h1]
  simp only [Option.getD_some, beq_self_eq_true, Bool.true_and, Bool.not_eq_true', List.any_eq_false, beq_iff_eq]
  exact fun x hx e => h2 (e ▸ hx)
/-- among eleven days a week apart one is open -/
theorem pigeon {cl : List Int} (h : cl.length ≤ 10) (e : Int) : ∃ i : Nat, i ≤ 10 ∧ e + 7 * (i : Int) ∉ cl := by
  refine Classical.byContradiction fun hc => ?_
  have hall : ∀ i : Nat, i ≤ 10 → e + 7 * (i : Int) ∈ cl := fun i hi => Classical.byContradiction fun hn => hc ⟨i, hi, hn⟩
  have hn : ((List.range 11).map fun (i : Nat) => e + 7 * (i : Int)).Nodup := by
    rw [List.nodup_iff_pairwise_ne]
    refine List.Pairwise.map (R := fun (a b : Nat) => a ≠ b) _ (fun a b hab e => ?_) (List.nodup_iff_pairwise_ne.mp List.nodup_range)
    omega
  have := nodup_le hn fun x hx => by
    obtain ⟨i, hi, rfl⟩ := List.mem_map.mp hx
    exact hall i (by have := List.mem_range.mp hi; omega)
  simp at this
  omega
theorem Cal.next {wk : List Nat} {cl : List Int} (c : Cal wk cl) (d : Int) : ∃ m : Nat, m ≤ 76 ∧ biz wk cl (d + m) = true ∧ ∀ j : Nat, j < m → biz wk cl (d + j) = false := by
  obtain ⟨i, hi, e⟩ := c.one
  have hr : ∃ r : Nat, r < 7 ∧ (d + r) % 7 = i := ⟨(((i : Int) - d) % 7).toNat, by omega, by omega⟩
  obtain ⟨r, hr, hr2⟩ := hr
  obtain ⟨q, hq, hq2⟩ := pigeon c.few (d + r)
  have hb : biz wk cl (d + ((r + 7 * q : Nat) : Int)) = true := by
    refine biz_of ?_ ?_
    · rw [show ((d + ((r + 7 * q : Nat) : Int)) % 7).toNat = i by omega]
      exact e
    · rw [show d + ((r + 7 * q : Nat) : Int) = d + r + 7 * (q : Int) by omega]
      exact hq2
  obtain ⟨m, h1, h2, h3⟩ := least_at (p := fun j => biz wk cl (d + (j : Int))) hb
  exact ⟨m, by omega, h2, h3⟩
theorem Cal.prev {wk : List Nat} {cl : List Int} (c : Cal wk cl) (d : Int) : ∃ m : Nat, m ≤ 76 ∧ biz wk cl (d - m) = true ∧ ∀ j : Nat, j < m → biz wk cl (d - j) = false := by
  obtain ⟨i, hi, e⟩ := c.one
  have hr : ∃ r : Nat, r < 7 ∧ (d - r) % 7 = i := ⟨((d - (i : Int)) % 7).toNat, by omega, by omega⟩
  obtain ⟨r, hr, hr2⟩ := hr
  obtain ⟨q, hq, hq2⟩ := pigeon c.few (d - r - 70)
  have hb : biz wk cl (d - ((r + (70 - 7 * q) : Nat) : Int)) = true := by
    refine biz_of ?_ ?_
    · rw [show ((d - ((r + (70 - 7 * q) : Nat) : Int)) % 7).toNat = i by omega]
      exact e
    · rw [show d - ((r + (70 - 7 * q) : Nat) : Int) = d - r - 70 + 7 * (q : Int) by omega]
      exact hq2
  obtain ⟨m, h1, h2, h3⟩ := least_at (p := fun j => biz wk cl (d - (j : Int))) hb
  exact ⟨m, by omega, h2, h3⟩

/-! ### readings -/
theorem flats_map (cl : List Int) : (cl.map D.int).all flatD = true := by
  rw [List.all_map]
  exact List.all_eq_true.mpr fun _ _ => rfl
theorem any_map (cl : List Int) (d : Int) : ((cl.map D.int).any fun z => eqD z (.int d)) = cl.any fun c => c == d := by
  rw [List.any_map]
  rfl
theorem wk_at {wk : List Nat} {cl : List Int} (c : Cal wk cl) (d : Int) : atI (wk.toArray.toList) (d % 7) = some (wk.getD (d % 7).toNat 0) ∧ Str.length ⟨wk.toArray⟩ ≤ sizeLine := by
  have h0 := Int.emod_nonneg d (by decide : (7 : Int) ≠ 0)
  have h1 := Int.emod_lt_of_pos d (by decide : (0 : Int) < 7)
  have hl : (d % 7).toNat < wk.length := by rw [c.len]; omega
  constructor
  · unfold atI ixN
    have hl2 : d % 7 < ((wk.toArray.toList).length : Int) := by simp; rw [c.len]; omega
    rw [if_pos h0, if_pos hl2]
    show wk.toArray.toList[(d % 7).toNat]? = _
    rw [List.getD_eq_getElem?_getD, List.toList_toArray, List.getElem?_eq_getElem hl]
    rfl
  · show wk.toArray.size ≤ 16777216
    simp
    rw [c.len]
    decide
theorem one_eq (c : Nat) : eqD (.str ⟨#[c]⟩) (.str "1") = (c == 49) := by
  show ((⟨#[c]⟩ : Str) == (Str.ofString "1")) = (c == 49)
  have e : Str.ofString "1" = ⟨#[49]⟩ := by decide +kernel
  rw [e]
  rw [Bool.eq_iff_iff]
  simp
end Ov
-- OvO
/-! Calendars: the laws' defs. -/
namespace Ov
open PySem L2
local macro_rules | `(tactic| walk_at "w") => `(tactic| conv => whnf)
local macro_rules | `(tactic| walk_at "wn") => `(tactic| simp only [List.set_cons_zero, List.set_cons_succ, Int.reduceToNat])

theorem range_at {lo : Int} {n i : Nat} {x : D} (h : (rangeD lo n)[i]? = some x) : i < n ∧ x = .int (lo + i) := by
  unfold rangeD at h
  rw [List.getElem?_map] at h
  obtain ⟨j, hj, e⟩ := Option.map_eq_some_iff.mp h
  have hl := (List.getElem?_eq_some_iff.mp hj).1
  rw [List.length_range] at hl
  rw [List.getElem?_range hl] at hj
  cases hj
  exact ⟨hl, e.symm⟩
theorem down_at {lo : Int} {n i : Nat} {x : D} (h : (downD lo n)[i]? = some x) : i < n ∧ x = .int (lo - i) := by
  unfold downD at h
  rw [List.getElem?_map] at h
  obtain ⟨j, hj, e⟩ := Option.map_eq_some_iff.mp h
  have hl := (List.getElem?_eq_some_iff.mp hj).1
  rw [List.length_range] at hl
  rw [List.getElem?_range hl] at hj
  cases hj
  exact ⟨hl, e.symm⟩
theorem down_len (lo : Int) (n : Nat) : (downD lo n).length = n := by unfold downD; simp

/-! ### mixed -/
def dMixed : DDef :=
  ⟨"_law_mixed", ["one", "two", "k"], 3, [
    .ite (.cmp .lt (.var 2) (.int 0)) [
      .ret (.var 0)] [],
    .ret (.bin .add (.bin .add (.slc (.var 0) none (some (.var 2))) (.tup [(.idx (.var 1) (.var 2))])) (.slc (.var 0) (some (.bin .add (.var 2) (.int 1))) none))]⟩

/-! ### base -/
def dBase (fd : Nat) : DDef :=
  ⟨"_law_base", ["tape", "choice"], 1, [
    .asg (.nm 1) (.call fd [(.var 0), (.int 5)]),
    .ret (.bin .add (.idx (.ls [(.int 0), (.int 1), (.int 0), (.int 0), (.int 392)]) (.var 1)) (.call fd [(.var 0), (.idx (.ls [(.int 1), (.int 13), (.int 100), (.int 401), (.int 9)]) (.var 1))]))]⟩
theorem base_spec {T : List DDef} {f fd n : Nat} (hf : T[f]? = some (dBase fd)) (hd : T[fd]? = some dDraw) {S : Sto} {t : Nat} {k : WK} (ht : Tape S t)
    (h : ∀ b S', 0 ≤ b → b ≤ 400 → Tape S' t → KeepB t S S' → S'.length = S.length → k (.int b) S') : Run T (n + 2) f [.ptr t] S k := by
  refine run_of hf rfl ?_
  walk_at "w"
  refine draw_spec hd ht (by decide) fun r S1 r0 r1 ht1 kb1 hl1 => ?_
  walk_at "w"
  have r1 : r < 5 := r1
  rcases (by omega : r = 0 ∨ r = 1 ∨ r = 2 ∨ r = 3 ∨ r = 4) with rfl | rfl | rfl | rfl | rfl
  all_goals
    walk_at "w"
    refine draw_spec hd ht1 (by decide) fun r S2 r2 r3 ht2 kb2 hl2 => ?_
    walk_at "w"
    exact h _ _ (by omega) (by omega) ht2 (kb1.trans kb2) (by rw [hl2, hl1])

/-! ### week -/
def dWeek (fd : Nat) : DDef :=
  ⟨"_law_week", ["tape", "number", "k"], 1, [
    .asg (.nm 1) (.idx (.ls [(.int 127), (.int 62), (.bin .add (.int 1) (.call fd [(.var 0), (.int 127)]))]) (.call fd [(.var 0), (.int 3)])),
    .ite (.cmp .eq (.call fd [(.var 0), (.int 6)]) (.int 0)) [
      .asg (.nm 1) (.idx (.ls [(.int 1), (.int 2), (.int 4), (.int 8), (.int 16), (.int 32), (.int 64)]) (.call fd [(.var 0), (.int 7)]))] [],
    .ret (.meth .join (.str "") [(.comp false (.bi .str [(.bin .mod (.bin .fdiv (.var 1) (.idx (.ls [(.int 1), (.int 2), (.int 4), (.int 8), (.int 16), (.int 32), (.int 64)]) (.var 2))) (.int 2))]) (.nm 2) [("k", 2)] .rg [(.int 7)] none)])]⟩
def bitD (m : Int) : D → D
  | .int i => .str (Str.ofString (toString (m / (2 ^ i.toNat) % 2)))
  | _ => .non
def sign (z : Int) : Nat := if z = 0 then 48 else 49
def signs (m : Int) : List Nat := [sign (m / 1 % 2), sign (m / 2 % 2), sign (m / 4 % 2), sign (m / 8 % 2), sign (m / 16 % 2), sign (m / 32 % 2), sign (m / 64 % 2)]
theorem bit_str {z : Int} (h : z = 0 ∨ z = 1) : Str.ofString (toString z) = ⟨#[sign z]⟩ := by
  rcases h with rfl | rfl <;> decide +kernel
theorem log_bit {z : Int} (h : z = 0 ∨ z = 1) : Nat.log2 z.natAbs < 1920 := by
  rcases h with rfl | rfl <;> decide
theorem bits_eq (m : Int) : (collect (fun _ => true) (bitD m) (rangeD 0 7)) = (signs m).map fun c => D.str ⟨#[c]⟩ := by
  have e : (collect (fun _ => true) (bitD m) (rangeD 0 7)) = [.str (Str.ofString (toString (m / 1 % 2))), .str (Str.ofString (toString (m / 2 % 2))), .str (Str.ofString (toString (m / 4 % 2))), .str (Str.ofString (toString (m / 8 % 2))), .str (Str.ofString (toString (m / 16 % 2))), .str (Str.ofString (toString (m / 32 % 2))), .str (Str.ofString (toString (m / 64 % 2)))] := rfl
  rw [e]
  have h : ∀ q : Int, Str.ofString (toString (m / q % 2)) = ⟨#[sign (m / q % 2)]⟩ := fun q => bit_str (by omega)
  simp only [h]
  rfl
theorem signs_one {m : Int} (h1 : 1 ≤ m) (h2 : m ≤ 127) : ∃ i, i < 7 ∧ (signs m)[i]? = some 49 := by
  have s : ∀ z : Int, z = 1 → sign z = 49 := fun z h => by rw [h]; rfl
  rcases (by omega : m / 1 % 2 = 1 ∨ m / 2 % 2 = 1 ∨ m / 4 % 2 = 1 ∨ m / 8 % 2 = 1 ∨ m / 16 % 2 = 1 ∨ m / 32 % 2 = 1 ∨ m / 64 % 2 = 1) with h | h | h | h | h | h | h
  · exact ⟨0, by decide, congrArg some (s _ h)⟩
  · exact ⟨1, by decide, congrArg some (s _ h)⟩
  · exact ⟨2, by decide, congrArg some (s _ h)⟩
  · exact ⟨3, by decide, congrArg some (s _ h)⟩
  · exact ⟨4, by decide, congrArg some (s _ h)⟩
  · exact ⟨5, by decide, congrArg some (s _ h)⟩
  · exact ⟨6, by decide, congrArg some (s _ h)⟩
theorem join_signs (m : Int) : Txt.join "" ((signs m).map fun c => ⟨#[c]⟩) = ⟨(signs m).toArray⟩ := by rfl
theorem week_spec {T : List DDef} {f fd n : Nat} (hf : T[f]? = some (dWeek fd)) (hd : T[fd]? = some dDraw) {S : Sto} {t : Nat} {k : WK} (ht : Tape S t)
    (h : ∀ (wk : List Nat) S', wk.length = 7 → (∃ i, i < 7 ∧ wk[i]? = some 49) → Tape S' t → KeepB t S S' → S'.length = S.length → k (.str ⟨wk.toArray⟩) S') : Run T (n + 2) f [.ptr t] S k := by
  refine run_of hf rfl ?_
  walk_at "w"
  have rest : ∀ (m : Int) (S1 : Sto), 1 ≤ m → m ≤ 127 → Tape S1 t → KeepB t S S1 → S1.length = S.length → wSs (Run T (n + 1)) [.ret (.meth .join (.str "") [(.comp false (.bi .str [(.bin .mod (.bin .fdiv (.var 1) (.idx (.ls [(.int 1), (.int 2), (.int 4), (.int 8), (.int 16), (.int 32), (.int 64)]) (.var 2))) (.int 2))]) (.nm 2) [("k", 2)] .rg [(.int 7)] none)])]
      [some (.ptr t), some (.int m), none] S1 { nx := fun _ S1 => k .non S1, rt := k } := by
    intro m S1 h1 h2 ht1 kb1 hl1
    walk_at "w"
    refine ⟨trivial, ?_⟩
    walk_at "w"
    refine ⟨⟨by decide, by decide⟩, ?_⟩
    refine ⟨by decide, ?_⟩
    refine comp_pure (fun _ => true) (bitD m) _ _ (fun x hx kk hkk => ?_) ?_
    · obtain ⟨i, hi, rfl⟩ := range_mem hx
      have hi : i < 7 := hi
      rcases (by omega : i = 0 ∨ i = 1 ∨ i = 2 ∨ i = 3 ∨ i = 4 ∨ i = 5 ∨ i = 6) with rfl | rfl | rfl | rfl | rfl | rfl | rfl
      all_goals
        walk_at "w"
        refine ⟨fun _ => ?_, fun h => by cases h⟩
        walk_at "w"
        refine ⟨⟨by decide, by decide⟩, ?_⟩
        walk_at "w"
        refine ⟨by decide, ?_⟩
        walk_at "w"
        refine ⟨?_, hkk⟩
        exact log_bit (by omega)
    · rw [show (7 : Int).toNat = 7 from rfl, bits_eq]
      walk_at "w"
      refine ⟨(by decide : (7 : Nat) + 7 * 0 ≤ 16777216), ?_⟩
      exact h (signs m) S1 rfl (signs_one h1 h2) ht1 kb1 hl1
  refine draw_spec hd ht (by decide) fun r S1 r0 r1 ht1 kb1 hl1 => ?_
  walk_at "w"
  refine draw_spec hd ht1 (by decide) fun q S2 q0 q1 ht2 kb2 hl2 => ?_
  walk_at "w"
  have r1 : r < 127 := r1
  have q1 : q < 3 := q1
  have next : ∀ m : Int, 1 ≤ m → m ≤ 127 → wSs (Run T (n + 1)) [.ite (.cmp .eq (.call fd [(.var 0), (.int 6)]) (.int 0)) [
      .asg (.nm 1) (.idx (.ls [(.int 1), (.int 2), (.int 4), (.int 8), (.int 16), (.int 32), (.int 64)]) (.call fd [(.var 0), (.int 7)]))] [],
    .ret (.meth .join (.str "") [(.comp false (.bi .str [(.bin .mod (.bin .fdiv (.var 1) (.idx (.ls [(.int 1), (.int 2), (.int 4), (.int 8), (.int 16), (.int 32), (.int 64)]) (.var 2))) (.int 2))]) (.nm 2) [("k", 2)] .rg [(.int 7)] none)])]
      [some (.ptr t), some (.int m), none] S2 { nx := fun _ S1 => k .non S1, rt := k } := by
    intro m h1 h2
    walk_at "w"
    refine draw_spec hd ht2 (by decide) fun p S3 p0 p1 ht3 kb3 hl3 => ?_
    walk_at "w"
    refine ⟨rfl, ?_⟩
    have kb4 := (kb1.trans kb2).trans kb3
    have hl4 : S3.length = S.length := by rw [hl3, hl2, hl1]
    refine ⟨fun _ => ?_, fun _ => rest m S3 h1 h2 ht3 kb4 hl4⟩
    walk_at "w"
    refine draw_spec hd ht3 (by decide) fun p S4 p0 p1 ht4 kb5 hl5 => ?_
    have p1 : p < 7 := p1
    walk_at "w"
    rcases (by omega : p = 0 ∨ p = 1 ∨ p = 2 ∨ p = 3 ∨ p = 4 ∨ p = 5 ∨ p = 6) with rfl | rfl | rfl | rfl | rfl | rfl | rfl
    all_goals exact rest _ S4 (by decide) (by decide) ht4 (kb4.trans kb5) (by rw [hl5, hl4])
  rcases (by omega : q = 0 ∨ q = 1 ∨ q = 2) with rfl | rfl | rfl
  · exact next 127 (by decide) (by decide)
  · exact next 62 (by decide) (by decide)
  · exact next (1 + r) (by omega) (by omega)
end Ov
-- OvP
/-! Closed days, calendars, what works. -/
namespace Ov
open PySem L2
local macro_rules | `(tactic| walk_at "w") => `(tactic| conv => whnf)
local macro_rules | `(tactic| walk_at "wn") => `(tactic| simp only [List.set_cons_zero, List.set_cons_succ, Int.reduceToNat])

theorem KeepB.own {t p : Nat} {S S1 : Sto} (h : KeepB t S S1) (hp : S.length ≤ p) (x : List D) : KeepB t S (S1.set p x) := ⟨by rw [List.length_set]; exact h.1, fun n xs e h1 => by
  have hn := (List.getElem?_eq_some_iff.mp h1).1
  rw [List.getElem?_set_ne (by omega)]
  exact h.2 n xs e h1⟩
theorem Tape.own {t p : Nat} {S : Sto} (h : Tape S t) (hp : p ≠ t) (x : List D) : Tape (S.set p x) t := by
  obtain ⟨xs, e, r⟩ := h
  exact ⟨xs, by rw [List.getElem?_set_ne hp]; exact e, r⟩
theorem Tape.app {t : Nat} {S : Sto} (h : Tape S t) (x : List (List D)) : Tape (S ++ x) t := by
  obtain ⟨xs, e, r⟩ := h
  exact ⟨xs, (Keep.app S x).2 t xs e, r⟩
theorem Tape.lt {t : Nat} {S : Sto} (h : Tape S t) : t < S.length := by
  obtain ⟨xs, e, r⟩ := h
  exact (List.getElem?_eq_some_iff.mp e).1

def dClosed (fd : Nat) : DDef :=
  ⟨"_law_closed", ["tape", "base", "most", "closed", "day", "pace", "k"], 3, [
    .asg (.nm 3) (.mls []),
    .asg (.nm 4) (.bi .max [(.bin .sub (.var 1) (.call fd [(.var 0), (.int 9)])), (.int 0)]),
    .asg (.nm 5) (.idx (.ls [(.int 1), (.int 7), (.int 0), (.int 0)]) (.call fd [(.var 0), (.int 4)])),
    .forS (.nm 6) .rg [(.idx (.ls [(.int 0), (.int 1), (.int 3), (.call fd [(.var 0), (.bin .add (.var 2) (.int 1))]), (.var 2)]) (.call fd [(.var 0), (.int 5)]))] [
      .ite (.cmp .le (.var 4) (.int 400)) [
        .expr (.meth .append (.var 3) [(.var 4)])] [],
      .ite (.cmp .gt (.var 5) (.int 0)) [
        .asg (.nm 4) (.bin .add (.var 4) (.var 5))] [
        .asg (.nm 4) (.bin .add (.bin .add (.var 4) (.int 1)) (.call fd [(.var 0), (.idx (.ls [(.int 3), (.int 20)]) (.call fd [(.var 0), (.int 2)]))]))]],
    .ret (.bi .tuple [(.var 3)])]⟩
theorem max0 (x : Int) : 0 ≤ (if (0 : Int) > x then 0 else x) := by split <;> omega
theorem closed_spec {T : List DDef} {f fd n : Nat} (hf : T[f]? = some (dClosed fd)) (hd : T[fd]? = some dDraw) {S : Sto} {t : Nat} {base most : Int} {k : WK} (ht : Tape S t) (hm0 : 0 ≤ most) (hm : most ≤ 1000)
    (h : ∀ (cl : List Int) S', (cl.length : Int) ≤ max 3 most → (∀ c ∈ cl, 0 ≤ c ∧ c ≤ 400) → Tape S' t → KeepB t S S' → S'.length = S.length + 1 → k (.tup (cl.map D.int)) S') : Run T (n + 2) f [.ptr t, .int base, .int most] S k := by
  refine run_of hf rfl ?_
  have ht0 := ht.lt
  walk_at "w"
  refine draw_spec hd (ht.app [[]]) (by decide) fun r S1 r0 r1 ht1 kb1 hl1 => ?_
  walk_at "w"
  refine draw_spec hd ht1 (by decide) fun q S2 q0 q1 ht2 kb2 hl2 => ?_
  have q1 : q < 4 := q1
  have kb3 : KeepB t S S2 := ((Keep.app S [[]]).b.trans kb1).trans kb2
  have hl3 : S2.length = S.length + 1 := by rw [hl2, hl1]; simp
  have hp0 : S2[S.length]? = some [] := kb2.2 _ _ (by omega) (kb1.2 _ _ (by omega) (List.getElem?_concat_length ..))
  have main : ∀ pace : Int, 0 ≤ pace → wSs (Run T (n + 1)) [.forS (.nm 6) .rg [(.idx (.ls [(.int 0), (.int 1), (.int 3), (.call fd [(.var 0), (.bin .add (.var 2) (.int 1))]), (.var 2)]) (.call fd [(.var 0), (.int 5)]))] [
        .ite (.cmp .le (.var 4) (.int 400)) [
          .expr (.meth .append (.var 3) [(.var 4)])] [],
        .ite (.cmp .gt (.var 5) (.int 0)) [
          .asg (.nm 4) (.bin .add (.var 4) (.var 5))] [
          .asg (.nm 4) (.bin .add (.bin .add (.var 4) (.int 1)) (.call fd [(.var 0), (.idx (.ls [(.int 3), (.int 20)]) (.call fd [(.var 0), (.int 2)]))]))]],
      .ret (.bi .tuple [(.var 3)])]
      [some (.ptr t), some (.int base), some (.int most), some (.ptr S.length), some (.int (if (0 : Int) > base - r then 0 else base - r)), some (.int pace), none] S2 { nx := fun _ S1 => k .non S1, rt := k } := by
    intro pace hpace
    generalize hday : (if (0 : Int) > base - r then 0 else base - r) = day
    have hday0 : 0 ≤ day := hday ▸ max0 _
    walk_at "w"
    refine draw_spec hd ht2 (by omega) fun m S3 m0 m1 ht4 kb4 hl4 => ?_
    walk_at "w"
    refine draw_spec hd ht4 (by decide) fun s S5 s0 s1 ht5 kb5 hl5 => ?_
    have s1 : s < 5 := s1
    have m1 : m ≤ most := by rw [Int.max_def] at m1; split at m1 <;> omega
    have kb6 := (kb3.trans kb4).trans kb5
    have hl6 : S5.length = S.length + 1 := by rw [hl5, hl4, hl3]
    have hp6 : S5[S.length]? = some [] := kb5.2 _ _ (by omega) (kb4.2 _ _ (by omega) hp0)
    walk_at "w"
    have loop : ∀ c : Int, 0 ≤ c → c ≤ max 3 most → itW .rg [.int c] S5 fun xs sr => True ∧
        forW (forB (Run T (n + 1)) (.nm 6) [
        .ite (.cmp .le (.var 4) (.int 400)) [
          .expr (.meth .append (.var 3) [(.var 4)])] [],
        .ite (.cmp .gt (.var 5) (.int 0)) [
          .asg (.nm 4) (.bin .add (.var 4) (.var 5))] [
          .asg (.nm 4) (.bin .add (.bin .add (.var 4) (.int 1)) (.call fd [(.var 0), (.idx (.ls [(.int 3), (.int 20)]) (.call fd [(.var 0), (.int 2)]))]))]]) sr xs xs
        [some (.ptr t), some (.int base), some (.int most), some (.ptr S.length), some (.int day), some (.int pace), none] S5 { nx := fun σ1 S1 => wSs (Run T (n + 1)) [.ret (.bi .tuple [(.var 3)])] σ1 S1 { nx := fun _ S1 => k .non S1, rt := k }, rt := k } := by
      intro c c0 c1
      have c2 : c ≤ 1000 := by rw [Int.max_def] at c1; split at c1 <;> omega
      refine ⟨⟨by omega, by omega⟩, trivial, ?_⟩
      refine for_inv (Run_mono T (n + 1)) (fun i σ S1 => ∃ (cl : List Int) (day : Int) (v : Option D), σ = [some (.ptr t), some (.int base), some (.int most), some (.ptr S.length), some (.int day), some (.int pace), v] ∧ 0 ≤ day ∧
        S1[S.length]? = some (cl.map D.int) ∧ cl.length ≤ i ∧ (∀ c ∈ cl, 0 ≤ c ∧ c ≤ 400) ∧ Tape S1 t ∧ KeepB t S S1 ∧ S1.length = S.length + 1) ⟨[], day, none, rfl, hday0, hp6, Nat.le_refl _, (fun _ h => nomatch h), ht5, kb6, hl6⟩ ?_ ?_
      · rintro i x σ S1 hx ⟨cl, day, v, rfl, d0, e, hc, hcs, ht7, kb7, hl7⟩
        obtain ⟨hi, rfl⟩ := range_at hx
        walk_at "w"
        have second : ∀ (cl : List Int) (S1 : Sto), S1[S.length]? = some (cl.map D.int) → cl.length ≤ i + 1 → (∀ c ∈ cl, 0 ≤ c ∧ c ≤ 400) → Tape S1 t → KeepB t S S1 → S1.length = S.length + 1 →
            ∀ (w : D) (rt : WK) (bk : DEnv → Sto → Prop), wSs (Run T (n + 1)) [.ite (.cmp .gt (.var 5) (.int 0)) [
              .asg (.nm 4) (.bin .add (.var 4) (.var 5))] [
              .asg (.nm 4) (.bin .add (.bin .add (.var 4) (.int 1)) (.call fd [(.var 0), (.idx (.ls [(.int 3), (.int 20)]) (.call fd [(.var 0), (.int 2)]))]))]]
            [some (.ptr t), some (.int base), some (.int most), some (.ptr S.length), some (.int day), some (.int pace), some w] S1
            { nx := fun σ S1 => ∃ (cl : List Int) (day : Int) (v : Option D), σ = [some (.ptr t), some (.int base), some (.int most), some (.ptr S.length), some (.int day), some (.int pace), v] ∧ 0 ≤ day ∧
        S1[S.length]? = some (cl.map D.int) ∧ cl.length ≤ i + 1 ∧ (∀ c ∈ cl, 0 ≤ c ∧ c ≤ 400) ∧ Tape S1 t ∧ KeepB t S S1 ∧ S1.length = S.length + 1, rt := rt, bk := bk, ct := fun σ S1 => ∃ (cl : List Int) (day : Int) (v : Option D), σ = [some (.ptr t), some (.int base), some (.int most), some (.ptr S.length), some (.int day), some (.int pace), v] ∧ 0 ≤ day ∧
        S1[S.length]? = some (cl.map D.int) ∧ cl.length ≤ i + 1 ∧ (∀ c ∈ cl, 0 ≤ c ∧ c ≤ 400) ∧ Tape S1 t ∧ KeepB t S S1 ∧ S1.length = S.length + 1 } := by
          intro cl S1 e hc hcs ht7 kb7 hl7 w rt bk
          walk_at "w"
          refine ⟨fun _ => ⟨cl, _, some w, rfl, by omega, e, hc, hcs, ht7, kb7, hl7⟩, fun _ => ?_⟩
          walk_at "w"
          refine draw_spec hd ht7 (by decide) fun a S8 a0 a1 ht8 kb8 hl8 => ?_
          have a1 : a < 2 := a1
          walk_at "w"
          rcases (by omega : a = 0 ∨ a = 1) with rfl | rfl
          all_goals
            walk_at "w"
            refine draw_spec hd ht8 (by decide) fun b S9 b0 b1 ht9 kb9 hl9 => ?_
            walk_at "w"
            exact ⟨cl, _, some w, rfl, by omega, kb9.2 _ _ (by omega) (kb8.2 _ _ (by omega) e), hc, hcs, ht9, (kb7.trans kb8).trans kb9, by rw [hl9, hl8, hl7]⟩
        refine ⟨fun c => ?_, fun _ => second cl S1 e (by omega) hcs ht7 kb7 hl7 _ _ _⟩
        have c : day ≤ 400 := of_decide_eq_true c
        walk_at "w"
        refine ⟨trivial, ?_⟩
        walk_at "w"
        rw [e]
        have hlen : (cl.map D.int).length < sizeLine := by rw [List.length_map]; show _ < 16777216; omega
        refine ⟨hlen, ?_⟩
        have hpl : S.length < S1.length := by omega
        refine second (cl ++ [day]) _ ?_ (by simp; omega) (fun z hz => ?_) (ht7.own (by omega) _) (kb7.own (Nat.le_refl _) _) (by rw [List.length_set]; exact hl7) _ _ _
        · rw [List.getElem?_set_self hpl, List.map_append]
          rfl
        · rcases List.mem_append.mp hz with hz | hz
          · exact hcs z hz
          · rw [List.mem_singleton.mp hz]
            exact ⟨d0, c⟩
      · rintro σ S1 ⟨cl, day, v, rfl, d0, e, hc, hcs, ht7, kb7, hl7⟩
        walk_at "w"
        rw [show seqOf S1 (.ptr S.length) = _ from e]
        refine h cl S1 ?_ hcs ht7 kb7 hl7
        rw [rangeD_len] at hc
        omega
    rcases (by omega : s = 0 ∨ s = 1 ∨ s = 2 ∨ s = 3 ∨ s = 4) with rfl | rfl | rfl | rfl | rfl
    · exact loop 0 (by omega) (by omega)
    · exact loop 1 (by omega) (by omega)
    · exact loop 3 (by omega) (by omega)
    · exact loop m (by omega) (by omega)
    · exact loop most (by omega) (by omega)
  walk_at "w"
  rcases (by omega : q = 0 ∨ q = 1 ∨ q = 2 ∨ q = 3) with rfl | rfl | rfl | rfl
  · exact main 1 (by decide)
  · exact main 7 (by decide)
  · exact main 0 (by decide)
  · exact main 0 (by decide)

def dCalendar (fw fc : Nat) : DDef :=
  ⟨"_law_calendar", ["tape", "base", "week"], 2, [
    .asg (.nm 2) (.call fw [(.var 0)]),
    .ret (.tup [(.var 2), (.call fc [(.var 0), (.var 1), (.int 10)])])]⟩
theorem calendar_spec {T : List DDef} {f fw fc fd n : Nat} (hf : T[f]? = some (dCalendar fw fc)) (hw : T[fw]? = some (dWeek fd)) (hc : T[fc]? = some (dClosed fd)) (hd : T[fd]? = some dDraw) {S : Sto} {t : Nat} {base : Int} {k : WK} (ht : Tape S t)
    (h : ∀ wk cl S', Cal wk cl → (∀ c ∈ cl, 0 ≤ c ∧ c ≤ 400) → Tape S' t → KeepB t S S' → S'.length = S.length + 1 → k (calD wk cl) S') : Run T (n + 3) f [.ptr t, .int base] S k := by
  refine run_of hf rfl ?_
  walk_at "w"
  refine week_spec hw hd ht fun wk S1 w1 w2 ht1 kb1 hl1 => ?_
  walk_at "w"
  refine closed_spec hc hd ht1 (by decide) (by decide) fun cl S2 c1 c2 ht2 kb2 hl2 => ?_
  have c1 : (cl.length : Int) ≤ 10 := c1
  walk_at "w"
  exact h wk cl S2 ⟨w1, w2, by omega⟩ c2 ht2 (kb1.trans kb2) (by rw [hl2, hl1])
end Ov
-- OvQ
/-! What works, the next and the last before. -/
namespace Ov
open PySem L2
local macro_rules | `(tactic| walk_at "w") => `(tactic| conv => whnf)
local macro_rules | `(tactic| walk_at "wn") => `(tactic| simp only [List.set_cons_zero, List.set_cons_succ, Int.reduceToNat])

def dWorks : DDef :=
  ⟨"_law_works", ["calendar", "day"], 2, [
    .ret (.andv (.cmp .eq (.idx (.idx (.var 0) (.int 0)) (.bin .mod (.bi .int [(.var 1)]) (.int 7))) (.str "1")) (.one (.cmp .notIn (.var 1) (.idx (.var 0) (.int 1)))))]⟩
theorem works_spec {T : List DDef} {f n : Nat} (hf : T[f]? = some dWorks) {wk : List Nat} {cl : List Int} (c : Cal wk cl) (d : Int) {S : Sto} {k : WK} (h : k (.bl (biz wk cl d)) S) : Run T (n + 1) f [calD wk cl, .int d] S k := by
  refine run_of hf rfl ?_
  walk_at "w"
  refine ⟨by decide, ?_⟩
  walk_at "w"
  refine ⟨(wk_at c d).2, ?_⟩
  rw [(wk_at c d).1]
  walk_at "w"
  refine ⟨rfl, ?_⟩
  rw [one_eq]
  cases hb : (wk.getD (d % 7).toNat 0 == 49) with
  | true =>
    walk_at "w"
    refine ⟨rfl, flats_map cl, ?_⟩
    rw [any_map]
    unfold biz at h
    rw [hb] at h
    exact h
  | false =>
    unfold biz at h
    rw [hb] at h
    exact h
def dNext (fw : Nat) : DDef :=
  ⟨"_law_next", ["calendar", "day", "k"], 2, [
    .forS (.nm 2) .rg [(.int 80)] [
      .ite (.tru (.call fw [(.var 0), (.var 1)])) [
        .ret (.var 1)] [],
      .asg (.nm 1) (.bin .add (.var 1) (.int 1))],
    .ret (.var 1)]⟩
theorem next_spec {T : List DDef} {f fw n : Nat} (hf : T[f]? = some (dNext fw)) (hw : T[fw]? = some dWorks) {wk : List Nat} {cl : List Int} (c : Cal wk cl) {d : Int} {m : Nat} (h0 : m ≤ 76) (h1 : biz wk cl (d + m) = true) (h2 : ∀ j : Nat, j < m → biz wk cl (d + j) = false)
    {S : Sto} {k : WK} (h : k (.int (d + m)) S) : Run T (n + 2) f [calD wk cl, .int d] S k := by
  refine run_of hf rfl ?_
  walk_at "w"
  refine ⟨⟨by decide, by decide⟩, trivial, ?_⟩
  refine for_inv (Run_mono T (n + 1)) (fun i σ S1 => S1 = S ∧ i ≤ m ∧ ∃ v, σ = [some (calD wk cl), some (.int (d + i)), v]) ⟨rfl, Nat.zero_le _, none, by rw [show d + ((0 : Nat) : Int) = d by omega]; rfl⟩ ?_ ?_
  · rintro i x σ S1 hx ⟨rfl, hi, v, rfl⟩
    walk_at "w"
    refine works_spec hw c _ ?_
    walk_at "w"
    refine ⟨fun hb => ?_, fun hb => ?_⟩
    · have he : i = m := Classical.byContradiction fun hne => by
        rw [h2 i (by omega)] at hb
        cases hb
      rw [he]
      exact h
    · have hne : i ≠ m := fun he => by
        rw [he, h1] at hb
        cases hb
      exact ⟨rfl, by omega, some x, by rw [show d + ((i + 1 : Nat) : Int) = d + i + 1 by omega]; rfl⟩
  · rintro σ S1 ⟨rfl, hi, v, rfl⟩
    rw [rangeD_len] at hi
    have hi : 80 ≤ m := hi
    omega

theorem range_split (lo : Int) (a b : Nat) : rangeD lo (a + b) = rangeD lo a ++ rangeD (lo + a) b := by
  unfold rangeD
  rw [List.range_add, List.map_append, List.map_map]
  congr 1
  refine List.map_congr_left fun i _ => ?_
  show D.int (lo + ((a + i : Nat) : Int)) = D.int (lo + a + i)
  congr 1
  omega
def isInt (p : Int → Bool) : D → Bool
  | .int i => p i
  | _ => false
theorem collect_none {p : Int → Bool} {lo : Int} {n : Nat} (h : ∀ j : Nat, j < n → p (lo + j) = false) : collect (isInt p) (fun x => x) (rangeD lo n) = [] := by
  unfold collect
  rw [List.filter_eq_nil_iff.mpr, List.map_nil]
  intro x hx
  obtain ⟨i, hi, rfl⟩ := range_mem hx
  show ¬(p (lo + i) = true)
  rw [h i hi]
  exact Bool.false_ne_true
theorem collect_app (p : D → Bool) (f : D → D) (a b : List D) : collect p f (a ++ b) = collect p f a ++ collect p f b := by
  unfold collect
  rw [List.filter_append, List.map_append]
theorem at_last (a : List D) (x : D) : atI (a ++ [x]) (-1) = some x := by
  unfold atI ixN
  rw [if_neg (by decide), List.length_append, List.length_singleton]
  rw [if_pos (by omega)]
  show (a ++ [x])[_]? = some x
  rw [show -1 + ((a.length + 1 : Nat) : Int) = (a.length : Int) by omega]
  exact List.getElem?_concat_length ..
theorem collect_last {p : Int → Bool} {lo d : Int} {n m : Nat} (hn : lo + n = d + 1) (hm : m < n) (h1 : p (d - m) = true) (h2 : ∀ j : Nat, j < m → p (d - j) = false) :
    ∃ a, collect (isInt p) (fun x => x) (rangeD lo n) = a ++ [.int (d - m)] := by
  refine ⟨collect (isInt p) (fun x => x) (rangeD lo (n - m - 1)), ?_⟩
  rw [show n = n - m - 1 + (1 + m) by omega, range_split, collect_app, range_split, collect_app]
  rw [show n - m - 1 + (1 + m) - m - 1 = n - m - 1 by omega]
  rw [show lo + ((n - m - 1 : Nat) : Int) = d - m by omega]
  rw [collect_none (p := p) (lo := d - m + (1 : Nat)) (n := m) fun j hj => ?_]
  · rw [List.append_nil]
    congr 1
    have e : collect (isInt p) (fun x => x) [.int (d - m)] = [.int (d - m)] := by
      unfold collect
      rw [List.filter_cons_of_pos (show isInt p (.int (d - m)) = true from h1)]
      rfl
    rw [show rangeD (d - m) 1 = [.int (d - m)] from by
      show [D.int (d - m + ((0 : Nat) : Int))] = _
      rw [show d - (m : Int) + ((0 : Nat) : Int) = d - m by omega]]
    exact e
  · rw [show d - (m : Int) + ((1 : Nat) : Int) + (j : Int) = d - ((m - 1 - j : Nat) : Int) by omega]
    exact h2 _ (by omega)
def dPrev (fw : Nat) : DDef :=
  ⟨"_law_previous", ["calendar", "day", "found", "early"], 2, [
    .asg (.nm 2) (.comp false (.var 3) (.nm 3) [("early", 3)] .rg [(.bi .max [(.bin .sub (.var 1) (.int 80)), (.int 0)]), (.bin .add (.var 1) (.int 1))] (some (.tru (.call fw [(.var 0), (.var 3)])))),
    .ite (.tru (.var 2)) [
      .ret (.idx (.var 2) (.neg (.int 1)))] [],
    .ret .non]⟩
/-- the last business day up to d, none before day 0 -/
inductive Last (wk : List Nat) (cl : List Int) (d : Int) : D → Prop
  | some (m : Nat) (h0 : m ≤ 76) (hm : (m : Int) ≤ d) (h1 : biz wk cl (d - m) = true) (h2 : ∀ j : Nat, j < m → biz wk cl (d - j) = false) : Last wk cl d (.int (d - m))
  | none (h : ∀ j : Nat, (j : Int) ≤ d → biz wk cl (d - j) = false) : Last wk cl d .non
theorem Cal.last {wk : List Nat} {cl : List Int} (c : Cal wk cl) (d : Int) : ∃ x, Last wk cl d x := by
  obtain ⟨m, h0, h1, h2⟩ := c.prev d
  by_cases hm : (m : Int) ≤ d
  · exact ⟨_, .some m h0 hm h1 h2⟩
  · exact ⟨_, .none fun j hj => h2 j (by omega)⟩
theorem previous_spec {T : List DDef} {f fw n : Nat} (hf : T[f]? = some (dPrev fw)) (hw : T[fw]? = some dWorks) {wk : List Nat} {cl : List Int} (c : Cal wk cl) {d : Int} (hd : -1000000 < d ∧ d < 1000000) {x : D} (hl : Last wk cl d x)
    {S : Sto} {k : WK} (h : k x S) : Run T (n + 2) f [calD wk cl, .int d] S k := by
  refine run_of hf rfl ?_
  walk_at "w"
  generalize hlo : (if (0 : Int) > d - 80 then 0 else d - 80) = lo
  have hlo2 : 0 ≤ lo ∧ d - 80 ≤ lo ∧ (lo = 0 ∨ lo = d - 80) := by rw [← hlo]; split <;> omega
  clear hlo
  refine ⟨⟨⟨by omega, by omega⟩, ⟨by omega, by omega⟩⟩, ?_⟩
  refine ⟨?_, ?_⟩
  · rw [rangeD_len]
    show _ < 16777216
    omega
  refine comp_pick (isInt (biz wk cl)) (fun x => x) _ _ (fun y hy kk hk1 hk2 => ?_) ?_
  · obtain ⟨i, hi, rfl⟩ := range_mem hy
    walk_at "w"
    refine works_spec hw c _ ?_
    walk_at "w"
    exact ⟨fun hb => hk1 hb, fun hb => hk2 hb⟩
  · cases hl with
    | some m h0 hm h1 h2 =>
      obtain ⟨a, e⟩ := collect_last (p := biz wk cl) (lo := lo) (d := d) (n := (d + 1 - lo).toNat) (m := m) (by omega) (by omega) h1 h2
      rw [e]
      walk_at "w"
      refine ⟨fun _ => ?_, fun hb => ?_⟩
      · walk_at "w"
        rw [at_last]
        exact h
      · have hb : (!(a ++ [D.int (d - m)]).isEmpty) = false := hb
        simp at hb
    | none h2 =>
      rw [collect_none (p := biz wk cl) (lo := lo) (n := (d + 1 - lo).toNat) fun j hj => by
        rw [show lo + (j : Int) = d - ((d - lo - j).toNat : Int) by omega]
        exact h2 _ (by omega)]
      walk_at "w"
      exact ⟨(fun hb => nomatch hb), fun _ => h⟩

/-! ### the program's own -/
def dIsBiz : DDef :=
  ⟨"is_business_day", ["calendar", "day", "week", "closed"], 2, [
    .asg (.tp [(.nm 2), (.nm 3)]) (.var 0),
    .ret (.andv (.cmp .eq (.idx (.var 2) (.bin .mod (.var 1) (.int 7))) (.str "1")) (.one (.cmp .notIn (.var 1) (.var 3))))]⟩
theorem isBiz_spec {T : List DDef} {f n : Nat} (hf : T[f]? = some dIsBiz) {wk : List Nat} {cl : List Int} (c : Cal wk cl) (d : Int) {S : Sto} {k : WK} (h : k (.bl (biz wk cl d)) S) : Run T (n + 1) f [calD wk cl, .int d] S k := by
  refine run_of hf rfl ?_
  walk_at "w"
  refine ⟨rfl, ?_⟩
  walk_at "w"
  refine ⟨by decide, ?_⟩
  walk_at "w"
  refine ⟨(wk_at c d).2, ?_⟩
  rw [(wk_at c d).1]
  walk_at "w"
  refine ⟨rfl, ?_⟩
  rw [one_eq]
  cases hb : (wk.getD (d % 7).toNat 0 == 49) with
  | true =>
    walk_at "w"
    refine ⟨rfl, flats_map cl, ?_⟩
    rw [any_map]
    unfold biz at h
    rw [hb] at h
    exact h
  | false =>
    unfold biz at h
    rw [hb] at h
    exact h
def dNextBiz (fb : Nat) : DDef :=
  ⟨"next_business_day", ["calendar", "day"], 2, [
    .whil (.notv (.tru (.call fb [(.var 0), (.var 1)]))) [
      .aug 1 .add (.int 1)],
    .ret (.var 1)]⟩
theorem nextBiz_spec {T : List DDef} {f fb n : Nat} (hf : T[f]? = some (dNextBiz fb)) (hb : T[fb]? = some dIsBiz) {wk : List Nat} {cl : List Int} (c : Cal wk cl) {d : Int} {m : Nat} (h1 : biz wk cl (d + m) = true) (h2 : ∀ j : Nat, j < m → biz wk cl (d + j) = false)
    {S : Sto} {k : WK} (h : k (.int (d + m)) S) : Run T (n + 2) f [calD wk cl, .int d] S k := by
  refine run_of hf rfl ?_
  walk_at "w"
  refine ⟨fun μ σ S1 => S1 = S ∧ ∃ j : Nat, j ≤ m ∧ μ = m - j ∧ σ = [some (calD wk cl), some (.int (d + j))], ⟨m, rfl, 0, Nat.zero_le _, rfl, by rw [show d + ((0 : Nat) : Int) = d by omega]; rfl⟩, ?_⟩
  rintro μ σ S1 ⟨rfl, j, hj, rfl, rfl⟩
  walk_at "w"
  refine isBiz_spec hb c _ ?_
  walk_at "w"
  refine ⟨fun hx => ?_, fun hx => ?_⟩
  · have hne : j ≠ m := fun e => by
      rw [e, h1] at hx
      cases hx
    walk_at "w"
    exact ⟨m - (j + 1), by omega, rfl, j + 1, by omega, rfl, by rw [show d + ((j + 1 : Nat) : Int) = d + j + 1 by omega]; rfl⟩
  · have he : j = m := Classical.byContradiction fun hne => by
      rw [h2 j (by omega)] at hx
      cases hx
    rw [he]
    exact h
def dPrevBiz (fb : Nat) : DDef :=
  ⟨"previous_business_day", ["calendar", "day", "candidate"], 2, [
    .forS (.nm 2) .rg [(.var 1), (.neg (.int 1)), (.neg (.int 1))] [
      .ite (.tru (.call fb [(.var 0), (.var 2)])) [
        .ret (.var 2)] []],
    .ret .non]⟩
theorem prevBiz_spec {T : List DDef} {f fb n : Nat} (hf : T[f]? = some (dPrevBiz fb)) (hb : T[fb]? = some dIsBiz) {wk : List Nat} {cl : List Int} (c : Cal wk cl) {d : Int} (hd : -1000000 < d ∧ d < 1000000) {x : D} (hl : Last wk cl d x)
    {S : Sto} {k : WK} (h : k x S) : Run T (n + 2) f [calD wk cl, .int d] S k := by
  refine run_of hf rfl ?_
  walk_at "w"
  refine ⟨rfl, ⟨⟨by omega, by omega⟩, ⟨by decide, by decide⟩⟩, trivial, ?_⟩
  cases hl with
  | some m h0 hm h1 h2 =>
    refine for_inv (Run_mono T (n + 1)) (fun i σ S1 => S1 = S ∧ i ≤ m ∧ ∃ v, σ = [some (calD wk cl), some (.int d), v]) ⟨rfl, Nat.zero_le _, none, rfl⟩ ?_ ?_
    · rintro i y σ S1 hx ⟨rfl, hi, v, rfl⟩
      obtain ⟨hi2, rfl⟩ := down_at hx
      walk_at "w"
      refine isBiz_spec hb c _ ?_
      walk_at "w"
      refine ⟨fun hx => ?_, fun hx => ?_⟩
      · have he : i = m := Classical.byContradiction fun hne => by
          rw [h2 i (by omega)] at hx
          cases hx
        rw [he]
        exact h
      · have hne : i ≠ m := fun e => by
          rw [e, h1] at hx
          cases hx
        exact ⟨rfl, by omega, _, rfl⟩
    · rintro σ S1 ⟨rfl, hi, v, rfl⟩
      rw [down_len] at hi
      omega
  | none h2 =>
    refine for_inv (Run_mono T (n + 1)) (fun i σ S1 => S1 = S ∧ ∃ v, σ = [some (calD wk cl), some (.int d), v]) ⟨rfl, none, rfl⟩ ?_ ?_
    · rintro i y σ S1 hx ⟨rfl, v, rfl⟩
      obtain ⟨hi2, rfl⟩ := down_at hx
      walk_at "w"
      refine isBiz_spec hb c _ ?_
      walk_at "w"
      refine ⟨fun hx => ?_, fun hx => ⟨rfl, _, rfl⟩⟩
      rw [h2 i (by omega)] at hx
      cases hx
    · rintro σ S1 ⟨rfl, v, rfl⟩
      exact h
end Ov
-- OvR
/-! Orders, places, parts of two rows put together; business days counted. -/
namespace Ov
open PySem L2
local macro_rules | `(tactic| walk_at "w") => `(tactic| conv => whnf)
local macro_rules | `(tactic| walk_at "wn") => `(tactic| simp only [List.set_cons_zero, List.set_cons_succ, Int.reduceToNat])

/-! ### order -/
def dOrder (fd : Nat) : DDef :=
  ⟨"_law_order", ["tape", "many", "left", "order", "k"], 2, [
    .asg (.nm 2) (.lrg true (.var 1)),
    .asg (.nm 3) (.mls []),
    .forS (.nm 4) .rg [(.var 1)] [
      .expr (.meth .append (.var 3) [(.meth .pop (.var 2) [(.call fd [(.var 0), (.bi .len [(.var 2)])])])])],
    .ret (.var 3)]⟩
/-- numbers from 0 up to m -/
def Below (m : Nat) (xs : List D) : Prop := ∀ x ∈ xs, ∃ i : Nat, i < m ∧ x = .int i
theorem seqIx {r : Int} {n : Nat} (h0 : 0 ≤ r) (h1 : r < n) : seqIndex? r n = some r.toNat := by
  unfold seqIndex?
  have e : ¬ r < 0 := by omega
  simp only [if_neg e]
  rw [if_pos (by simp only [Bool.and_eq_true, decide_eq_true_eq]; exact ⟨h0, h1⟩)]
theorem Below.range (m : Nat) : Below m (rangeD 0 m) := fun x hx => by
  obtain ⟨i, hi, rfl⟩ := range_mem hx
  exact ⟨i, hi, by rw [Int.zero_add]⟩
theorem mem_erase {l : List D} {r : Nat} (hr : r < l.length) {x : D} (h : x ∈ l) : x ∈ l.eraseIdx r ∨ x = l[r] := by
  obtain ⟨i, hi, rfl⟩ := List.mem_iff_getElem.mp h
  by_cases he : i = r
  · subst he
    exact .inr rfl
  · refine .inl (List.mem_eraseIdx_iff_getElem.mpr ⟨i, hi, he, rfl⟩)
theorem order_all {T : List DDef} {f fd n : Nat} (hf : T[f]? = some (dOrder fd)) (hd : T[fd]? = some dDraw) {S : Sto} {t : Nat} {many : Nat} {k : WK} (ht : Tape S t) (hm : many < 100000)
    (h : ∀ (p : Nat) (os : List D) S', S'[p]? = some os → Below many os → os.length = many → (∀ i : Nat, i < many → D.int i ∈ os) → Tape S' t → KeepB t S S' → p ≥ S.length → k (.ptr p) S') : Run T (n + 2) f [.ptr t, .int many] S k := by
  refine run_of hf rfl ?_
  have ht0 := ht.lt
  walk_at "w"
  refine ⟨⟨by omega, by omega⟩, ?_⟩
  walk_at "w"
  refine ⟨⟨by omega, by omega⟩, trivial, ?_⟩
  have hl0 : (S ++ [rangeD 0 (many : Int).toNat]).length = S.length + 1 := by simp
  have e1 : ((S ++ [rangeD 0 (many : Int).toNat]) ++ [[]])[S.length]? = some (rangeD 0 (many : Int).toNat) := (Keep.app (S ++ [rangeD 0 (many : Int).toNat]) [[]]).2 _ _ (List.getElem?_concat_length ..)
  have e2 : ((S ++ [rangeD 0 (many : Int).toNat]) ++ [[]])[S.length + 1]? = some [] := by
    have := List.getElem?_concat_length (l := S ++ [rangeD 0 (many : Int).toNat]) (a := ([] : List D))
    rw [hl0] at this
    exact this
  refine for_inv (Run_mono T (n + 1)) (fun i σ S1 => ∃ (ls os : List D) (v : Option D), σ = [some (.ptr t), some (.int many), some (.ptr S.length), some (.ptr (S ++ [rangeD 0 (many : Int).toNat]).length), v] ∧
    S1[S.length]? = some ls ∧ S1[S.length + 1]? = some os ∧ Below many ls ∧ Below many os ∧ ls.length + i = many ∧ os.length = i ∧ (∀ q : Nat, q < many → D.int q ∈ ls ∨ D.int q ∈ os) ∧ Tape S1 t ∧ KeepB t S S1 ∧ S1.length = S.length + 2)
    ⟨_, [], none, rfl, e1, e2, by rw [Int.toNat_natCast]; exact Below.range many, (fun x hx => nomatch hx), by rw [rangeD_len, Int.toNat_natCast]; rfl, rfl, (fun q hq => .inl (by rw [Int.toNat_natCast]; exact List.mem_map.mpr ⟨q, List.mem_range.mpr hq, by rw [Int.zero_add]⟩)), (ht.app _).app _, ((Keep.app S _).trans (Keep.app _ _)).b, by simp⟩ ?_ ?_
  · rintro i x σ S1 hx ⟨ls, os, v, rfl, l1, l2, b1, b2, n1, n2, al, ht1, kb1, hl1⟩
    obtain ⟨hi, rfl⟩ := range_at hx
    rw [Int.toNat_natCast] at hi
    walk_at "w"
    refine ⟨trivial, ?_⟩
    walk_at "w"
    refine ⟨trivial, ?_⟩
    walk_at "w"
    rw [show seqOf S1 (.ptr S.length) = _ from l1]
    walk_at "w"
    refine draw_spec hd ht1 (by omega) fun r S2 r0 r1 ht2 kb2 hl2 => ?_
    have r2 : r < (ls.length : Int) := by rw [Int.max_def] at r1; split at r1 <;> omega
    have l1' := kb2.2 _ _ (show S.length ≠ t by omega) l1
    have l2' := kb2.2 _ _ (show S.length + 1 ≠ t by omega) l2
    have hr : r.toNat < ls.length := by omega
    walk_at "w"
    rw [l1']
    walk_at "w"
    rw [seqIx r0 r2]
    walk_at "w"
    rw [List.getElem?_eq_getElem hr]
    refine ⟨⟨by omega, by omega⟩, ?_⟩
    walk_at "w"
    have l3 : (S2.set S.length (ls.eraseIdx r.toNat))[(S ++ [rangeD 0 (many : Int).toNat]).length]? = some os := by
      rw [hl0, List.getElem?_set_ne (by omega)]
      exact l2'
    rw [l3]
    have hp : (S ++ [rangeD 0 (many : Int).toNat]).length < (S2.set S.length (ls.eraseIdx r.toNat)).length := by rw [List.length_set, hl0]; omega
    refine ⟨by show os.length < 16777216; omega, ?_⟩
    obtain ⟨j, hj, ej⟩ := b1 ls[r.toNat] (List.getElem_mem hr)
    refine ⟨ls.eraseIdx r.toNat, os ++ [ls[r.toNat]], _, rfl, ?_, ?_, fun y hy => b1 y (List.eraseIdx_subset hy), fun y hy => ?_, ?_, ?_, fun q hq => ?_, ?_, ?_, ?_⟩
    · rw [hl0, List.getElem?_set_ne (by omega), List.getElem?_set_self (by omega)]
    · have := List.getElem?_set_self (a := os ++ [ls[r.toNat]]) hp
      rw [hl0] at this ⊢
      exact this
    · rcases List.mem_append.mp hy with hy | hy
      · exact b2 y hy
      · rw [List.mem_singleton.mp hy]
        exact ⟨j, hj, ej⟩
    · rw [List.length_eraseIdx_of_lt hr]
      omega
    · rw [List.length_append, n2]
      rfl
    · rcases al q hq with h1 | h1
      · rcases mem_erase hr h1 with h2 | h2
        · exact .inl h2
        · exact .inr (List.mem_append_right _ (List.mem_singleton.mpr h2))
      · exact .inr (List.mem_append_left _ h1)
    · exact (ht2.own (by omega) _).own (by rw [hl0]; omega) _
    · exact ((kb1.trans kb2).own (Nat.le_refl _) _).own (by rw [hl0]; omega) _
    · rw [List.length_set, List.length_set]
      omega
  · rintro σ S1 ⟨ls, os, v, rfl, l1, l2, b1, b2, n1, n2, al, ht1, kb1, hl1⟩
    rw [rangeD_len, Int.toNat_natCast] at n1 n2
    exact h _ os S1 (by rw [hl0]; exact l2) b2 n2 (fun q hq => (al q hq).resolve_left fun hm => by
      have := List.length_pos_of_mem hm
      omega) ht1 kb1 (by rw [hl0]; omega)

theorem order_spec {T : List DDef} {f fd n : Nat} (hf : T[f]? = some (dOrder fd)) (hd : T[fd]? = some dDraw) {S : Sto} {t : Nat} {many : Nat} {k : WK} (ht : Tape S t) (hm : many < 100000)
    (h : ∀ (p : Nat) (os : List D) S', S'[p]? = some os → Below many os → os.length = many → Tape S' t → KeepB t S S' → p ≥ S.length → k (.ptr p) S') : Run T (n + 2) f [.ptr t, .int many] S k :=
  order_all hf hd ht hm fun p os S' a b c _ d e g => h p os S' a b c d e g

/-! ### places -/
def dPlaces (fo : Nat) : DDef :=
  ⟨"_law_places", ["tape", "many", "few"], 3, [
    .ret (.bin .add (.bin .add (.ls [(.neg (.int 1))]) (.slc (.call fo [(.var 0), (.var 1)]) none (some (.var 2)))) (.ls [(.neg (.int 1))]))]⟩
theorem cutD_sub (xs : List D) (lo hi : Option Int) {x : D} (h : x ∈ cutD xs lo hi) : x ∈ xs := List.mem_of_mem_drop (List.mem_of_mem_take h)
theorem cutD_le (xs : List D) (lo hi : Option Int) : (cutD xs lo hi).length ≤ xs.length := by
  unfold cutD
  rw [List.length_take, List.length_drop]
  omega
theorem places_last {T : List DDef} {f fo fd n : Nat} (hf : T[f]? = some (dPlaces fo)) (ho : T[fo]? = some (dOrder fd)) (hd : T[fd]? = some dDraw) {S : Sto} {t : Nat} {many : Nat} {few : Int} {k : WK} (ht : Tape S t) (hm : many < 100000)
    (h : ∀ (ys : List D) S', (∀ x ∈ ys, x = .int (-1) ∨ ∃ i : Nat, i < many ∧ x = .int i) → Tape S' t → KeepB t S S' → k (.ro (ys ++ [.int (-1)])) S') : Run T (n + 3) f [.ptr t, .int many, .int few] S k := by
  refine run_of hf rfl ?_
  walk_at "w"
  refine order_spec ho hd ht hm fun p os S1 e b hl ht1 kb1 _ => ?_
  walk_at "w"
  rw [show listOf S1 (.ptr p) = _ from e]
  walk_at "w"
  have hc := cutD_le os none (some few)
  refine ⟨?_, ?_⟩
  · show 1 + _ ≤ 16777216
    omega
  walk_at "w"
  refine ⟨?_, ?_⟩
  · rw [List.length_append]
    show 1 + _ + 1 ≤ 16777216
    omega
  refine h _ S1 (fun x hx => ?_) ht1 kb1
  rcases List.mem_append.mp hx with hx | hx
  · exact .inl (List.mem_singleton.mp hx)
  · exact .inr (b x (cutD_sub _ _ _ hx))
theorem places_spec {T : List DDef} {f fo fd n : Nat} (hf : T[f]? = some (dPlaces fo)) (ho : T[fo]? = some (dOrder fd)) (hd : T[fd]? = some dDraw) {S : Sto} {t : Nat} {many : Nat} {few : Int} {k : WK} (ht : Tape S t) (hm : many < 100000)
    (h : ∀ (xs : List D) S', (∀ x ∈ xs, x = .int (-1) ∨ ∃ i : Nat, i < many ∧ x = .int i) → Tape S' t → KeepB t S S' → k (.ro xs) S') : Run T (n + 3) f [.ptr t, .int many, .int few] S k :=
  places_last hf ho hd ht hm fun ys S' hy a b => h _ S' (fun x hx => (List.mem_append.mp hx).elim (hy x) fun h => .inl (List.mem_singleton.mp h)) a b

/-! ### rows mixed -/
/-- a row of n parts, each of its kind -/
def Row (n : Nat) (P : Nat → D → Prop) (xs : List D) : Prop := xs.length = n ∧ ∀ i x, xs[i]? = some x → P i x
theorem cutD_take (xs : List D) {i : Nat} (h : i ≤ xs.length) : cutD xs none (some (i : Int)) = xs.take i := by
  unfold cutD
  rw [HT.sIx_nat, HT.sIx_none]
  simp [Nat.min_eq_left h]
theorem cutD_drop (xs : List D) {i : Nat} (h : i ≤ xs.length) : cutD xs (some (i : Int)) none = xs.drop i := by
  unfold cutD
  rw [HT.sIx_nat, HT.sIx_none, Nat.min_eq_left h]
  exact List.take_of_length_le (by rw [List.length_drop]; omega)
theorem mixed_one {T : List DDef} {f n : Nat} (hf : T[f]? = some dMixed) {m : Nat} {P : Nat → D → Prop} {one two : List D} (hm : m < 1000000) (h1 : Row m P one) (h2 : Row m P two) {x : D} (hx : x = .int (-1) ∨ ∃ i : Nat, i < m ∧ x = .int i) {S : Sto} {k : WK}
    (h : ∀ zs, Row m P zs → (x = .int (-1) → zs = one) → k (.tup zs) S) : Run T (n + 1) f [.tup one, .tup two, x] S k := by
  refine run_of hf rfl ?_
  rcases hx with rfl | ⟨i, hi, rfl⟩
  · walk_at "w"
    exact ⟨fun _ => h one h1 fun _ => rfl, (fun hb => nomatch hb)⟩
  · walk_at "w"
    refine ⟨fun hb => ?_, fun _ => ?_⟩
    · have hb : decide ((i : Int) < 0) = true := hb
      have := of_decide_eq_true hb
      omega
    have i1 : i < one.length := by rw [h1.1]; exact hi
    have i2 : i < two.length := by rw [h2.1]; exact hi
    walk_at "w"
    rw [show atI two (i : Int) = some two[i] from at_nat (by omega) (by rw [Int.toNat_natCast]; exact List.getElem?_eq_getElem i2)]
    walk_at "w"
    have s1 := h1.1
    refine ⟨?_, ?_⟩
    · have := cutD_le one none (some (i : Int))
      show _ + 1 ≤ 16777216
      omega
    walk_at "w"
    refine ⟨?_, ?_⟩
    · have := cutD_le one none (some (i : Int))
      have := cutD_le one (some ((i : Int) + 1)) none
      rw [List.length_append]
      show _ + 1 + _ ≤ 16777216
      omega
    refine h _ ?_ fun e => absurd (D.int.inj e) (by omega)
    rw [show (i : Int) + 1 = ((i + 1 : Nat) : Int) by omega, cutD_take one (by omega), cutD_drop one (by omega)]
    have e : one.take i ++ [two[i]] ++ one.drop (i + 1) = one.set i two[i] := by
      rw [List.set_eq_take_append_cons_drop, if_pos i1, List.append_assoc]
      rfl
    rw [e]
    refine ⟨by rw [List.length_set]; exact s1, fun j y hy => ?_⟩
    by_cases hj : i = j
    · subst hj
      rw [List.getElem?_set_self i1] at hy
      cases hy
      exact h2.2 i _ (List.getElem?_eq_getElem i2)
    · rw [List.getElem?_set_ne hj] at hy
      exact h1.2 j y hy
theorem mixed_spec {T : List DDef} {f n : Nat} (hf : T[f]? = some dMixed) {m : Nat} {P : Nat → D → Prop} {one two : List D} (hm : m < 1000000) (h1 : Row m P one) (h2 : Row m P two) {x : D} (hx : x = .int (-1) ∨ ∃ i : Nat, i < m ∧ x = .int i) {S : Sto} {k : WK}
    (h : ∀ zs, Row m P zs → k (.tup zs) S) : Run T (n + 1) f [.tup one, .tup two, x] S k := mixed_one hf hm h1 h2 hx fun zs r _ => h zs r
end Ov
-- OvZ
/-! Numbers drawn between bounds. -/
namespace Ov
open PySem L2
local macro_rules | `(tactic| walk_at "w") => `(tactic| conv => whnf)
local macro_rules | `(tactic| walk_at "y") => `(tactic| refine ⟨fun _ => ?_, fun hb => by cases hb⟩)
local macro_rules | `(tactic| walk_at "n") => `(tactic| refine ⟨(fun hb => by cases hb), fun _ => ?_⟩)

def dNumb (fd : Nat) : DDef :=
  ⟨"_law_number", ["tape", "low", "top", "choice", "reach"], 3, [
    .asg (.nm 3) (.call fd [(.var 0), (.int 8)]),
    .ite (.cmp .lt (.var 3) (.int 3)) [
      .ret (.idx (.ls [(.var 1), (.var 2), (.bi .min [(.var 2), (.bin .add (.var 1) (.int 1))])]) (.var 3))] [],
    .asg (.nm 4) (.idx (.ls [(.int 3), (.int 6), (.int 12), (.int 60), (.bin .add (.bin .sub (.var 2) (.var 1)) (.int 1))]) (.bin .sub (.var 3) (.int 3))),
    .ret (.bin .add (.var 1) (.call fd [(.var 0), (.bi .min [(.var 4), (.bin .add (.bin .sub (.var 2) (.var 1)) (.int 1))])]))]⟩
theorem numb_spec {T : List DDef} {f fd n : Nat} (hf : T[f]? = some (dNumb fd)) (hd : T[fd]? = some dDraw) {S : Sto} {t : Nat} {low top : Int} {k : WK} (ht : Tape S t) (hlt : low ≤ top) (hb : top - low < 1000000000)
    (h : ∀ r S', low ≤ r → r ≤ top → Tape S' t → KeepB t S S' → S'.length = S.length → k (.int r) S') : Run T (n + 2) f [.ptr t, .int low, .int top] S k := by
  refine run_of hf rfl ?_
  walk_at "w"
  refine draw_spec hd ht (by decide) fun c S1 c0 c1 ht1 kb1 hl1 => ?_
  have c1 : c < 8 := c1
  walk_at "w"
  rcases (by omega : c = 0 ∨ c = 1 ∨ c = 2 ∨ c = 3 ∨ c = 4 ∨ c = 5 ∨ c = 6 ∨ c = 7) with rfl | rfl | rfl | rfl | rfl | rfl | rfl | rfl
  · walk_at "y"
    walk_at "w"
    exact h _ _ (by omega) hlt ht1 kb1 hl1
  · walk_at "y"
    walk_at "w"
    exact h _ _ hlt (by omega) ht1 kb1 hl1
  · walk_at "y"
    walk_at "w"
    exact h _ _ (by split <;> omega) (by split <;> omega) ht1 kb1 hl1
  all_goals
    walk_at "n"
    walk_at "w"
    refine draw_spec hd ht1 (by split <;> omega) fun r S2 r0 r1 ht2 kb2 hl2 => ?_
    walk_at "w"
    exact h _ _ (by omega) (by split at r1 <;> omega) ht2 (kb1.trans kb2) (hl2.trans hl1)
def dSmall (fd : Nat) : DDef :=
  ⟨"_law_small", ["tape", "low", "top", "choice", "reach"], 3, [
    .asg (.nm 3) (.call fd [(.var 0), (.int 9)]),
    .ite (.cmp .eq (.var 3) (.int 8)) [
      .ret (.var 2)] [],
    .asg (.nm 4) (.idx (.ls [(.int 1), (.int 2), (.int 4), (.int 9), (.int 21), (.int 21), (.int 61), (.bin .add (.bin .sub (.var 2) (.var 1)) (.int 1))]) (.var 3)),
    .ret (.bin .add (.var 1) (.call fd [(.var 0), (.bi .min [(.var 4), (.bin .add (.bin .sub (.var 2) (.var 1)) (.int 1))])]))]⟩
theorem small_spec {T : List DDef} {f fd n : Nat} (hf : T[f]? = some (dSmall fd)) (hd : T[fd]? = some dDraw) {S : Sto} {t : Nat} {low top : Int} {k : WK} (ht : Tape S t) (hlt : low ≤ top) (hb : top - low < 1000000000)
    (h : ∀ r S', low ≤ r → r ≤ top → Tape S' t → KeepB t S S' → S'.length = S.length → k (.int r) S') : Run T (n + 2) f [.ptr t, .int low, .int top] S k := by
  refine run_of hf rfl ?_
  walk_at "w"
  refine draw_spec hd ht (by decide) fun c S1 c0 c1 ht1 kb1 hl1 => ?_
  have c1 : c < 9 := c1
  walk_at "w"
  refine ⟨rfl, ?_⟩
  rcases (by omega : c = 8 ∨ c = 0 ∨ c = 1 ∨ c = 2 ∨ c = 3 ∨ c = 4 ∨ c = 5 ∨ c = 6 ∨ c = 7) with rfl | rfl | rfl | rfl | rfl | rfl | rfl | rfl | rfl
  · walk_at "y"
    walk_at "w"
    exact h _ _ hlt (by omega) ht1 kb1 hl1
  all_goals
    walk_at "n"
    walk_at "w"
    refine draw_spec hd ht1 (by split <;> omega) fun r S2 r0 r1 ht2 kb2 hl2 => ?_
    walk_at "w"
    exact h _ _ (by omega) (by split at r1 <;> omega) ht2 (kb1.trans kb2) (hl2.trans hl1)
theorem ints_map : ∀ ns : List Int, intsOf (ns.map D.int) = some ns
  | [] => rfl
  | n :: ns => by
    show (intsOf (ns.map D.int)).map (n :: ·) = _
    rw [ints_map ns]
    rfl
theorem sum_app (a b : List Int) : (a ++ b).sum = a.sum + b.sum := by
  induction a with
  | nil => simp
  | cons x a ih => rw [List.cons_append, List.sum_cons, List.sum_cons, ih, Int.add_assoc]
theorem sum_one (x : Int) : [x].sum = x := by
  rw [List.sum_cons]
  exact Int.add_zero x
/-! ### told numbers -/
def dNumbers : DDef :=
  ⟨"_law_numbers", ["told", "many", "x"], 2, [
    .ite (.orv (.notv (.tru (.bi (.isI "tuple") [(.var 0)]))) (.one (.cmp .ne (.bi .len [(.var 0)]) (.var 1)))) [
      .ret (.bl false)] [],
    .ret (.cmp .eq (.bi .len [(.comp false (.var 2) (.nm 2) [("x", 2)] .sq [(.var 0)] (some (.orv (.notv (.tru (.bi (.isI "int") [(.var 2)]))) (.one (.tru (.bi (.isI "bool") [(.var 2)]))))))]) (.int 0))]⟩
theorem numbers_spec {T : List DDef} {f n : Nat} (hf : T[f]? = some dNumbers) {ns : List Int} (hl : ns.length < 1000000) {m : Int} (hm : m = ns.length) {S : Sto} {k : WK} (h : k (.bl true) S) : Run T (n + 1) f [.tup (ns.map .int), .int m] S k := by
  refine run_of hf rfl ?_
  walk_at "w"
  walk_at "n"
  walk_at "w"
  refine ⟨rfl, ?_⟩
  rw [show eqD (.int ((ns.map D.int).length : Nat)) (.int m) = true from by
    rw [List.length_map, hm]
    exact eqI_refl _]
  walk_at "n"
  walk_at "w"
  refine ⟨by rw [List.length_map]; show _ < 16777216; omega, ?_⟩
  refine comp_pure (fun _ => false) (fun _ => .non) _ _ (fun y hy kk hkk => ?_) ?_
  · obtain ⟨a, _, rfl⟩ := List.mem_map.mp hy
    walk_at "w"
    walk_at "n"
    walk_at "w"
    walk_at "n"
    exact hkk
  · have e : ∀ xs : List D, collect (fun _ => false) (fun _ => .non) xs = [] := fun xs => by
      unfold collect
      rw [List.filter_eq_nil_iff.mpr (fun a _ => Bool.false_ne_true)]
      rfl
    rw [e]
    walk_at "w"
    exact ⟨rfl, h⟩
/-! ### parts of a whole -/
def dParts (fd : Nat) : DDef :=
  ⟨"_law_parts", ["tape", "whole", "parts", "left", "k", "part"], 2, [
    .asg (.nm 2) (.mls []),
    .asg (.nm 3) (.var 1),
    .forS (.nm 4) .rg [(.call fd [(.var 0), (.int 4)])] [
      .asg (.nm 5) (.call fd [(.var 0), (.bin .add (.var 3) (.int 1))]),
      .expr (.meth .append (.var 2) [(.var 5)]),
      .asg (.nm 3) (.bin .sub (.var 3) (.var 5))],
    .ret (.bin .add (.var 2) (.ls [(.var 3)]))]⟩
theorem parts_spec {T : List DDef} {f fd n : Nat} (hf : T[f]? = some (dParts fd)) (hd : T[fd]? = some dDraw) {S : Sto} {t : Nat} {whole : Int} {k : WK} (ht : Tape S t) (h0 : 0 ≤ whole) (h1 : whole ≤ 10000000)
    (h : ∀ (ps : List Int) S', (∀ p ∈ ps, 0 ≤ p ∧ p ≤ whole) → ps.sum = whole → 1 ≤ ps.length → ps.length ≤ 4 → Tape S' t → KeepB t S S' → k (.ro (ps.map .int)) S') : Run T (n + 2) f [.ptr t, .int whole] S k := by
  refine run_of hf rfl ?_
  have ht0 := ht.lt
  walk_at "w"
  refine draw_spec hd (ht.app [[]]) (by decide) fun m S1 m0 m1 ht1 kb1 hl1 => ?_
  have m1 : m < 4 := m1
  have kb2 : KeepB t S S1 := (Keep.app S [[]]).b.trans kb1
  have hl2 : S1.length = S.length + 1 := by rw [hl1]; simp
  have hp : S1[S.length]? = some [] := kb1.2 _ _ (by omega) (List.getElem?_concat_length ..)
  walk_at "w"
  refine ⟨⟨by omega, by omega⟩, trivial, ?_⟩
  refine for_inv (Run_mono T (n + 1)) (fun i σ S1 => ∃ (ps : List Int) (left : Int) (v4 v5 : Option D), σ = [some (.ptr t), some (.int whole), some (.ptr S.length), some (.int left), v4, v5] ∧ S1[S.length]? = some (ps.map D.int) ∧ ps.length = i ∧ ps.sum + left = whole ∧ 0 ≤ left ∧ left ≤ whole ∧
    (∀ p ∈ ps, 0 ≤ p ∧ p ≤ whole) ∧ Tape S1 t ∧ KeepB t S S1 ∧ S1.length = S.length + 1) ⟨[], whole, none, none, rfl, hp, rfl, by simp, h0, Int.le_refl _, (fun _ h => nomatch h), ht1, kb2, hl2⟩ ?_ ?_
  · rintro i x σ S2 hx ⟨ps, left, v4, v5, rfl, e, hl, hs, l0, l1, hps, ht2, kb3, hl3⟩
    have hx2 := (List.getElem?_eq_some_iff.mp hx).1
    rw [rangeD_len] at hx2
    walk_at "w"
    refine draw_spec hd ht2 (by omega) fun r S3 r0 r1 ht3 kb4 hl4 => ?_
    have r1 : r ≤ left := by omega
    have e2 := kb4.2 _ _ (show S.length ≠ t by omega) e
    walk_at "w"
    refine ⟨trivial, ?_⟩
    walk_at "w"
    rw [e2]
    refine ⟨by rw [List.length_map]; show _ < 16777216; omega, ?_⟩
    refine ⟨ps ++ [r], left - r, _, _, rfl, ?_, by simp [hl], ?_, by omega, by omega, fun p hp => ?_, ht3.own (by omega) _, (kb3.trans kb4).own (Nat.le_refl _) _, by rw [List.length_set, hl4, hl3]⟩
    · rw [List.getElem?_set_self (by rw [hl4, hl3]; omega), List.map_append]
      rfl
    · rw [sum_app, sum_one]
      omega
    · rcases List.mem_append.mp hp with hp | hp
      · exact hps p hp
      · rw [List.mem_singleton.mp hp]
        exact ⟨r0, by omega⟩
  · rintro σ S2 ⟨ps, left, v4, v5, rfl, e, hl, hs, l0, l1, hps, ht2, kb3, hl3⟩
    rw [rangeD_len] at hl
    walk_at "w"
    rw [show listOf S2 (.ptr S.length) = _ from e]
    refine ⟨by rw [List.length_map]; show ps.length + 1 ≤ 16777216; omega, ?_⟩
    rw [show ps.map D.int ++ [.int left] = (ps ++ [left]).map D.int by rw [List.map_append]; rfl]
    refine h _ S2 (fun p hp => ?_) (by rw [sum_app, sum_one, hs]) (by simp) (by rw [List.length_append, hl]; show m.toNat + 1 ≤ 4; omega) ht2 kb3
    rcases List.mem_append.mp hp with hp | hp
    · exact hps p hp
    · rw [List.mem_singleton.mp hp]
      exact ⟨l0, l1⟩
/-! ### tuples of ints are equal -/
theorem ints_lay : ∀ ns : List Int, PyData.canLayAll0 (toPys (ns.map D.int)) = true
  | [] => rfl
  | n :: ns => by
    show (PyData.canLay0 (.int n) && PyData.canLayAll0 (toPys (ns.map D.int))) = true
    rw [ints_lay ns]
    rfl
theorem ints_depth : ∀ ns : List Int, PyData.depthAll (toPys (ns.map D.int)) = 0
  | [] => rfl
  | n :: ns => by
    show max (PyData.depth (.int n)) (PyData.depthAll (toPys (ns.map D.int))) = 0
    rw [ints_depth ns]
    rfl
theorem ints_noPtr : ∀ ns : List Int, noPtrs (ns.map D.int) = true
  | [] => rfl
  | n :: ns => by
    show (true && noPtrs (ns.map D.int)) = true
    rw [ints_noPtr ns]
    rfl
theorem ints_okEq (ns : List Int) : okEq (.tup (ns.map D.int)) = true := by
  show (noPtrs (ns.map D.int) && (PyData.canLayAll0 (toPys (ns.map D.int)) && decide (PyData.depthAll (toPys (ns.map D.int)) + 1 ≤ 64))) = true
  rw [ints_noPtr, ints_lay, ints_depth]
  rfl
theorem ints_eq : ∀ ns ms : List Int, PyData.eqvAll (toPys (ns.map D.int)) (toPys (ms.map D.int)) = decide (ns = ms)
  | [], [] => rfl
  | [], _ :: _ => rfl
  | _ :: _, [] => rfl
  | n :: ns, m :: ms => by
    show ((n == m) && PyData.eqvAll (toPys (ns.map D.int)) (toPys (ms.map D.int))) = _
    rw [ints_eq ns ms]
    by_cases h : n = m
    · subst h
      simp
    · simp [h]
theorem ints_eqD (ns ms : List Int) : eqD (.tup (ns.map D.int)) (.tup (ms.map D.int)) = decide (ns = ms) := ints_eq ns ms
theorem ints_eqOk (ns ms : List Int) : eqOk (.tup (ns.map D.int)) (.tup (ms.map D.int)) = true := by
  unfold eqOk
  rw [ints_okEq, ints_okEq, Bool.or_eq_true]
  exact .inr rfl
theorem at_n {xs : List D} {i : Nat} {d : D} (h : xs[i]? = some d) : atI xs (i : Int) = some d := at_nat (by omega) (by rw [Int.toNat_natCast]; exact h)
theorem at_hd (x : D) (q : List D) : atI (x :: q) 0 = some x := at_n (i := 0) rfl
theorem Keep.own {S S1 : Sto} (h : Keep S S1) {p : Nat} (hp : S.length ≤ p) (x : List D) : Keep S (S1.set p x) := ⟨by rw [List.length_set]; exact h.1, fun n xs h1 => by
  have hn := (List.getElem?_eq_some_iff.mp h1).1
  rw [List.getElem?_set_ne (by omega)]
  exact h.2 n xs h1⟩
/-- a comprehension whose calls make lists of their own -/
theorem comp_keep {body : D → Sto → (Bool → D → Sto → Prop) → Prop} {all : List D} (p : D → Bool) (f : D → D) :
    ∀ (xs : List D) (S : Sto) (k : List D → Sto → Prop), (∀ x ∈ xs, ∀ (S1 : Sto), Keep S S1 → ∀ kk : Bool → D → Sto → Prop, (p x = true → ∀ S2, Keep S1 S2 → kk true (f x) S2) → (p x = false → ∀ S2, Keep S1 S2 → kk false .non S2) → body x S1 kk) → (∀ S', Keep S S' → k (collect p f xs) S') → compW body none all xs S k
  | [], S, k, _, h => ⟨trivial, h S (Keep.refl S)⟩
  | x :: xs, S, k, hb, h => by
    have next : ∀ S2, Keep S S2 → ∀ k' : List D → Sto → Prop, (∀ S', Keep S S' → k' (collect p f xs) S') → compW body none all xs S2 k' := fun S2 h2 k' h' =>
      comp_keep p f xs S2 k' (fun y hy S1 h1 => hb y (List.mem_cons_of_mem _ hy) S1 (h2.trans h1)) fun S' h3 => h' S' (h2.trans h3)
    unfold collect at h
    cases hp : p x with
    | true =>
      rw [List.filter_cons_of_pos hp] at h
      exact ⟨trivial, hb x List.mem_cons_self S (Keep.refl S) _ (fun _ S2 h2 => next S2 h2 _ h) fun e => by rw [hp] at e; cases e⟩
    | false =>
      rw [List.filter_cons_of_neg (by rw [hp]; exact Bool.false_ne_true)] at h
      exact ⟨trivial, hb x List.mem_cons_self S (Keep.refl S) _ (fun e => by rw [hp] at e; cases e) fun _ S2 h2 => next S2 h2 _ h⟩
theorem goods_int : ∀ {xs : List D}, (∀ x ∈ xs, ∃ i : Int, x = .int i) → goods 0 xs
  | [], _ => trivial
  | x :: xs, h => by
    obtain ⟨i, rfl⟩ := h x List.mem_cons_self
    exact ⟨trivial, goods_int fun y hy => h y (List.mem_cons_of_mem _ hy)⟩
theorem good_int {xs : List D} (hl : xs.length < 1000000) (h : ∀ x ∈ xs, ∃ i : Int, x = .int i) : good 1 (.tup xs) := ⟨hl, goods_int h⟩
theorem cut_hd (xs : List D) (i : Nat) : cutD xs none (some (i : Int)) = xs.take i := by
  unfold cutD
  rw [HT.sIx_nat, HT.sIx_none]
  simp
theorem ixN_nat {len j : Nat} (h : j < len) : ixN len (j : Int) = some j := by
  unfold ixN
  rw [if_pos (by omega), if_pos (by omega), Int.toNat_natCast]
theorem eqI_no {a b : Int} (h : a ≠ b) : eqD (.int a) (.int b) = false := beq_eq_false_iff_ne.mpr h
theorem pairs_map : ∀ ps : List (Int × Int), pairsOf (ps.map pairI) = some ps
  | [] => rfl
  | p :: ps => by
    show (pairsOf (ps.map pairI)).map (p :: ·) = _
    rw [pairs_map ps]
    rfl
theorem enum_mem {ws : List Int} {y : D} (h : y ∈ enumD (ws.map D.int)) : ∃ (i : Nat) (w : Int), ws[i]? = some w ∧ y = .tup [.int i, .int w] := by
  unfold enumD at h
  obtain ⟨p, hp, rfl⟩ := List.mem_map.mp h
  obtain ⟨i, hi⟩ := List.mem_iff_getElem?.mp hp
  rw [List.getElem?_zipIdx, List.getElem?_map] at hi
  cases e : ws[i]? with
  | none => rw [e] at hi; cases hi
  | some w =>
    rw [e] at hi
    have hi := Option.some.inj hi
    rw [← hi]
    exact ⟨i, w, e, by show D.tup [.int ((0 + i : Nat) : Int), .int w] = _; rw [Nat.zero_add]⟩
end Ov
-- OvMc
/-! Loops over a list that stands; tests on numbers. -/
namespace Ov
open PySem L2
theorem for_live' {body : D → DEnv → Sto → DEnds → Prop} (hb : ∀ x σ S (E E' : DEnds), E.Le E' → body x σ S E → body x σ S E') (I : Nat → DEnv → Sto → Prop) {q : Nat} {all : List D} {E : DEnds} (hst : ∀ i σ S, I i σ S → S[q]? = some all) :
    ∀ (xs : List D) (i : Nat) (σ : DEnv) (S : Sto), all.drop i = xs → i + xs.length = all.length → I i σ S →
    (∀ i x σ S, all[i]? = some x → I i σ S → body x σ S { nx := I (i + 1), rt := E.rt, bk := E.nx, ct := I (i + 1) }) → (∀ σ S, I all.length σ S → E.nx σ S) → forW body (some q) all xs σ S E
  | [], i, σ, S, hd, hi, h0, hs, he => by
    have hi : i = all.length := hi
    subst hi
    exact ⟨hst _ _ _ h0, he _ _ h0⟩
  | x :: xs, i, σ, S, hd, hi, h0, hs, he => by
    obtain ⟨hx, hr, _⟩ := drop_cons hd
    have hi2 : i + 1 + xs.length = all.length := by simp at hi; omega
    refine ⟨hst _ _ _ h0, hb x σ S _ _ ?_ (hs i x σ S hx h0)⟩
    exact ⟨fun σ1 S1 h1 => for_live' hb I hst xs (i + 1) σ1 S1 hr hi2 h1 hs he, fun _ _ h => h, fun _ _ h => h, fun σ1 S1 h1 => for_live' hb I hst xs (i + 1) σ1 S1 hr hi2 h1 hs he⟩
/-- a loop over a list that stands, by an invariant -/
theorem for_live {C : Calls} (hC : MonoC C) {p : PP} {b : List PSt} (I : Nat → DEnv → Sto → Prop) {q : Nat} {all : List D} {E : DEnds} {σ : DEnv} {S : Sto} (hst : ∀ i σ S, I i σ S → S[q]? = some all) (h0 : I 0 σ S)
    (hs : ∀ i x σ S, all[i]? = some x → I i σ S → forB C p b x σ S { nx := I (i + 1), rt := E.rt, bk := E.nx, ct := I (i + 1) }) (he : ∀ σ S, I all.length σ S → E.nx σ S) : forW (forB C p b) (some q) all all σ S E :=
  for_live' (forB_mono hC p b) I hst all 0 σ S rfl (Nat.zero_add _) h0 hs he
theorem y_end {P : Prop} (h : true = false) : P := Bool.noConfusion h
theorem n_end {P : Prop} (h : false = true) : P := Bool.noConfusion h
theorem neI_t {a b : Int} (h : (!eqD (.int a) (.int b)) = true) : a ≠ b := eqI_f (by rwa [Bool.not_eq_true'] at h)
theorem neI_f {a b : Int} (h : (!eqD (.int a) (.int b)) = false) : a = b := eqI_t (by rwa [Bool.not_eq_false'] at h)
theorem notD_t {p : Prop} [Decidable p] (h : (!decide p) = true) : ¬p := by simpa using h
theorem notD_f {p : Prop} [Decidable p] (h : (!decide p) = false) : p := by simpa using h
end Ov
-- OvSh
/-! Shares. -/
namespace Ov
open PySem L2
local macro_rules | `(tactic| walk_at "w") => `(tactic| conv => whnf)
local macro_rules | `(tactic| walk_at "y") => `(tactic| refine ⟨fun _ => ?_, fun hb => by cases hb⟩)
local macro_rules | `(tactic| walk_at "n") => `(tactic| refine ⟨(fun hb => by cases hb), fun _ => ?_⟩)

/-! ### sorted pairs are one -/
theorem leP_antisymm {a b : Int × Int} (h : leP a b) (h2 : leP b a) : a = b := by
  unfold leP at h h2
  obtain ⟨a1, a2⟩ := a
  obtain ⟨b1, b2⟩ := b
  simp only [Prod.mk.injEq] at *
  omega
theorem leP_refl (a : Int × Int) : leP a a := .inr ⟨rfl, Int.le_refl _⟩
theorem leP_trans {a b c : Int × Int} (h : leP a b) (h2 : leP b c) : leP a c := by
  unfold leP at *
  omega
theorem leP_total (a b : Int × Int) : leP a b ∨ leP b a := by
  unfold leP
  omega
instance (a b : Int × Int) : Decidable (leP a b) := by unfold leP; exact inferInstance
def srtP (ps : List (Int × Int)) : List (Int × Int) := ps.mergeSort fun a b => decide (leP a b)
theorem srtP_perm (ps : List (Int × Int)) : (srtP ps).Perm ps := List.mergeSort_perm ps _
theorem srtP_sorted (ps : List (Int × Int)) : (srtP ps).Pairwise leP := by
  have := List.pairwise_mergeSort (le := fun a b => decide (leP a b)) (fun a b c h1 h2 => decide_eq_true (leP_trans (of_decide_eq_true h1) (of_decide_eq_true h2))) (fun a b => by
    rw [Bool.or_eq_true, decide_eq_true_eq, decide_eq_true_eq]
    exact leP_total a b) ps
  exact this.imp fun h => of_decide_eq_true h
theorem sorted_uniq : ∀ {l m : List (Int × Int)}, l.Pairwise leP → m.Pairwise leP → l.Perm m → l = m
  | [], m, _, _, h => (List.Perm.eq_nil h.symm).symm
  | x :: l, [], _, _, h => by have := h.length_eq; simp at this
  | x :: l, y :: m, h1, h2, h => by
    have e : x = y := by
      rcases List.mem_cons.mp (h.mem_iff.mp (List.mem_cons_self (a := x) (l := l))) with e | hx
      · exact e
      rcases List.mem_cons.mp (h.mem_iff.mpr (List.mem_cons_self (a := y) (l := m))) with e | hy
      · exact e.symm
      exact leP_antisymm ((List.pairwise_cons.mp h1).1 y hy) ((List.pairwise_cons.mp h2).1 x hx)
    subst e
    rw [sorted_uniq (List.pairwise_cons.mp h1).2 (List.pairwise_cons.mp h2).2 h.cons_inv]

/-- sorted pairs -/
theorem sortW_pairs {x : D} {S : Sto} {k : List D → Prop} {ps : List (Int × Int)} (e : seqOf S x = some (ps.map pairI)) (h : k ((srtP ps).map pairI)) : sortW x S k := by
  unfold sortW
  rw [e]
  cases ps with
  | nil =>
    intro ns' hp _
    have hp : ns'.Perm [] := hp
    have := List.Perm.eq_nil hp
    subst this
    have e : srtP [] = [] := List.Perm.eq_nil (srtP_perm [])
    rw [e] at h
    exact h
  | cons p r =>
    show (match pairsOf ((p :: r).map pairI) with
      | some ps => ∀ ps' : List (Int × Int), ps'.Perm ps → ps'.Pairwise leP → k (ps'.map pairI)
      | none => False)
    rw [pairs_map]
    intro ps' hp hs
    rw [sorted_uniq hs (srtP_sorted _) (hp.trans (srtP_perm _).symm)]
    exact h
/-! ### the mathematics of shares -/
def quo (tot : Int) (ws : List Int) : List Int := ws.map fun w => tot * w / ws.sum
def rks (tot : Int) (ws : List Int) : List (Int × Int) := ws.zipIdx.map fun p => (-(tot * p.1 % ws.sum), (p.2 : Int))
def lft (tot : Int) (ws : List Int) : Int := tot - (quo tot ws).sum
def top (tot : Int) (ws : List Int) : List (Int × Int) := (srtP (rks tot ws)).take (lft tot ws).toNat
def shr (qs : List Int) (A : List (Int × Int)) : List Int := qs.zipIdx.map fun p => p.1 + (if (p.2 : Int) ∈ A.map (·.2) then 1 else 0)
def appo (tot : Int) (ws : List Int) : List Int := if ws.sum = 0 then List.replicate ws.length 0 else shr (quo tot ws) (top tot ws)
theorem shr_len (qs : List Int) (A : List (Int × Int)) : (shr qs A).length = qs.length := by simp [shr]
theorem shr_at {qs : List Int} {A : List (Int × Int)} {k : Nat} {q : Int} (h : qs[k]? = some q) : (shr qs A)[k]? = some (q + (if (k : Int) ∈ A.map (·.2) then 1 else 0)) := by
  unfold shr
  rw [List.getElem?_map, List.getElem?_zipIdx, h]
  simp
theorem shr_nil (qs : List Int) : shr qs [] = qs := by
  refine List.ext_getElem? fun k => ?_
  cases h : qs[k]? with
  | none =>
    rw [List.getElem?_eq_none_iff] at h ⊢
    rw [shr_len]
    exact h
  | some q =>
    rw [shr_at h]
    simp
theorem shr_step {qs : List Int} {A : List (Int × Int)} {p : Int × Int} {j : Nat} (hp : p.2 = j) (hj : (j : Int) ∉ A.map (·.2)) {q : Int} (hq : qs[j]? = some q) : (shr qs A).set j (q + 1) = shr qs (A ++ [p]) := by
  have hl : j < qs.length := (List.getElem?_eq_some_iff.mp hq).1
  refine List.ext_getElem? fun k => ?_
  by_cases hk : j = k
  · subst hk
    rw [List.getElem?_set_self (by rw [shr_len]; exact hl), shr_at hq]
    rw [if_pos (by simp [hp])]
  · rw [List.getElem?_set_ne hk]
    cases h : qs[k]? with
    | none =>
      rw [List.getElem?_eq_none_iff] at h
      rw [List.getElem?_eq_none_iff.mpr (by rw [shr_len]; exact h), List.getElem?_eq_none_iff.mpr (by rw [shr_len]; exact h)]
    | some q' =>
      rw [shr_at h, shr_at h]
      have : ((k : Int) ∈ (A ++ [p]).map (·.2)) ↔ ((k : Int) ∈ A.map (·.2)) := by
        rw [List.map_append, List.mem_append]
        constructor
        · rintro (h1 | h1)
          · exact h1
          · simp at h1
            omega
        · exact .inl
      by_cases h1 : (k : Int) ∈ A.map (·.2)
      · rw [if_pos h1, if_pos (this.mpr h1)]
      · rw [if_neg h1, if_neg (fun h2 => h1 (this.mp h2))]
theorem sum_set : ∀ {l : List Int} {j : Nat} {x y : Int}, l[j]? = some x → (l.set j y).sum = l.sum + y - x
  | [], j, x, y, h => by simp at h
  | a :: l, 0, x, y, h => by
    cases h
    rw [List.set_cons_zero, List.sum_cons, List.sum_cons]
    omega
  | a :: l, j + 1, x, y, h => by
    rw [List.set_cons_succ, List.sum_cons, List.sum_cons, sum_set (l := l) (j := j) h]
    omega
theorem rem_sum (tot W : Int) (hW : 0 < W) : ∀ ws : List Int, (ws.map fun w => tot * w / W).sum * W + (ws.map fun w => tot * w % W).sum = tot * ws.sum ∧ 0 ≤ (ws.map fun w => tot * w % W).sum ∧ (ws.map fun w => tot * w % W).sum ≤ ws.length * (W - 1)
  | [] => by simp
  | w :: ws => by
    obtain ⟨h1, h2, h3⟩ := rem_sum tot W hW ws
    have a := Int.mul_ediv_add_emod (tot * w) W
    have b := Int.emod_nonneg (tot * w) (Int.ne_of_gt hW)
    have c := Int.emod_lt_of_pos (tot * w) hW
    simp only [List.map_cons, List.sum_cons, List.length_cons]
    rw [Int.add_mul, Int.mul_add]
    rw [show ((ws.length + 1 : Nat) : Int) = (ws.length : Int) + 1 by omega, Int.add_mul, Int.one_mul]
    rw [Int.mul_comm] at a
    omega
section
variable {tot : Int} {ws : List Int}
theorem lft_bd (hW : 0 < ws.sum) : 0 ≤ lft tot ws ∧ lft tot ws < ws.length := by
  obtain ⟨h1, h2, h3⟩ := rem_sum tot ws.sum hW ws
  have hn : 0 < ws.length := by
    cases ws with
    | nil => simp at hW
    | cons => simp
  have e : lft tot ws * ws.sum = (ws.map fun w => tot * w % ws.sum).sum := by
    show (tot - (ws.map fun w => tot * w / ws.sum).sum) * ws.sum = _
    rw [Int.sub_mul]
    omega
  constructor
  · refine Int.not_lt.mp fun hlt => ?_
    have := Int.mul_neg_of_neg_of_pos hlt hW
    omega
  · refine Int.not_le.mp fun hle => ?_
    have h4 := Int.mul_le_mul_of_nonneg_right hle (Int.le_of_lt hW)
    have h5 : (ws.length : Int) * (ws.sum - 1) = ws.length * ws.sum - ws.length := by rw [Int.mul_sub, Int.mul_one]
    omega
theorem quo_len : (quo tot ws).length = ws.length := by unfold quo; rw [List.length_map]
theorem rks_len : (rks tot ws).length = ws.length := by simp [rks]
theorem rks_at {k : Nat} {w : Int} (h : ws[k]? = some w) : (rks tot ws)[k]? = some (-(tot * w % ws.sum), (k : Int)) := by
  unfold rks
  rw [List.getElem?_map, List.getElem?_zipIdx, h]
  simp
theorem rks_snd : (rks tot ws).map (·.2) = (List.range ws.length).map fun (i : Nat) => (i : Int) := by
  unfold rks
  rw [List.map_map, List.zipIdx_eq_zip_range']
  have : ∀ (l : List Int) (n : Nat), (l.zip (List.range' n l.length)).map ((fun x => x.2) ∘ fun p => (-(tot * p.1 % ws.sum), (p.2 : Int))) = (List.range' n l.length).map fun (i : Nat) => (i : Int) := by
    intro l
    induction l with
    | nil => intro n; rfl
    | cons x l ih =>
      intro n
      simp only [List.length_cons, List.range'_succ, List.zip_cons_cons, List.map_cons]
      rw [ih]
      rfl
  rw [this, List.range_eq_range']
theorem rks_nodup : ((rks tot ws).map (·.2)).Nodup := by
  rw [rks_snd, List.nodup_iff_pairwise_ne]
  refine List.Pairwise.map (R := fun (a b : Nat) => a ≠ b) _ (fun a b hab e => hab (by omega)) (List.nodup_iff_pairwise_ne.mp List.nodup_range)
theorem srt_nodup : ((srtP (rks tot ws)).map (·.2)).Nodup := ((srtP_perm _).map _).nodup_iff.mpr rks_nodup
theorem top_len (hW : 0 < ws.sum) : ((top tot ws).length : Int) = lft tot ws := by
  obtain ⟨h1, h2⟩ := lft_bd (tot := tot) hW
  unfold top
  rw [List.length_take, (srtP_perm _).length_eq, rks_len]
  omega
theorem srt_mem {p : Int × Int} (h : p ∈ srtP (rks tot ws)) : ∃ (k : Nat) (w : Int), ws[k]? = some w ∧ p = (-(tot * w % ws.sum), (k : Int)) := by
  have h := (srtP_perm _).mem_iff.mp h
  obtain ⟨k, hk, rfl⟩ := List.mem_iff_getElem.mp h
  rw [rks_len] at hk
  have := rks_at (tot := tot) (List.getElem?_eq_getElem hk)
  rw [List.getElem?_eq_getElem (by rw [rks_len]; exact hk)] at this
  exact ⟨k, ws[k], List.getElem?_eq_getElem hk, Option.some.inj this⟩
/-- what is told of shares -/
structure Share (tot : Int) (ws ts : List Int) : Prop where
  len : ts.length = ws.length
  zero : ws.sum = 0 → ts = List.replicate ws.length 0
  sum : 0 < ws.sum → ts.sum = tot
  near : 0 < ws.sum → ∃ b : Nat → Bool, (∀ (k : Nat) (w : Int), ws[k]? = some w → ts[k]? = some (tot * w / ws.sum + (if b k = true then 1 else 0))) ∧
    ∀ (j k : Nat) (v w : Int), ws[j]? = some v → ws[k]? = some w → b j = true → b k = false → tot * w % ws.sum < tot * v % ws.sum ∨ (tot * w % ws.sum = tot * v % ws.sum ∧ j < k)
theorem shr_sum {qs : List Int} : ∀ (B : List (Int × Int)), (B.map (·.2)).Nodup → (∀ p ∈ B, ∃ k : Nat, k < qs.length ∧ p.2 = k) → (shr qs B).sum = qs.sum + B.length := by
  intro B
  generalize hn : B.length = n
  induction n generalizing B with
  | zero =>
    intro _ _
    rw [List.eq_nil_of_length_eq_zero hn, shr_nil]
    exact (Int.add_zero _).symm
  | succ n ih =>
    intro hd hm
    have hne : B ≠ [] := fun e => by rw [e] at hn; cases hn
    obtain ⟨A, p, rfl⟩ : ∃ A p, B = A ++ [p] := ⟨B.dropLast, B.getLast hne, (List.dropLast_concat_getLast hne).symm⟩
    rw [List.map_append, List.nodup_append] at hd
    obtain ⟨k, hk, e⟩ := hm p (by simp)
    have hkn : (k : Int) ∉ A.map (·.2) := fun hx => hd.2.2 _ hx p.2 (by simp) e.symm
    have hq := List.getElem?_eq_getElem hk
    rw [← shr_step e hkn hq, sum_set (shr_at hq), if_neg hkn, ih A (by simpa using hn) hd.1 fun q hq => hm q (by simp [hq])]
    simp at hn
    omega
theorem appo_share (h0 : ∀ w ∈ ws, 0 ≤ w) : Share tot ws (appo tot ws) := by
  unfold appo
  by_cases hz : ws.sum = 0
  · rw [if_pos hz]
    exact ⟨List.length_replicate, fun _ => rfl, fun h => absurd hz (by omega), fun h => absurd hz (by omega)⟩
  rw [if_neg hz]
  have topm : ∀ p ∈ top tot ws, ∃ k : Nat, k < (quo tot ws).length ∧ p.2 = k := fun p hp => by
    obtain ⟨k, w, h1, rfl⟩ := srt_mem (List.mem_of_mem_take hp)
    exact ⟨k, by rw [quo_len]; exact (List.getElem?_eq_some_iff.mp h1).1, rfl⟩
  have topn : ((top tot ws).map (·.2)).Nodup := by
    unfold top
    rw [List.map_take]
    exact List.Sublist.nodup (List.take_sublist _ _) srt_nodup
  refine ⟨by rw [shr_len, quo_len], fun h => absurd h hz, fun hW => ?_, fun hW => ⟨fun k => decide ((k : Int) ∈ (top tot ws).map (·.2)), fun k w h => ?_, fun j k v w hj hk bj bk => ?_⟩⟩
  · rw [shr_sum _ topn topm, top_len hW]
    unfold lft
    omega
  · have hq : (quo tot ws)[k]? = some (tot * w / ws.sum) := by
      unfold quo
      rw [List.getElem?_map, h]
      rfl
    rw [shr_at hq]
    by_cases hm : (k : Int) ∈ (top tot ws).map (·.2)
    · rw [if_pos hm, if_pos (decide_eq_true hm)]
    · rw [if_neg hm, if_neg (by rw [decide_eq_true_eq]; exact hm)]
  · have bj := of_decide_eq_true bj
    have bk := of_decide_eq_false bk
    -- j's pair stands among the first, k's behind them
    have fst : ∀ (i : Nat) (x : Int), ws[i]? = some x → (-(tot * x % ws.sum), (i : Int)) ∈ srtP (rks tot ws) := fun i x hx => (srtP_perm _).mem_iff.mpr (List.mem_of_getElem? (rks_at hx))
    have hsplit := List.take_append_drop (lft tot ws).toNat (srtP (rks tot ws))
    have jm : (-(tot * v % ws.sum), (j : Int)) ∈ (srtP (rks tot ws)).take (lft tot ws).toNat := by
      obtain ⟨p, hp, e⟩ := List.mem_map.mp bj
      have hp : p ∈ (srtP (rks tot ws)).take (lft tot ws).toNat := hp
      obtain ⟨i, x, h1, rfl⟩ := srt_mem (List.mem_of_mem_take hp)
      have e : (i : Int) = j := e
      have : i = j := by omega
      subst this
      rw [hj] at h1
      cases h1
      exact hp
    have km : (-(tot * w % ws.sum), (k : Int)) ∈ (srtP (rks tot ws)).drop (lft tot ws).toNat := by
      have := fst k w hk
      rw [← hsplit] at this
      rcases List.mem_append.mp this with h1 | h1
      · exact absurd (List.mem_map.mpr ⟨_, h1, rfl⟩) bk
      · exact h1
    have srt := srtP_sorted (rks tot ws)
    rw [← hsplit] at srt
    have := (List.pairwise_append.mp srt).2.2 _ jm _ km
    have hjk : j ≠ k := fun e => by subst e; exact bk bj
    unfold leP at this
    simp only at this
    omega
end

/-! ### the program's apportioning -/
def dApp : DDef :=
  ⟨"apportion", ["total", "weights", "whole", "shares", "left", "ranked", "_", "index", "weight"], 2, [
    .asg (.nm 2) (.bi .sum [(.var 1)]),
    .ite (.cmp .eq (.var 2) (.int 0)) [
      .ret (.bin .mul (.tup [(.int 0)]) (.bi .len [(.var 1)]))] [],
    .asg (.nm 3) (.comp true (.bin .fdiv (.bin .mul (.var 0) (.var 8)) (.var 2)) (.nm 8) [("weight", 8)] .sq [(.var 1)] none),
    .asg (.nm 4) (.bin .sub (.var 0) (.bi .sum [(.var 3)])),
    .asg (.nm 5) (.bi .sorted [(.comp false (.tup [(.neg (.bin .mod (.bin .mul (.var 0) (.var 8)) (.var 2))), (.var 7)]) (.tp [(.nm 7), (.nm 8)]) [("index", 7), ("weight", 8)] .en [(.var 1)] none)]),
    .forS (.tp [(.nm 6), (.nm 7)]) .sq [(.slc (.var 5) none (some (.var 4)))] [
      .augS (.var 3) (.var 7) .add (.int 1)],
    .ret (.bi .tuple [(.var 3)])]⟩
theorem rep_zero (n : Nat) : (List.replicate n [D.int 0]).flatten = (List.replicate n (0 : Int)).map D.int := by
  induction n with
  | zero => rfl
  | succ n ih =>
    rw [List.replicate_succ, List.flatten_cons, ih, List.replicate_succ]
    rfl
theorem app_spec {Tb : List DDef} {f n : Nat} (hf : Tb[f]? = some dApp) {tot : Int} {ws : List Int} (h0 : ∀ w ∈ ws, 0 ≤ w) (hl : ws.length ≤ 1000) (hW : ws.sum < 1073741824) (t0 : 0 ≤ tot) (t1 : tot < 1000000000) {S : Sto} {k : WK}
    (h : ∀ S', Keep S S' → k (.tup ((appo tot ws).map .int)) S') : Run Tb (n + 1) f [.int tot, .tup (ws.map .int)] S k := by
  refine run_of hf rfl ?_
  walk_at "w"
  rw [show (seqOf S (.tup (ws.map D.int))).bind intsOf = some ws from ints_map ws]
  walk_at "w"
  refine ⟨rfl, ?_⟩
  by_cases hz : ws.sum = 0
  · rw [hz]
    walk_at "y"
    walk_at "w"
    rw [List.length_map]
    refine ⟨⟨rfl, by decide, by omega, by omega⟩, ?_⟩
    rw [Int.toNat_natCast, rep_zero]
    have := h S (Keep.refl S)
    unfold appo at this
    rw [if_pos hz] at this
    exact this
  have sum0 : ∀ l : List Int, (∀ w ∈ l, 0 ≤ w) → 0 ≤ l.sum := by
    intro l
    induction l with
    | nil => intro _; exact Int.le_refl _
    | cons x l ih =>
      intro hx
      have a := hx x List.mem_cons_self
      have b := ih fun w hw => hx w (List.mem_cons_of_mem _ hw)
      rw [List.sum_cons]
      omega
  have W0 : 0 < ws.sum := by
    have := sum0 ws h0
    omega
  rw [eqI_no hz]
  walk_at "n"
  walk_at "w"
  refine ⟨by rw [List.length_map]; show _ < 16777216; omega, ?_⟩
  refine comp_pure (fun _ => true) (fun y => match y with
    | .int w => .int (tot * w / ws.sum)
    | _ => .non) _ _ (fun y hy kk hkk => ?_) ?_
  · obtain ⟨w, hw, rfl⟩ := List.mem_map.mp hy
    walk_at "w"
    walk_at "y"
    walk_at "w"
    refine ⟨.inl ⟨by omega, by omega⟩, ?_⟩
    walk_at "w"
    exact ⟨⟨W0, hW⟩, hkk⟩
  have e1 : collect (fun _ => true) (fun y => match y with
    | .int w => D.int (tot * w / ws.sum)
    | _ => .non) (ws.map D.int) = (quo tot ws).map D.int := by
    unfold collect quo
    rw [List.filter_eq_self.mpr fun _ _ => rfl, List.map_map, List.map_map]
    rfl
  rw [e1]
  walk_at "w"
  have eq1 : (S ++ [(quo tot ws).map D.int])[S.length]? = some ((quo tot ws).map D.int) := List.getElem?_concat_length ..
  rw [show (seqOf (S ++ [(quo tot ws).map D.int]) (.ptr S.length)).bind intsOf = some (quo tot ws) from by
    show ((S ++ [(quo tot ws).map D.int])[S.length]?).bind intsOf = _
    rw [eq1]
    exact ints_map _]
  walk_at "w"
  refine ⟨by rw [enumD_len, List.length_map]; show _ < 16777216; omega, ?_⟩
  refine comp_pure (fun _ => true) (fun y => match y with
    | .tup [.int i, .int w] => pairI (-(tot * w % ws.sum), i)
    | _ => .non) _ _ (fun y hy kk hkk => ?_) ?_
  · obtain ⟨i, w, hw, rfl⟩ := enum_mem hy
    walk_at "w"
    refine ⟨rfl, ?_⟩
    walk_at "w"
    walk_at "y"
    walk_at "w"
    refine ⟨.inl ⟨by omega, by omega⟩, ?_⟩
    walk_at "w"
    exact ⟨W0, hkk⟩
  have e2 : collect (fun _ => true) (fun y => match y with
    | .tup [.int i, .int w] => pairI (-(tot * w % ws.sum), i)
    | _ => .non) (enumD (ws.map D.int)) = (rks tot ws).map pairI := by
    unfold collect enumD rks
    rw [List.filter_eq_self.mpr fun _ _ => rfl, List.map_map, List.map_map]
    have : ∀ (l : List Int) (n : Nat), ((l.map D.int).zipIdx n).map ((fun y => match y with
        | .tup [.int i, .int w] => pairI (-(tot * w % ws.sum), i)
        | _ => .non) ∘ fun p => D.tup [.int (p.2 : Nat), p.1]) = (l.zipIdx n).map (pairI ∘ fun p => (-(tot * p.1 % ws.sum), (p.2 : Int))) := by
      intro l
      induction l with
      | nil => intro n; rfl
      | cons x l ih =>
        intro n
        rw [List.map_cons, List.zipIdx_cons, List.zipIdx_cons, List.map_cons, List.map_cons, ih]
        rfl
    exact this ws 0
  rw [e2]
  walk_at "w"
  refine sortW_pairs (ps := rks tot ws) rfl ?_
  obtain ⟨l0, l1⟩ := lft_bd (tot := tot) W0
  walk_at "w"
  rw [show tot - (quo tot ws).sum = (((lft tot ws).toNat : Nat) : Int) by
    show lft tot ws = _
    rw [Int.toNat_of_nonneg l0], cut_hd, ← List.map_take]
  refine ⟨trivial, ?_⟩
  show forW _ none ((top tot ws).map pairI) ((top tot ws).map pairI) _ _ _
  have tl : (top tot ws).length ≤ ws.length := by
    have := top_len (tot := tot) W0
    omega
  refine for_inv (Run_mono Tb n) (fun i σ S1 => S1[S.length]? = some ((shr (quo tot ws) ((top tot ws).take i)).map D.int) ∧ Keep S S1 ∧ S1.length = S.length + 1 ∧ ∃ v2 v4 v5 v6 v7 v8, σ = [some (.int tot), some (.tup (ws.map .int)), v2, some (.ptr S.length), v4, v5, v6, v7, v8])
    ⟨by rw [List.take_zero, shr_nil]; exact eq1, Keep.app _ _, by simp, _, _, _, _, _, _, rfl⟩ ?_ ?_
  · rintro i x σ S1 hx ⟨e, kp, hl1, v2, v4, v5, v6, v7, v8, rfl⟩
    rw [List.getElem?_map] at hx
    obtain ⟨q, hq, rfl⟩ := Option.map_eq_some_iff.mp hx
    obtain ⟨j, w, hw, rfl⟩ := srt_mem (List.mem_of_mem_take (List.mem_of_getElem? hq))
    have hi := (List.getElem?_eq_some_iff.mp hq).1
    have hj : j < ws.length := (List.getElem?_eq_some_iff.mp hw).1
    have topn : ((top tot ws).map (·.2)).Nodup := by
      unfold top
      rw [List.map_take]
      exact List.Sublist.nodup (List.take_sublist _ _) srt_nodup
    have esplit : top tot ws = (top tot ws).take i ++ (-(tot * w % ws.sum), (j : Int)) :: (top tot ws).drop (i + 1) := by
      have h1 := List.take_append_drop i (top tot ws)
      rw [List.drop_eq_getElem_cons hi] at h1
      have h2 : (top tot ws)[i] = (-(tot * w % ws.sum), (j : Int)) := by
        rw [List.getElem?_eq_getElem hi] at hq
        exact Option.some.inj hq
      rw [h2] at h1
      exact h1.symm
    have hjn : (j : Int) ∉ ((top tot ws).take i).map (·.2) := by
      intro hm
      rw [esplit, List.map_append, List.nodup_append] at topn
      exact topn.2.2 _ hm (j : Int) (by simp) rfl
    have hqj : (quo tot ws)[j]? = some (tot * w / ws.sum) := by
      unfold quo
      rw [List.getElem?_map, hw]
      rfl
    have hat : atI ((shr (quo tot ws) ((top tot ws).take i)).map D.int) (j : Int) = some (.int (tot * w / ws.sum)) := at_n (by
      rw [List.getElem?_map, shr_at hqj, if_neg hjn, Int.add_zero]
      rfl)
    have hix : ixN ((shr (quo tot ws) ((top tot ws).take i)).map D.int).length (j : Int) = some j := ixN_nat (by rw [List.length_map, shr_len, quo_len]; exact hj)
    walk_at "w"
    refine ⟨rfl, ?_⟩
    walk_at "w"
    rw [e]
    walk_at "w"
    rw [hat]
    refine ⟨by omega, ?_⟩
    walk_at "w"
    rw [e]
    walk_at "w"
    rw [hix]
    walk_at "w"
    refine ⟨?_, kp.own (Nat.le_refl _) _, by rw [List.length_set]; exact hl1, _, _, _, _, _, _, rfl⟩
    rw [List.getElem?_set_self (by omega)]
    have e5 : (top tot ws).take (i + 1) = (top tot ws).take i ++ [(-(tot * w % ws.sum), (j : Int))] := by
      rw [List.take_succ, hq]
      rfl
    rw [e5, ← shr_step rfl hjn hqj, List.map_set]
  · rintro σ S1 ⟨e, kp, hl1, v2, v4, v5, v6, v7, v8, rfl⟩
    rw [List.length_map, List.take_length] at e
    walk_at "w"
    rw [show seqOf S1 (.ptr S.length) = _ from e]
    have := h S1 kp
    unfold appo at this
    rw [if_neg hz] at this
    exact this
/-! ### the laws' weights -/
def dWeights (fd fs : Nat) : DDef :=
  ⟨"_law_weights", ["tape", "most", "top", "kind", "one", "row", "k", "weight"], 3, [
    .asg (.nm 3) (.call fd [(.var 0), (.int 5)]),
    .asg (.nm 4) (.call fs [(.var 0), (.int 0), (.var 2)]),
    .asg (.nm 5) (.tup []),
    .forS (.nm 6) .rg [(.call fd [(.var 0), (.bin .add (.var 1) (.int 1))])] [
      .asg (.nm 7) (.var 4),
      .ite (.cmp .eq (.var 3) (.int 1)) [
        .asg (.nm 7) (.bin .mul (.var 4) (.call fd [(.var 0), (.int 2)]))] [],
      .ite (.cmp .eq (.var 3) (.int 2)) [
        .asg (.nm 7) (.call fd [(.var 0), (.int 4)])] [],
      .ite (.cmp .eq (.var 3) (.int 3)) [
        .asg (.nm 7) (.call fs [(.var 0), (.int 0), (.var 2)])] [],
      .ite (.cmp .eq (.var 3) (.int 4)) [
        .asg (.nm 7) (.call fd [(.var 0), (.bin .add (.var 2) (.int 1))])] [],
      .asg (.nm 5) (.bin .add (.var 5) (.tup [(.var 7)]))],
    .ret (.var 5)]⟩
def WtInv (t : Nat) (most tp kd one : Int) (S : Sto) (i : Nat) (σ : DEnv) (S1 : Sto) : Prop := ∃ (ws : List Int) (v6 v7 : Option D), σ = [some (.ptr t), some (.int most), some (.int tp), some (.int kd), some (.int one), some (.tup (ws.map .int)), v6, v7] ∧ ws.length = i ∧ (∀ w ∈ ws, 0 ≤ w ∧ w ≤ tp) ∧ Tape S1 t ∧ KeepB t S S1 ∧ S1.length = S.length
theorem weights_spec {Tb : List DDef} {f fd fs n : Nat} (hf : Tb[f]? = some (dWeights fd fs)) (hs : Tb[fs]? = some (dSmall fd)) (hd : Tb[fd]? = some dDraw) {S : Sto} {t : Nat} {most tp : Int} {k : WK} (ht : Tape S t) (m0 : 0 ≤ most) (m1 : most ≤ 100) (t0 : 3 ≤ tp) (t1 : tp ≤ 100000000)
    (h : ∀ (ws : List Int) S', (∀ w ∈ ws, 0 ≤ w ∧ w ≤ tp) → (ws.length : Int) ≤ most → Tape S' t → KeepB t S S' → S'.length = S.length → k (.tup (ws.map .int)) S') : Run Tb (n + 3) f [.ptr t, .int most, .int tp] S k := by
  refine run_of hf rfl ?_
  walk_at "w"
  refine draw_spec hd ht (by decide) fun kd S1 k0 k1 ht1 kb1 hl1 => ?_
  have k1 : kd < 5 := k1
  walk_at "w"
  refine small_spec hs hd ht1 (by omega) (by omega) fun one S2 o0 o1 ht2 kb2 hl2 => ?_
  walk_at "w"
  refine draw_spec hd ht2 (by omega) fun m S3 c0 c1 ht3 kb3 hl3 => ?_
  have c1 : m ≤ most := by omega
  walk_at "w"
  refine ⟨⟨by omega, by omega⟩, trivial, ?_⟩
  refine for_inv (Run_mono Tb (n + 2)) (WtInv t most tp kd one S) ⟨[], none, none, rfl, rfl, (fun w h => nomatch h), ht3, (kb1.trans kb2).trans kb3, by rw [hl3, hl2, hl1]⟩ ?_ ?_
  · rintro i x σ S4 hx ⟨ws, v6, v7, rfl, hl, hw, ht4, kb4, hl4⟩
    have hi := (List.getElem?_eq_some_iff.mp hx).1
    rw [rangeD_len] at hi
    have last : ∀ (w : Int) (S5 : Sto), 0 ≤ w → w ≤ tp → Tape S5 t → KeepB t S S5 → S5.length = S.length → ∀ (rt : WK) (bk : DEnv → Sto → Prop), wSs (Run Tb (n + 2)) [.asg (.nm 5) (.bin .add (.var 5) (.tup [(.var 7)]))]
        [some (.ptr t), some (.int most), some (.int tp), some (.int kd), some (.int one), some (.tup (ws.map .int)), some x, some (.int w)] S5 { nx := WtInv t most tp kd one S (i + 1), rt := rt, bk := bk, ct := WtInv t most tp kd one S (i + 1) } := by
      intro w S5 w0 w1 ht5 kb5 hl5 rt bk
      walk_at "w"
      refine ⟨by rw [List.length_map]; show ws.length + 1 ≤ 16777216; omega, ?_⟩
      refine ⟨ws ++ [w], some x, some (.int w), by rw [List.map_append]; rfl, by simp [hl], fun z hz => ?_, ht5, kb5, hl5⟩
      rcases List.mem_append.mp hz with hz | hz
      · exact hw z hz
      · rw [List.mem_singleton.mp hz]
        exact ⟨w0, w1⟩
    walk_at "w"
    refine ⟨rfl, ?_⟩
    rcases (by omega : kd = 0 ∨ kd = 1 ∨ kd = 2 ∨ kd = 3 ∨ kd = 4) with rfl | rfl | rfl | rfl | rfl
    · walk_at "n"
      walk_at "w"
      refine ⟨rfl, ?_⟩
      walk_at "n"
      walk_at "w"
      refine ⟨rfl, ?_⟩
      walk_at "n"
      walk_at "w"
      refine ⟨rfl, ?_⟩
      walk_at "n"
      exact last one S4 o0 o1 ht4 kb4 hl4 _ _
    · walk_at "y"
      walk_at "w"
      refine draw_spec hd ht4 (by decide) fun u S5 u0 u1 ht5 kb5 hl5 => ?_
      have u1 : u < 2 := u1
      walk_at "w"
      refine ⟨.inr ⟨by omega, by omega⟩, ?_⟩
      walk_at "w"
      refine ⟨rfl, ?_⟩
      walk_at "n"
      walk_at "w"
      refine ⟨rfl, ?_⟩
      walk_at "n"
      walk_at "w"
      refine ⟨rfl, ?_⟩
      walk_at "n"
      exact last (one * u) S5 (Int.mul_nonneg o0 u0) (by rcases (by omega : u = 0 ∨ u = 1) with rfl | rfl <;> omega) ht5 (kb4.trans kb5) (by rw [hl5, hl4]) _ _
    · walk_at "n"
      walk_at "w"
      refine ⟨rfl, ?_⟩
      walk_at "y"
      walk_at "w"
      refine draw_spec hd ht4 (by decide) fun u S5 u0 u1 ht5 kb5 hl5 => ?_
      have u1 : u < 4 := u1
      walk_at "w"
      refine ⟨rfl, ?_⟩
      walk_at "n"
      walk_at "w"
      refine ⟨rfl, ?_⟩
      walk_at "n"
      exact last u S5 u0 (by omega) ht5 (kb4.trans kb5) (by rw [hl5, hl4]) _ _
    · walk_at "n"
      walk_at "w"
      refine ⟨rfl, ?_⟩
      walk_at "n"
      walk_at "w"
      refine ⟨rfl, ?_⟩
      walk_at "y"
      walk_at "w"
      refine small_spec hs hd ht4 (by omega) (by omega) fun u S5 u0 u1 ht5 kb5 hl5 => ?_
      walk_at "w"
      refine ⟨rfl, ?_⟩
      walk_at "n"
      exact last u S5 u0 u1 ht5 (kb4.trans kb5) (by rw [hl5, hl4]) _ _
    · walk_at "n"
      walk_at "w"
      refine ⟨rfl, ?_⟩
      walk_at "n"
      walk_at "w"
      refine ⟨rfl, ?_⟩
      walk_at "n"
      walk_at "w"
      refine ⟨rfl, ?_⟩
      walk_at "y"
      walk_at "w"
      refine draw_spec hd ht4 (by omega) fun u S5 u0 u1 ht5 kb5 hl5 => ?_
      exact last u S5 u0 (by omega) ht5 (kb4.trans kb5) (by rw [hl5, hl4]) _ _
  · rintro σ S4 ⟨ws, v6, v7, rfl, hl, hw, ht4, kb4, hl4⟩
    rw [rangeD_len] at hl
    exact h ws S4 hw (by omega) ht4 kb4 hl4
theorem sum_le {ws : List Int} {tp : Int} (h : ∀ w ∈ ws, 0 ≤ w ∧ w ≤ tp) : 0 ≤ ws.sum ∧ ws.sum ≤ ws.length * tp := by
  induction ws with
  | nil => simp
  | cons x l ih =>
    have a := h x List.mem_cons_self
    have b := ih fun w hw => h w (List.mem_cons_of_mem _ hw)
    rw [List.sum_cons, List.length_cons, show ((l.length + 1 : Nat) : Int) = (l.length : Int) + 1 by omega, Int.add_mul, Int.one_mul]
    omega
def dIsShare (fn : Nat) : DDef :=
  ⟨"_law_is_share", ["total", "weights", "told", "many", "whole", "more", "lost", "k", "j"], 3, [
    .asg (.nm 3) (.bi .len [(.var 1)]),
    .ite (.notv (.tru (.call fn [(.var 2), (.var 3)]))) [
      .ret (.bl false)] [],
    .asg (.nm 4) (.bi .sum [(.var 1)]),
    .ite (.cmp .eq (.var 4) (.int 0)) [
      .ret (.cmp .eq (.var 2) (.bin .mul (.tup [(.int 0)]) (.var 3)))] [],
    .asg (.nm 5) (.comp false (.bin .sub (.idx (.var 2) (.var 7)) (.bin .fdiv (.bin .mul (.var 0) (.idx (.var 1) (.var 7))) (.var 4))) (.nm 7) [("k", 7)] .rg [(.var 3)] none),
    .asg (.nm 6) (.comp false (.bin .mod (.bi .int [(.bin .mul (.var 0) (.idx (.var 1) (.var 7)))]) (.var 4)) (.nm 7) [("k", 7)] .rg [(.var 3)] none),
    .ite (.cmp .ne (.bi .sum [(.var 2)]) (.var 0)) [
      .ret (.bl false)] [],
    .forS (.nm 7) .rg [(.var 3)] [
      .ite (.orv (.cmp .lt (.idx (.var 5) (.var 7)) (.int 0)) (.one (.cmp .gt (.idx (.var 5) (.var 7)) (.int 1)))) [
        .ret (.bl false)] [],
      .forS (.nm 8) .rg [(.var 3)] [
        .ite (.andv (.cmp .lt (.idx (.var 5) (.var 7)) (.idx (.var 5) (.var 8))) (.one (.orv (.cmp .gt (.idx (.var 6) (.var 7)) (.idx (.var 6) (.var 8))) (.one (.andv (.cmp .eq (.idx (.var 6) (.var 7)) (.idx (.var 6) (.var 8))) (.one (.cmp .lt (.var 7) (.var 8)))))))) [
          .ret (.bl false)] []]],
    .ret (.bl true)]⟩
/-- a comprehension over numbers from 0 on -/
def rgF (g : Nat → Int) : D → D
  | .int j => .int (g j.toNat)
  | _ => .non
theorem collect_rg (g : Nat → Int) (m : Nat) : collect (fun _ => true) (rgF g) (rangeD 0 m) = ((List.range m).map g).map D.int := by
  unfold collect rangeD
  rw [List.filter_eq_self.mpr fun _ _ => rfl, List.map_map, List.map_map]
  refine List.map_congr_left fun j _ => ?_
  show D.int (g (0 + (j : Int)).toNat) = D.int (g j)
  rw [Int.zero_add, Int.toNat_natCast]
theorem rg_at (g : Nat → Int) {m i : Nat} (hi : i < m) : atI (((List.range m).map g).map D.int) (i : Int) = some (.int (g i)) := at_n (by
  rw [List.getElem?_map, List.getElem?_map, List.getElem?_range hi]
  rfl)
theorem int_at {ws : List Int} {i : Nat} {w : Int} (h : ws[i]? = some w) : atI (ws.map D.int) (i : Int) = some (.int w) := at_n (by
  rw [List.getElem?_map, h]
  rfl)
theorem isShare_spec {Tb : List DDef} {f fn n : Nat} (hf : Tb[f]? = some (dIsShare fn)) (hn : Tb[fn]? = some dNumbers) {tot : Int} {ws ts : List Int} (hl : ws.length ≤ 1000) (hW : ws.sum < 1073741824) (hp : 0 ≤ ws.sum) (t0 : 0 ≤ tot) (t1 : tot < 1000000000) (sh : Share tot ws ts) {S : Sto} {k : WK}
    (h : k (.bl true) S) : Run Tb (n + 2) f [.int tot, .tup (ws.map .int), .tup (ts.map .int)] S k := by
  refine run_of hf rfl ?_
  walk_at "w"
  rw [List.length_map]
  refine numbers_spec hn (by rw [sh.len]; omega) (by rw [sh.len]) ?_
  walk_at "w"
  walk_at "n"
  walk_at "w"
  rw [show (seqOf S (.tup (ws.map D.int))).bind intsOf = some ws from ints_map ws]
  walk_at "w"
  refine ⟨rfl, ?_⟩
  by_cases hz : ws.sum = 0
  · rw [hz]
    walk_at "y"
    walk_at "w"
    refine ⟨⟨rfl, by decide, by omega, by omega⟩, ?_⟩
    rw [Int.toNat_natCast, rep_zero, sh.zero hz]
    walk_at "w"
    refine ⟨ints_eqOk _ _, ?_⟩
    rw [ints_eqD, decide_eq_true rfl]
    exact h
  rw [eqI_no hz]
  walk_at "n"
  walk_at "w"
  have W0 : 0 < ws.sum := by omega
  obtain ⟨b, hb, hpr⟩ := sh.near W0
  have wat : ∀ i, i < ws.length → ∃ w, ws[i]? = some w := fun i hi => ⟨_, List.getElem?_eq_getElem hi⟩
  refine ⟨⟨by omega, by omega⟩, ?_⟩
  rw [Int.toNat_natCast]
  refine ⟨by rw [rangeD_len]; show _ < 16777216; omega, ?_⟩
  refine comp_pure (fun _ => true) (rgF fun i => if b i = true then 1 else 0) _ _ (fun y hy kk hkk => ?_) ?_
  · obtain ⟨i, hi, rfl⟩ := range_mem hy
    rw [Int.zero_add] at hkk ⊢
    obtain ⟨w, hw⟩ := wat i hi
    have hkk : kk true (.int (if b i = true then 1 else 0)) S := hkk
    walk_at "w"
    walk_at "y"
    walk_at "w"
    rw [int_at (hb i w hw)]
    walk_at "w"
    rw [int_at hw]
    walk_at "w"
    refine ⟨.inl ⟨by omega, by omega⟩, ?_⟩
    walk_at "w"
    refine ⟨⟨W0, hW⟩, ?_⟩
    walk_at "w"
    rw [show tot * w / ws.sum + (if b i = true then 1 else 0) - tot * w / ws.sum = (if b i = true then 1 else 0) by omega]
    exact hkk
  rw [collect_rg]
  walk_at "w"
  refine ⟨⟨by omega, by omega⟩, ?_⟩
  rw [Int.toNat_natCast]
  refine ⟨by rw [rangeD_len]; show _ < 16777216; omega, ?_⟩
  refine comp_pure (fun _ => true) (rgF fun i => tot * ws.getD i 0 % ws.sum) _ _ (fun y hy kk hkk => ?_) ?_
  · obtain ⟨i, hi, rfl⟩ := range_mem hy
    rw [Int.zero_add] at hkk ⊢
    obtain ⟨w, hw⟩ := wat i hi
    have hkk : kk true (.int (tot * ws.getD i 0 % ws.sum)) S := hkk
    rw [List.getD_eq_getElem?_getD, hw] at hkk
    walk_at "w"
    walk_at "y"
    walk_at "w"
    rw [int_at hw]
    walk_at "w"
    refine ⟨.inl ⟨by omega, by omega⟩, ?_⟩
    walk_at "w"
    exact ⟨W0, hkk⟩
  rw [collect_rg]
  walk_at "w"
  rw [show (seqOf S (.tup (ts.map D.int))).bind intsOf = some ts from ints_map ts]
  walk_at "w"
  refine ⟨rfl, ?_⟩
  rw [sh.sum W0, eqI_refl]
  walk_at "n"
  walk_at "w"
  refine ⟨⟨by omega, by omega⟩, trivial, ?_⟩
  refine for_inv (Run_mono Tb (n + 1)) (fun i σ S1 => S1 = S ∧ ∃ v7 v8, σ = [some (.int tot), some (.tup (ws.map .int)), some (.tup (ts.map .int)), some (.int (ws.length : Int)), some (.int ws.sum), some (.ro (((List.range ws.length).map fun i => if b i = true then (1 : Int) else 0).map .int)), some (.ro (((List.range ws.length).map fun i => tot * ws.getD i 0 % ws.sum).map .int)), v7, v8]) ⟨rfl, none, none, rfl⟩ ?_ ?_
  · rintro i x σ S1 hx ⟨rfl, v7, v8, rfl⟩
    obtain ⟨hi, rfl⟩ := range_at hx
    rw [Int.toNat_natCast] at hi
    rw [Int.zero_add]
    walk_at "w"
    rw [rg_at _ hi]
    walk_at "w"
    refine ⟨fun hb => absurd (of_decide_eq_true hb) (by split <;> omega), fun _ => ?_⟩
    walk_at "w"
    rw [rg_at _ hi]
    walk_at "w"
    refine ⟨fun hb => absurd (of_decide_eq_true hb) (by split <;> omega), fun _ => ?_⟩
    walk_at "w"
    refine ⟨⟨by omega, by omega⟩, trivial, ?_⟩
    refine for_inv (Run_mono Tb (n + 1)) (fun j σ S2 => S2 = S1 ∧ ∃ v8, σ = [some (.int tot), some (.tup (ws.map .int)), some (.tup (ts.map .int)), some (.int (ws.length : Int)), some (.int ws.sum), some (.ro (((List.range ws.length).map fun i => if b i = true then (1 : Int) else 0).map .int)), some (.ro (((List.range ws.length).map fun i => tot * ws.getD i 0 % ws.sum).map .int)), some (.int i), v8]) ⟨rfl, v8, rfl⟩ ?_ ?_
    · rintro j x σ S2 hx ⟨rfl, v8, rfl⟩
      obtain ⟨hj, rfl⟩ := range_at hx
      rw [Int.toNat_natCast] at hj
      rw [Int.zero_add]
      obtain ⟨v, hv⟩ := wat j hj
      obtain ⟨w, hw⟩ := wat i hi
      walk_at "w"
      rw [rg_at _ hi]
      walk_at "w"
      rw [rg_at _ hj]
      walk_at "w"
      refine ⟨fun h1 => ?_, fun _ => ?_⟩
      · have h1 := of_decide_eq_true h1
        have bj : b j = true := by
          cases e : b j with
          | true => rfl
          | false => rw [e, if_neg (c := false = true) Bool.false_ne_true] at h1; split at h1 <;> omega
        have bi : b i = false := by
          cases e : b i with
          | false => rfl
          | true => rw [e, if_pos rfl] at h1; split at h1 <;> omega
        have pr := hpr j i v w hv hw bj bi
        have gi : ws.getD i 0 = w := by rw [List.getD_eq_getElem?_getD, hw]; rfl
        have gj : ws.getD j 0 = v := by rw [List.getD_eq_getElem?_getD, hv]; rfl
        walk_at "w"
        rw [rg_at _ hi]
        walk_at "w"
        rw [rg_at _ hj]
        walk_at "w"
        rw [gi, gj]
        refine ⟨fun h2 => absurd (of_decide_eq_true h2) (by omega), fun _ => ?_⟩
        walk_at "w"
        rw [rg_at _ hi]
        walk_at "w"
        rw [rg_at _ hj]
        walk_at "w"
        refine ⟨rfl, ?_⟩
        rw [gi, gj]
        refine ⟨fun h3 => ?_, fun _ => ?_⟩
        · have h3 := eqI_t h3
          walk_at "w"
          refine ⟨fun h4 => absurd (of_decide_eq_true h4) (by omega), fun _ => ?_⟩
          exact ⟨rfl, _, rfl⟩
        · walk_at "w"
          walk_at "n"
          exact ⟨rfl, _, rfl⟩
      · walk_at "w"
        walk_at "n"
        exact ⟨rfl, _, rfl⟩
    · rintro σ S2 ⟨rfl, v8, rfl⟩
      exact ⟨rfl, _, _, rfl⟩
  · rintro σ S1 ⟨rfl, v7, v8, rfl⟩
    exact h
end Ov
-- OvJu
/-! Jurisdictions: rules, the program's defs, how the laws draw them. -/
namespace Ov
open PySem L2
local macro_rules | `(tactic| walk_at "w") => `(tactic| conv => whnf)
local macro_rules | `(tactic| walk_at "y") => `(tactic| refine ⟨fun _ => ?_, fun hb => y_end hb⟩)
local macro_rules | `(tactic| walk_at "n") => `(tactic| refine ⟨fun hb => n_end hb, fun _ => ?_⟩)
structure JR where
  cs : List Int
  lo : Int
  hi : Option Int
  ct : Int
def hiD : Option Int → D
  | none => .non
  | some h => .int h
def jrD (r : JR) : D := .tup [.tup (r.cs.map .int), .int r.lo, hiD r.hi, .int r.ct]
def below (a : Int) : Option Int → Bool
  | none => true
  | some h => decide (a ≤ h)
def AP (r : JR) (c a : Int) : Bool := decide (c ∈ r.cs) && (decide (r.lo ≤ a) && below a r.hi)
theorem any_ints (c : Int) : ∀ cs : List Int, ((cs.map D.int).any fun z => eqD z (.int c)) = decide (c ∈ cs)
  | [] => rfl
  | x :: cs => by
    rw [List.map_cons, List.any_cons, any_ints c cs]
    by_cases h : x = c
    · subst h
      rw [eqI_refl]
      simp
    · rw [eqI_no h]
      have h2 : ¬ c = x := fun e => h e.symm
      simp [h2]
theorem flat_ints : ∀ cs : List Int, (cs.map D.int).all flatD = true
  | [] => rfl
  | x :: cs => by
    rw [List.map_cons, List.all_cons, flat_ints cs]
    rfl
/-! ### the program's -/
def dApplies : DDef :=
  ⟨"applies", ["rule", "category", "amount", "categories", "low", "high", "_"], 3, [
    .asg (.tp [(.nm 3), (.nm 4), (.nm 5), (.nm 6)]) (.var 0),
    .ite (.orv (.cmp .notIn (.var 1) (.var 3)) (.one (.cmp .lt (.var 2) (.var 4)))) [
      .ret (.bl false)] [],
    .ret (.orv (.cmp .is (.var 5) .non) (.one (.cmp .le (.var 2) (.var 5))))]⟩
theorem applies_spec {T : List DDef} {f n : Nat} (hf : T[f]? = some dApplies) (r : JR) (c a : Int) {S : Sto} {k : WK} (h : k (.bl (AP r c a)) S) : Run T (n + 1) f [jrD r, .int c, .int a] S k := by
  have h : k (.bl (decide (c ∈ r.cs) && (decide (r.lo ≤ a) && below a r.hi))) S := h
  refine run_of hf rfl ?_
  walk_at "w"
  refine ⟨rfl, ?_⟩
  walk_at "w"
  refine ⟨rfl, flat_ints r.cs, ?_⟩
  rw [any_ints]
  by_cases h1 : c ∈ r.cs
  · rw [decide_eq_true h1] at h ⊢
    walk_at "w"
    walk_at "n"
    walk_at "w"
    cases e : ordW .lt a r.lo with
    | true =>
      have h2 : a < r.lo := of_decide_eq_true e
      rw [decide_eq_false (show ¬ r.lo ≤ a by omega)] at h
      walk_at "y"
      exact h
    | false =>
      have h2 : ¬ a < r.lo := of_decide_eq_false e
      rw [decide_eq_true (show r.lo ≤ a by omega)] at h
      walk_at "n"
      walk_at "w"
      cases hh : r.hi with
      | none =>
        rw [hh] at h
        exact h
      | some z =>
        rw [hh] at h
        exact h
  · rw [decide_eq_false h1] at h ⊢
    walk_at "w"
    walk_at "y"
    walk_at "y"
    exact h
def dApplic (fa : Nat) : DDef :=
  ⟨"applicable_rules", ["jurisdiction", "category", "amount", "number", "rule"], 3, [
    .ret (.bi .tuple [(.comp false (.var 3) (.tp [(.nm 3), (.nm 4)]) [("number", 3), ("rule", 4)] .en [(.var 0)] (some (.tru (.call fa [(.var 4), (.var 1), (.var 2)]))))])]⟩
def NUM (rs : List JR) (c a : Int) : List Int := (rs.zipIdx.filter fun p => AP p.1 c a).map fun p => (p.2 : Int)
def cntJ (rs : List JR) (c a : Int) : Nat := (rs.filter fun r => AP r c a).length
theorem NUM_len (rs : List JR) (c a : Int) : (NUM rs c a).length = cntJ rs c a := by
  unfold NUM cntJ
  rw [List.length_map]
  have : ∀ (l : List JR) (n : Nat), ((l.zipIdx n).filter fun p => AP p.1 c a).length = (l.filter fun r => AP r c a).length := by
    intro l
    induction l with
    | nil => intro n; rfl
    | cons x l ih =>
      intro n
      rw [List.zipIdx_cons]
      cases h : AP x c a with
      | true =>
        rw [List.filter_cons_of_pos (by exact h), List.filter_cons_of_pos (by exact h), List.length_cons, List.length_cons, ih]
      | false =>
        rw [List.filter_cons_of_neg (by rw [h]; decide), List.filter_cons_of_neg (by rw [h]; decide), ih]
  exact this rs 0
def rulesD (rs : List JR) : List D := rs.map jrD
/-- a test and a value of a number and its rule -/
def enP (rs : List JR) (c a : Int) : D → Bool
  | .tup [.int i, _] => match rs[i.toNat]? with
    | some r => AP r c a
    | none => false
  | _ => false
def enF : D → D
  | .tup [i, _] => i
  | _ => .non
theorem enum_rules (rs : List JR) : enumD (rulesD rs) = rs.zipIdx.map fun p => D.tup [.int (p.2 : Nat), jrD p.1] := by
  unfold enumD rulesD
  rw [List.zipIdx_map, List.map_map]
  rfl
theorem enum_collect (rs : List JR) (c a : Int) : collect (enP rs c a) enF (enumD (rulesD rs)) = (NUM rs c a).map D.int := by
  rw [enum_rules]
  unfold collect NUM
  rw [List.filter_map, List.map_map, List.map_map]
  have e : (rs.zipIdx.filter ((enP rs c a) ∘ fun p => D.tup [.int (p.2 : Nat), jrD p.1])) = rs.zipIdx.filter fun p => AP p.1 c a := by
    apply List.filter_congr
    rintro ⟨r, i⟩ hp
    have hp := List.mem_zipIdx_iff_getElem?.mp hp
    show (match rs[((i : Nat) : Int).toNat]? with
      | some r => AP r c a
      | none => false) = _
    rw [Int.toNat_natCast, hp]
  rw [e]
  rfl
theorem applic_spec {T : List DDef} {f fa n : Nat} (hf : T[f]? = some (dApplic fa)) (ha : T[fa]? = some dApplies) (rs : List JR) (c a : Int) (hz : rs.length ≤ 1000) {S : Sto} {k : WK} (h : k (.tup ((NUM rs c a).map .int)) S) : Run T (n + 2) f [.tup (rulesD rs), .int c, .int a] S k := by
  refine run_of hf rfl ?_
  walk_at "w"
  refine ⟨by rw [enum_rules, List.length_map, List.length_zipIdx]; exact Nat.lt_of_le_of_lt hz (by decide), ?_⟩
  refine comp_pick (enP rs c a) enF _ _ (fun x hx kk h1 h2 => ?_) ?_
  · rw [enum_rules] at hx
    obtain ⟨⟨r, i⟩, hp, rfl⟩ := List.mem_map.mp hx
    have hp := List.mem_zipIdx_iff_getElem?.mp hp
    have ep : enP rs c a (D.tup [.int (i : Nat), jrD r]) = AP r c a := by
      show (match rs[((i : Nat) : Int).toNat]? with
        | some r => AP r c a
        | none => false) = _
      rw [Int.toNat_natCast, hp]
    rw [ep] at h1 h2
    walk_at "w"
    refine ⟨rfl, ?_⟩
    walk_at "w"
    refine applies_spec ha r c a ?_
    walk_at "w"
    exact ⟨h1, h2⟩
  · rw [enum_collect]
    walk_at "w"
    exact h

def dCompet (fa : Nat) : DDef :=
  ⟨"competent_court", ["jurisdiction", "category", "amount", "rule"], 3, [
    .forS (.nm 3) .sq [(.var 0)] [
      .ite (.tru (.call fa [(.var 3), (.var 1), (.var 2)])) [
        .ret (.idx (.var 3) (.int 3))] []],
    .ret .non]⟩
def ctD : Option JR → D
  | none => .non
  | some r => .int r.ct
theorem find_at {α : Type} {p : α → Bool} {xs : List α} {i : Nat} {x : α} (hx : xs[i]? = some x) (hp : p x = true) (hn : ∀ j y, j < i → xs[j]? = some y → p y = false) : xs.find? p = some x := by
  rw [List.find?_eq_some_iff_getElem]
  obtain ⟨hi, e⟩ := List.getElem?_eq_some_iff.mp hx
  refine ⟨hp, i, hi, e, fun j hj => ?_⟩
  rw [hn j xs[j] hj (List.getElem?_eq_getElem (by omega))]
  rfl
theorem find_none {α : Type} {p : α → Bool} {xs : List α} (hn : ∀ j y, j < xs.length → xs[j]? = some y → p y = false) : xs.find? p = none := by
  rw [List.find?_eq_none]
  intro x hx e
  obtain ⟨j, hj, rfl⟩ := List.mem_iff_getElem.mp hx
  rw [hn j _ hj (List.getElem?_eq_getElem hj)] at e
  cases e
theorem rules_at {rs : List JR} {i : Nat} {x : D} (h : (rulesD rs)[i]? = some x) : ∃ r, rs[i]? = some r ∧ x = jrD r := by
  unfold rulesD at h
  rw [List.getElem?_map] at h
  obtain ⟨r, hr, rfl⟩ := Option.map_eq_some_iff.mp h
  exact ⟨r, hr, rfl⟩
theorem compet_spec {T : List DDef} {f fa n : Nat} (hf : T[f]? = some (dCompet fa)) (ha : T[fa]? = some dApplies) (rs : List JR) (c a : Int) {S : Sto} {k : WK} (h : k (ctD (rs.find? fun r => AP r c a)) S) : Run T (n + 2) f [.tup (rulesD rs), .int c, .int a] S k := by
  refine run_of hf rfl ?_
  walk_at "w"
  refine ⟨trivial, ?_⟩
  refine for_inv (Run_mono T (n + 1)) (fun i σ S1 => S1 = S ∧ (∀ j r, j < i → rs[j]? = some r → AP r c a = false) ∧ ∃ v : Option D, σ = [some (.tup (rulesD rs)), some (.int c), some (.int a), v]) ⟨rfl, fun j r hj => absurd hj (Nat.not_lt_zero _), none, rfl⟩ ?_ ?_
  · rintro i x σ S1 hx ⟨rfl, hn, v, rfl⟩
    obtain ⟨r, hr, rfl⟩ := rules_at hx
    walk_at "w"
    refine applies_spec ha r c a ?_
    cases e : AP r c a with
    | true =>
      walk_at "w"
      walk_at "y"
      rw [find_at hr e hn] at h
      exact h
    | false =>
      walk_at "w"
      walk_at "n"
      refine ⟨rfl, fun j r2 hj h2 => ?_, _, rfl⟩
      by_cases hji : j = i
      · subst hji
        rw [hr] at h2
        cases h2
        exact e
      · exact hn j r2 (by omega) h2
  · rintro σ S1 ⟨rfl, hn, v, rfl⟩
    have el : (rulesD rs).length = rs.length := List.length_map _
    rw [el] at hn
    rw [find_none hn] at h
    exact h

/-! ### the first pair at which something is so: mathematics -/
def catOk (c : Int) : Prop := 0 ≤ c ∧ c < 4
/-- over all amounts -/
def Fst (bad : Int → Int → Bool) : Option (Int × Int) → Prop
  | none => ∀ c a, catOk c → 0 ≤ a → bad c a = false
  | some p => catOk p.1 ∧ 0 ≤ p.2 ∧ bad p.1 p.2 = true ∧ (∀ a, 0 ≤ a → a < p.2 → bad p.1 a = false) ∧ ∀ c a, 0 ≤ c → c < p.1 → 0 ≤ a → bad c a = false
theorem Fst.uniq {bad : Int → Int → Bool} : ∀ {x y : Option (Int × Int)}, Fst bad x → Fst bad y → x = y
  | none, none, _, _ => rfl
  | none, some q, h1, h2 => by
    have := h1 q.1 q.2 h2.1 h2.2.1
    rw [h2.2.2.1] at this
    cases this
  | some q, none, h2, h1 => by
    have := h1 q.1 q.2 h2.1 h2.2.1
    rw [h2.2.2.1] at this
    cases this
  | some (c, a), some (c', a'), ⟨h1, h2, h3, h4, h5⟩, ⟨g1, g2, g3, g4, g5⟩ => by
    obtain ⟨h1, h1'⟩ : 0 ≤ c ∧ c < 4 := h1
    obtain ⟨g1, g1'⟩ : 0 ≤ c' ∧ c' < 4 := g1
    have h2 : 0 ≤ a := h2
    have g2 : 0 ≤ a' := g2
    have h3 : bad c a = true := h3
    have g3 : bad c' a' = true := g3
    have h4 : ∀ x, 0 ≤ x → x < a → bad c x = false := h4
    have g4 : ∀ x, 0 ≤ x → x < a' → bad c' x = false := g4
    have h5 : ∀ z x, 0 ≤ z → z < c → 0 ≤ x → bad z x = false := h5
    have g5 : ∀ z x, 0 ≤ z → z < c' → 0 ≤ x → bad z x = false := g5
    have e1 : c = c' := by
      rcases Int.lt_trichotomy c c' with h | h | h
      · have := g5 c a h1 h h2
        rw [h3] at this
        cases this
      · exact h
      · have := h5 c' a' g1 h g2
        rw [g3] at this
        cases this
    subst e1
    have e2 : a = a' := by
      rcases Int.lt_trichotomy a a' with h | h | h
      · have := g4 a h2 h
        rw [h3] at this
        cases this
      · exact h
      · have := h4 a' g2 h
        rw [g3] at this
        cases this
    subst e2
    rfl
/-- over points -/
def PFst (bad : Int → Int → Bool) (P : List Int) : Option (Int × Int) → Prop
  | none => ∀ c a, catOk c → a ∈ P → bad c a = false
  | some p => catOk p.1 ∧ p.2 ∈ P ∧ bad p.1 p.2 = true ∧ (∀ a ∈ P, a < p.2 → bad p.1 a = false) ∧ ∀ c a, 0 ≤ c → c < p.1 → a ∈ P → bad c a = false
/-- where it is so, it is so from some point on -/
def Dense (bad : Int → Int → Bool) (P : List Int) : Prop := (∀ p ∈ P, 0 ≤ p) ∧ ∀ c a, 0 ≤ a → bad c a = true → ∃ p ∈ P, p ≤ a ∧ bad c p = true
theorem PFst.all {bad : Int → Int → Bool} {P : List Int} (hd : Dense bad P) : ∀ {x : Option (Int × Int)}, PFst bad P x → Fst bad x
  | none, h => fun c a hc ha => by
    cases e : bad c a with
    | false => rfl
    | true =>
      obtain ⟨p, hp, _, hb⟩ := hd.2 c a ha e
      rw [h c p hc hp] at hb
      cases hb
  | some q, ⟨h1, h2, h3, h4, h5⟩ => by
    refine ⟨h1, hd.1 _ h2, h3, fun a ha hlt => ?_, fun c a hc hlt ha => ?_⟩
    · cases e : bad q.1 a with
      | false => rfl
      | true =>
        obtain ⟨p, hp, hle, hb⟩ := hd.2 q.1 a ha e
        rw [h4 p hp (by omega)] at hb
        cases hb
    · cases e : bad c a with
      | false => rfl
      | true =>
        obtain ⟨p, hp, hle, hb⟩ := hd.2 c a ha e
        rw [h5 c p hc hlt hp] at hb
        cases hb
theorem Dense.more {bad : Int → Int → Bool} {P L : List Int} (hd : Dense bad P) (h0 : ∀ p ∈ L, 0 ≤ p) (hs : ∀ p ∈ P, p ∈ L) : Dense bad L :=
  ⟨h0, fun c a ha e => (hd.2 c a ha e).elim fun p h => ⟨p, hs p h.1, h.2⟩⟩
def gapB (rs : List JR) (c a : Int) : Bool := decide (cntJ rs c a = 0)
def ovB (rs : List JR) (c a : Int) : Bool := decide (1 < cntJ rs c a)
structure OkJ (r : JR) : Prop where
  lo : 0 ≤ r.lo
  hi : ∀ h, r.hi = some h → 0 ≤ h
def gapP (rs : List JR) : List Int := 0 :: rs.filterMap fun r => r.hi.map (· + 1)
def ovP (rs : List JR) : List Int := rs.map (·.lo)
theorem cnt_zero {rs : List JR} {c a : Int} : cntJ rs c a = 0 ↔ ∀ r ∈ rs, AP r c a = false := by
  unfold cntJ
  rw [List.length_eq_zero_iff, List.filter_eq_nil_iff]
  constructor
  · intro h r hr
    cases e : AP r c a with
    | false => rfl
    | true => exact absurd e (h r hr)
  · intro h r hr e
    rw [h r hr] at e
    cases e
theorem AP_iff {r : JR} {c a : Int} : AP r c a = true ↔ c ∈ r.cs ∧ r.lo ≤ a ∧ ∀ h, r.hi = some h → a ≤ h := by
  unfold AP
  rw [Bool.and_eq_true, Bool.and_eq_true, decide_eq_true_eq, decide_eq_true_eq]
  have : below a r.hi = true ↔ ∀ h, r.hi = some h → a ≤ h := by
    cases r.hi with
    | none => exact ⟨fun _ h e => (by cases e), fun _ => rfl⟩
    | some z => exact ⟨fun e h e2 => (by cases e2; exact of_decide_eq_true e), fun e => decide_eq_true (e z rfl)⟩
  rw [this]
theorem gap_dense {rs : List JR} (ok : ∀ r ∈ rs, OkJ r) : Dense (gapB rs) (gapP rs) := by
  refine ⟨fun p hp => ?_, fun c a ha => ?_⟩
  · rcases List.mem_cons.mp hp with rfl | hp
    · exact Int.le_refl _
    · obtain ⟨r, hr, e⟩ := List.mem_filterMap.mp hp
      obtain ⟨h, e1, rfl⟩ := Option.map_eq_some_iff.mp e
      have := (ok r hr).hi h e1
      omega
  · obtain ⟨m, rfl⟩ : ∃ m : Nat, a = m := ⟨a.toNat, by omega⟩
    clear ha
    induction m with
    | zero => exact fun e => ⟨0, List.mem_cons_self, Int.le_refl _, e⟩
    | succ m ih =>
      intro e
      cases e2 : gapB rs c m with
      | true =>
        obtain ⟨p, hp, hl, hb⟩ := ih e2
        exact ⟨p, hp, by omega, hb⟩
      | false =>
        have h0 : ¬ cntJ rs c m = 0 := of_decide_eq_false e2
        rw [cnt_zero] at h0
        have h1 := cnt_zero.mp (of_decide_eq_true e : cntJ rs c ((m + 1 : Nat) : Int) = 0)
        simp only [Classical.not_forall] at h0
        obtain ⟨r, hr, h2⟩ := h0
        have h2 : AP r c m = true := by
          cases z : AP r c m with
          | true => rfl
          | false => exact absurd z h2
        obtain ⟨q1, q2, q3⟩ := AP_iff.mp h2
        have h3 : ¬ AP r c ((m + 1 : Nat) : Int) = true := by rw [h1 r hr]; decide
        rw [AP_iff] at h3
        cases hh : r.hi with
        | none => exact absurd ⟨q1, by omega, fun h e => by rw [hh] at e; cases e⟩ h3
        | some z =>
          have q4 := q3 z hh
          have q5 : z = m := by
            by_cases hz : ((m + 1 : Nat) : Int) ≤ z
            · exact absurd ⟨q1, by omega, fun h e => by rw [hh] at e; cases e; exact hz⟩ h3
            · omega
          exact ⟨((m + 1 : Nat) : Int), List.mem_cons_of_mem _ (List.mem_filterMap.mpr ⟨r, hr, by rw [hh, q5]; rfl⟩), Int.le_refl _, e⟩
theorem ov_dense {rs : List JR} (ok : ∀ r ∈ rs, OkJ r) : Dense (ovB rs) (ovP rs) := by
  refine ⟨fun p hp => ?_, fun c a ha => ?_⟩
  · obtain ⟨r, hr, rfl⟩ := List.mem_map.mp hp
    exact (ok r hr).lo
  · obtain ⟨m, rfl⟩ : ∃ m : Nat, a = m := ⟨a.toNat, by omega⟩
    clear ha
    induction m with
    | zero =>
      intro e
      have h1 : 1 < cntJ rs c ((0 : Nat) : Int) := of_decide_eq_true e
      have h2 : ¬ cntJ rs c ((0 : Nat) : Int) = 0 := by omega
      rw [cnt_zero] at h2
      simp only [Classical.not_forall] at h2
      obtain ⟨r, hr, h2⟩ := h2
      have h2 : AP r c ((0 : Nat) : Int) = true := by
        cases z : AP r c ((0 : Nat) : Int) with
        | true => rfl
        | false => exact absurd z h2
      obtain ⟨q1, q2, q3⟩ := AP_iff.mp h2
      have := (ok r hr).lo
      refine ⟨r.lo, List.mem_map.mpr ⟨r, hr, rfl⟩, q2, ?_⟩
      rw [show r.lo = ((0 : Nat) : Int) by omega]
      exact e
    | succ m ih =>
      intro e
      cases e2 : ovB rs c m with
      | true =>
        obtain ⟨p, hp, hl, hb⟩ := ih e2
        exact ⟨p, hp, by omega, hb⟩
      | false =>
        have h0 : ¬ 1 < cntJ rs c m := of_decide_eq_false e2
        have h1 : 1 < cntJ rs c ((m + 1 : Nat) : Int) := of_decide_eq_true e
        by_cases hx : ∃ r ∈ rs, AP r c ((m + 1 : Nat) : Int) = true ∧ AP r c m = false
        · obtain ⟨r, hr, g1, g2⟩ := hx
          obtain ⟨q1, q2, q3⟩ := AP_iff.mp g1
          have g3 : ¬ AP r c m = true := by rw [g2]; decide
          rw [AP_iff] at g3
          have q4 : r.lo = ((m + 1 : Nat) : Int) := by
            by_cases hz : r.lo ≤ m
            · exact absurd ⟨q1, hz, fun h e => by have := q3 h e; omega⟩ g3
            · omega
          refine ⟨r.lo, List.mem_map.mpr ⟨r, hr, rfl⟩, q2, ?_⟩
          rw [q4]
          exact e
        · exfalso
          have : cntJ rs c ((m + 1 : Nat) : Int) ≤ cntJ rs c m := by
            unfold cntJ
            rw [← List.countP_eq_length_filter, ← List.countP_eq_length_filter]
            refine List.countP_mono_left fun r hr g => ?_
            cases z : AP r c m with
            | true => rfl
            | false => exact absurd ⟨r, hr, g, z⟩ hx
          omega

/-! ### pairs -/
theorem sortI_uniq {l m : List Int} (h1 : l.Pairwise (· ≤ ·)) (h2 : m.Pairwise (· ≤ ·)) (hp : l.Perm m) : l = m := hp.eq_of_pairwise (fun a b _ _ h h' => Int.le_antisymm h h') h1 h2
theorem sortI_W {x : D} {S : Sto} {k : List D → Prop} {ns : List Int} (e : seqOf S x = some (ns.map .int)) (h : ∀ ns' : List Int, ns'.Perm ns → ns'.Pairwise (· ≤ ·) → k (ns'.map .int)) : sortW x S k := by
  unfold sortW
  rw [e]
  show (match intsOf (ns.map D.int) with | some ns => _ | none => _)
  rw [ints_map]
  exact h
def srtI (ns : List Int) : List Int := ns.mergeSort fun a b => decide (a ≤ b)
theorem srtI_perm (ns : List Int) : (srtI ns).Perm ns := List.mergeSort_perm ns _
theorem srtI_sorted (ns : List Int) : (srtI ns).Pairwise (· ≤ ·) := by
  have := List.pairwise_mergeSort (le := fun (a b : Int) => decide (a ≤ b)) (fun a b c h1 h2 => decide_eq_true (Int.le_trans (of_decide_eq_true h1) (of_decide_eq_true h2))) (fun a b => by
    rcases Int.le_total a b with h | h
    · simp [h]
    · simp [h]) ns
  exact this.imp fun h => of_decide_eq_true h
theorem sortI_S {x : D} {S : Sto} {k : List D → Prop} {ns : List Int} (e : seqOf S x = some (ns.map .int)) (h : k ((srtI ns).map .int)) : sortW x S k :=
  sortI_W e fun ns' hp hs => by rw [sortI_uniq hs (srtI_sorted ns) (hp.trans (srtI_perm ns).symm)]; exact h
def dPairs : DDef :=
  ⟨"pairs_with", ["amounts", "category", "amount"], 1, [
    .ret (.comp2 (.tup [(.var 1), (.var 2)]) (.nm 1) [("category", 1), ("amount", 2)] .rg [(.con "CATEGORIES" 4)] none [2] (.nm 2) .sq [(.bi .sorted [(.var 0)])] none)]⟩
def PRS (ns : List Int) : List (Int × Int) := [0, 1, 2, 3].flatMap fun c => (srtI ns).map fun a => (c, a)
def prF (ns : List Int) : D → List D
  | .int c => (srtI ns).map fun a => pairI (c, a)
  | _ => []
def prG : Int → D → D
  | c, .int a => pairI (c, a)
  | _, _ => .non
theorem prF_all (ns : List Int) : ((rangeD 0 4).map (prF ns)).flatten = (PRS ns).map pairI := by
  show ([D.int (0 + (0 : Nat)), .int (0 + (1 : Nat)), .int (0 + (2 : Nat)), .int (0 + (3 : Nat))].map (prF ns)).flatten = _
  simp [prF, PRS, List.flatMap]
  rfl
theorem pairs_spec {T : List DDef} {f n : Nat} (hf : T[f]? = some dPairs) {x : D} {ns : List Int} {S : Sto} (e : seqOf S x = some (ns.map .int)) (hz : ns.length ≤ 1000) {k : WK} (h : k (.ro ((PRS ns).map pairI)) S) : Run T (n + 1) f [x] S k := by
  refine run_of hf rfl ?_
  walk_at "w"
  refine ⟨by unfold big62; omega, trivial, ?_⟩
  have hl : ((rangeD 0 4).map (prF ns)).flatten.length ≤ sizeLine := by
    rw [prF_all]
    have := (srtI_perm ns).length_eq
    have z : (PRS ns).length = 4 * ns.length := by
      simp [PRS, List.flatMap, this]
      omega
    rw [List.length_map, z]
    exact Nat.le_trans (show 4 * ns.length ≤ 4000 by omega) (by decide)
  refine acc_flat (prF ns) _ _ _ (fun y hy out kk hlen hk => ?_) (by rw [List.length_nil, Nat.zero_add]; exact hl) ?_
  · obtain ⟨i, hi, rfl⟩ := range_mem hy
    walk_at "w"
    refine ⟨fun _ => ?_, fun hb => y_end hb⟩
    walk_at "w"
    refine sortI_S e ?_
    walk_at "w"
    refine ⟨trivial, ?_⟩
    have hk : kk (out ++ ((srtI ns).map fun a => pairI (0 + (i : Int), a))) S := hk
    have hlen : out.length + ((srtI ns).map fun a => pairI (0 + (i : Int), a)).length ≤ sizeLine := hlen
    refine acc_each (prG (0 + (i : Int))) _ _ _ (fun z hz2 o k2 ho hk2 => ?_) (by rw [List.length_map] at hlen ⊢; exact hlen) (by rw [List.map_map]; exact hk)
    obtain ⟨a, _, rfl⟩ := List.mem_map.mp hz2
    walk_at "w"
    refine ⟨fun _ => ?_, fun hb => y_end hb⟩
    walk_at "w"
    exact ⟨ho, hk2⟩
  · have z : k (.ro ((rangeD 0 4).map (prF ns)).flatten) S := by
      rw [prF_all]
      exact h
    exact z
theorem PRS_mem {ns : List Int} {c a : Int} : (c, a) ∈ PRS ns ↔ catOk c ∧ a ∈ ns := by
  unfold PRS
  rw [List.mem_flatMap]
  constructor
  · rintro ⟨z, hz, h⟩
    obtain ⟨b, hb, e⟩ := List.mem_map.mp h
    cases e
    refine ⟨?_, (srtI_perm ns).mem_iff.mp hb⟩
    simp only [List.mem_cons, List.not_mem_nil, or_false] at hz
    unfold catOk
    omega
  · rintro ⟨hc, ha⟩
    refine ⟨c, ?_, List.mem_map.mpr ⟨a, (srtI_perm ns).mem_iff.mpr ha, rfl⟩⟩
    simp only [List.mem_cons, List.not_mem_nil, or_false]
    unfold catOk at hc
    omega
theorem PRS_sorted (ns : List Int) : (PRS ns).Pairwise leP := by
  have row : ∀ c : Int, ((srtI ns).map fun a => (c, a)).Pairwise leP := fun c => by
    rw [List.pairwise_map]
    exact (srtI_sorted ns).imp fun h => .inr ⟨rfl, h⟩
  have two : ∀ {l m : List (Int × Int)}, l.Pairwise leP → m.Pairwise leP → (∀ p ∈ l, ∀ q ∈ m, p.1 < q.1) → (l ++ m).Pairwise leP := fun hl hm h => List.pairwise_append.mpr ⟨hl, hm, fun p hp q hq => .inl (h p hp q hq)⟩
  have mem : ∀ {c : Int} {p : Int × Int}, p ∈ ((srtI ns).map fun a => (c, a)) → p.1 = c := fun {c p} h => by
    obtain ⟨a, _, rfl⟩ := List.mem_map.mp h
    rfl
  show (((srtI ns).map fun a => ((0 : Int), a)) ++ (((srtI ns).map fun a => ((1 : Int), a)) ++ (((srtI ns).map fun a => ((2 : Int), a)) ++ (((srtI ns).map fun a => ((3 : Int), a)) ++ [])))).Pairwise leP
  rw [List.append_nil]
  refine two (row 0) (two (row 1) (two (row 2) (row 3) fun p hp q hq => ?_) fun p hp q hq => ?_) fun p hp q hq => ?_
  · rw [mem hp, mem hq]; omega
  · rw [mem hp]
    rcases List.mem_append.mp hq with hq | hq <;> rw [mem hq] <;> omega
  · rw [mem hp]
    rcases List.mem_append.mp hq with hq | hq
    · rw [mem hq]; omega
    · rcases List.mem_append.mp hq with hq | hq <;> rw [mem hq] <;> omega
theorem PRS_hit {bad : Int → Int → Bool} {ns : List Int} {i : Nat} {p : Int × Int} (hp : (PRS ns)[i]? = some p) (hb : bad p.1 p.2 = true) (hn : ∀ j q, j < i → (PRS ns)[j]? = some q → bad q.1 q.2 = false) : PFst bad ns (some p) := by
  obtain ⟨hi, e⟩ := List.getElem?_eq_some_iff.mp hp
  have hm : p ∈ PRS ns := by rw [← e]; exact List.getElem_mem hi
  obtain ⟨h1, h2⟩ := PRS_mem.mp (show (p.1, p.2) ∈ PRS ns from hm)
  have early : ∀ q ∈ PRS ns, ¬ leP p q → bad q.1 q.2 = false := fun q hq hl => by
    obtain ⟨j, hj, rfl⟩ := List.mem_iff_getElem.mp hq
    refine hn j _ ?_ (List.getElem?_eq_getElem hj)
    rcases Nat.lt_or_ge j i with h | h
    · exact h
    · exfalso
      rcases Nat.lt_or_ge i j with h3 | h3
      · have := List.pairwise_iff_getElem.mp (PRS_sorted ns) i j hi hj h3
        rw [e] at this
        exact hl this
      · have : i = j := by omega
        subst this
        rw [e] at hl
        exact hl (leP_refl p)
  refine ⟨h1, h2, hb, fun a ha hlt => early (p.1, a) (PRS_mem.mpr ⟨h1, ha⟩) ?_, fun c a hc hlt ha => early (c, a) (PRS_mem.mpr ⟨?_, ha⟩) ?_⟩
  · rintro (h | ⟨_, h⟩)
    · exact absurd h (Int.lt_irrefl _)
    · have h : p.2 ≤ a := h
      omega
  · unfold catOk at h1 ⊢
    omega
  · rintro (h | ⟨h, _⟩)
    · have h : p.1 < c := h
      omega
    · have h : p.1 = c := h
      omega
theorem PRS_miss {bad : Int → Int → Bool} {ns : List Int} (hn : ∀ j q, j < (PRS ns).length → (PRS ns)[j]? = some q → bad q.1 q.2 = false) : PFst bad ns none := fun c a hc ha => by
  obtain ⟨j, hj, e⟩ := List.mem_iff_getElem.mp (PRS_mem.mpr ⟨hc, ha⟩)
  exact hn j (c, a) hj (by rw [List.getElem?_eq_getElem hj, e])
def resD : Option (Int × Int) → D
  | none => .non
  | some p => pairI p
def dGap (fr fp : Nat) : DDef :=
  ⟨"first_gap", ["jurisdiction", "amounts", "category", "amount", "_", "high"], 1, [
    .asg (.nm 1) (.bin .add (.ls [(.int 0)]) (.comp false (.bin .add (.var 5) (.int 1)) (.tp [(.nm 4), (.nm 4), (.nm 5), (.nm 4)]) [("_", 4), ("high", 5)] .sq [(.var 0)] (some (.cmp .isnot (.var 5) .non)))),
    .forS (.tp [(.nm 2), (.nm 3)]) .sq [(.call fp [(.var 1)])] [
      .ite (.notv (.tru (.call fr [(.var 0), (.var 2), (.var 3)]))) [
        .ret (.tup [(.var 2), (.var 3)])] []],
    .ret .non]⟩
def dOver (fr fp : Nat) : DDef :=
  ⟨"first_overlap", ["jurisdiction", "amounts", "category", "amount", "_", "low"], 1, [
    .asg (.nm 1) (.comp false (.var 5) (.tp [(.nm 4), (.nm 5), (.nm 4), (.nm 4)]) [("_", 4), ("low", 5)] .sq [(.var 0)] none),
    .forS (.tp [(.nm 2), (.nm 3)]) .sq [(.call fp [(.var 1)])] [
      .ite (.cmp .gt (.bi .len [(.call fr [(.var 0), (.var 2), (.var 3)])]) (.int 1)) [
        .ret (.tup [(.var 2), (.var 3)])] []],
    .ret .non]⟩
theorem comp_sel {α : Type} {body : D → Sto → (Bool → D → Sto → Prop) → Prop} {all : List D} {S : Sto} (g : α → D) (p : α → Bool) (f : α → D) : ∀ (ys : List α) (k : List D → Sto → Prop),
    (∀ y ∈ ys, ∀ kk : Bool → D → Sto → Prop, (p y = true → kk true (f y) S) → (p y = false → kk false .non S) → body (g y) S kk) → k ((ys.filter p).map f) S → compW body none all (ys.map g) S k
  | [], k, _, h => ⟨trivial, h⟩
  | y :: ys, k, hb, h => by
    refine ⟨trivial, hb y List.mem_cons_self _ (fun e => ?_) fun e => ?_⟩
    · rw [List.filter_cons_of_pos e] at h
      exact comp_sel g p f ys _ (fun z hz => hb z (List.mem_cons_of_mem _ hz)) h
    · rw [List.filter_cons_of_neg (by rw [e]; exact Bool.false_ne_true)] at h
      exact comp_sel g p f ys _ (fun z hz => hb z (List.mem_cons_of_mem _ hz)) h
def hasHi (r : JR) : Bool := r.hi.isSome
def upHi (r : JR) : D := match r.hi with
  | none => .non
  | some h => .int (h + 1)
theorem gapP_eq (rs : List JR) : .int 0 :: (rs.filter hasHi).map upHi = (gapP rs).map D.int := by
  unfold gapP
  rw [List.map_cons]
  congr 1
  induction rs with
  | nil => rfl
  | cons r rs ih =>
    cases h : r.hi with
    | none =>
      rw [List.filter_cons_of_neg (by unfold hasHi; rw [h]; decide), List.filterMap_cons, ih, h]
      rfl
    | some z =>
      rw [List.filter_cons_of_pos (by unfold hasHi; rw [h]; rfl), List.filterMap_cons, List.map_cons, ih, h]
      unfold upHi
      rw [h]
      rfl
theorem len_pos (xs : List Int) : (xs.map D.int).isEmpty = decide (xs.length = 0) := by cases xs <;> rfl
theorem gap_spec {T : List DDef} {f fr fp fa n : Nat} (hf : T[f]? = some (dGap fr fp)) (hp : T[fp]? = some dPairs) (hr : T[fr]? = some (dApplic fa)) (ha : T[fa]? = some dApplies) (rs : List JR) (ok : ∀ r ∈ rs, OkJ r) (hz : rs.length ≤ 100) {S : Sto} {k : WK}
    (h : ∀ res, Fst (gapB rs) res → k (resD res) S) : Run T (n + 3) f [.tup (rulesD rs)] S k := by
  refine run_of hf rfl ?_
  walk_at "w"
  refine ⟨by unfold rulesD; rw [List.length_map]; exact Nat.lt_of_le_of_lt hz (by decide), ?_⟩
  refine comp_sel jrD hasHi upHi rs _ (fun r hr2 kk h1 h2 => ?_) ?_
  · walk_at "w"
    refine ⟨rfl, ?_⟩
    walk_at "w"
    unfold hasHi at h1 h2
    unfold upHi at h1
    cases hh : r.hi with
    | none =>
      rw [hh] at h1 h2
      exact ⟨fun hb => n_end hb, fun _ => h2 rfl⟩
    | some z =>
      rw [hh] at h1 h2
      exact ⟨fun _ => h1 rfl, fun hb => y_end hb⟩
  · walk_at "w"
    have lz : ((rs.filter hasHi).map upHi).length ≤ 100 := by
      rw [List.length_map]
      exact Nat.le_trans (List.length_filter_le _ _) hz
    refine ⟨Nat.le_trans (show 1 + ((rs.filter hasHi).map upHi).length ≤ 1000 by omega) (by decide), ?_⟩
    rw [show [D.int 0] ++ (rs.filter hasHi).map upHi = (gapP rs).map D.int from gapP_eq rs]
    walk_at "w"
    have lp : (gapP rs).length ≤ 1000 := by
      have := congrArg List.length (gapP_eq rs)
      rw [List.length_map, List.length_cons] at this
      omega
    refine pairs_spec hp (ns := gapP rs) rfl lp ?_
    walk_at "w"
    refine ⟨trivial, ?_⟩
    refine for_inv (Run_mono T (n + 2)) (fun i σ S1 => S1 = S ∧ (∀ j q, j < i → (PRS (gapP rs))[j]? = some q → gapB rs q.1 q.2 = false) ∧ ∃ v2 v3 : Option D, σ = [some (.tup (rulesD rs)), some (.ro ((gapP rs).map .int)), v2, v3, none, none]) ⟨rfl, fun j r hj => absurd hj (Nat.not_lt_zero _), none, none, rfl⟩ ?_ ?_
    · rintro i x σ S1 hx ⟨rfl, hn, v2, v3, rfl⟩
      rw [List.getElem?_map] at hx
      obtain ⟨p, hpx, rfl⟩ := Option.map_eq_some_iff.mp hx
      walk_at "w"
      refine ⟨rfl, ?_⟩
      walk_at "w"
      refine applic_spec hr ha rs p.1 p.2 (by omega) ?_
      walk_at "w"
      have el := NUM_len rs p.1 p.2
      rw [len_pos, el]
      cases e : gapB rs p.1 p.2 with
      | true =>
        rw [show decide (cntJ rs p.1 p.2 = 0) = true from e]
        walk_at "y"
        exact h (some p) (PFst.all (gap_dense ok) (PRS_hit hpx e hn))
      | false =>
        rw [show decide (cntJ rs p.1 p.2 = 0) = false from e]
        walk_at "n"
        refine ⟨rfl, fun j q hj hq => ?_, _, _, rfl⟩
        by_cases hji : j = i
        · subst hji
          rw [hpx] at hq
          cases hq
          exact e
        · exact hn j q (by omega) hq
    · rintro σ S1 ⟨rfl, hn, v2, v3, rfl⟩
      rw [List.length_map] at hn
      exact h none (PFst.all (gap_dense ok) (PRS_miss hn))
theorem over_spec {T : List DDef} {f fr fp fa n : Nat} (hf : T[f]? = some (dOver fr fp)) (hp : T[fp]? = some dPairs) (hr : T[fr]? = some (dApplic fa)) (ha : T[fa]? = some dApplies) (rs : List JR) (ok : ∀ r ∈ rs, OkJ r) (hz : rs.length ≤ 100) {S : Sto} {k : WK}
    (h : ∀ res, Fst (ovB rs) res → k (resD res) S) : Run T (n + 3) f [.tup (rulesD rs)] S k := by
  refine run_of hf rfl ?_
  walk_at "w"
  refine ⟨by unfold rulesD; rw [List.length_map]; exact Nat.lt_of_le_of_lt hz (by decide), ?_⟩
  refine comp_sel jrD (fun _ => true) (fun r => .int r.lo) rs _ (fun r hr2 kk h1 h2 => ?_) ?_
  · walk_at "w"
    refine ⟨rfl, ?_⟩
    walk_at "w"
    exact ⟨fun _ => h1 rfl, fun hb => y_end hb⟩
  · rw [List.filter_eq_self.mpr (fun _ _ => rfl)]
    rw [show (rs.map fun r => D.int r.lo) = (ovP rs).map D.int by unfold ovP; rw [List.map_map]; rfl]
    walk_at "w"
    have lp : (ovP rs).length ≤ 1000 := by unfold ovP; rw [List.length_map]; omega
    refine pairs_spec hp (ns := ovP rs) rfl lp ?_
    walk_at "w"
    refine ⟨trivial, ?_⟩
    refine for_inv (Run_mono T (n + 2)) (fun i σ S1 => S1 = S ∧ (∀ j q, j < i → (PRS (ovP rs))[j]? = some q → ovB rs q.1 q.2 = false) ∧ ∃ v2 v3 : Option D, σ = [some (.tup (rulesD rs)), some (.ro ((ovP rs).map .int)), v2, v3, none, none]) ⟨rfl, fun j r hj => absurd hj (Nat.not_lt_zero _), none, none, rfl⟩ ?_ ?_
    · rintro i x σ S1 hx ⟨rfl, hn, v2, v3, rfl⟩
      rw [List.getElem?_map] at hx
      obtain ⟨p, hpx, rfl⟩ := Option.map_eq_some_iff.mp hx
      walk_at "w"
      refine ⟨rfl, ?_⟩
      walk_at "w"
      refine applic_spec hr ha rs p.1 p.2 (by omega) ?_
      walk_at "w"
      have el := NUM_len rs p.1 p.2
      have ez : ordW .gt (((NUM rs p.1 p.2).map D.int).length : Int) 1 = ovB rs p.1 p.2 := by
        rw [List.length_map, el]
        show decide ((1 : Int) < (cntJ rs p.1 p.2 : Int)) = decide (1 < cntJ rs p.1 p.2)
        rw [decide_eq_decide]
        omega
      cases e : ovB rs p.1 p.2 with
      | true =>
        refine ⟨fun _ => ?_, fun hb => y_end ((ez.trans e).symm.trans hb)⟩
        exact h (some p) (PFst.all (ov_dense ok) (PRS_hit hpx e hn))
      | false =>
        refine ⟨fun hb => n_end ((ez.trans e).symm.trans hb), fun _ => ?_⟩
        refine ⟨rfl, fun j q hj hq => ?_, _, _, rfl⟩
        by_cases hji : j = i
        · subst hji
          rw [hpx] at hq
          cases hq
          exact e
        · exact hn j q (by omega) hq
    · rintro σ S1 ⟨rfl, hn, v2, v3, rfl⟩
      rw [List.length_map] at hn
      exact h none (PFst.all (ov_dense ok) (PRS_miss hn))

/-! ### as the laws draw them -/
theorem at_in {xs : List D} {r : Int} (h0 : 0 ≤ r) (h1 : r < xs.length) : ∃ d, d ∈ xs ∧ atI xs r = some d := by
  have hl : r.toNat < xs.length := by omega
  exact ⟨xs[r.toNat], List.getElem_mem hl, at_nat h0 (List.getElem?_eq_getElem hl)⟩
def dLApp : DDef :=
  ⟨"_law_applies", ["rule", "category", "amount"], 3, [
    .ret (.andv (.cmp .isIn (.var 1) (.idx (.var 0) (.int 0))) (.andv (.cmp .le (.idx (.var 0) (.int 1)) (.var 2)) (.one (.orv (.cmp .is (.idx (.var 0) (.int 2)) .non) (.one (.cmp .le (.var 2) (.idx (.var 0) (.int 2))))))))]⟩
theorem lapp_spec {T : List DDef} {f n : Nat} (hf : T[f]? = some dLApp) (r : JR) (c a : Int) {S : Sto} {k : WK} (h : k (.bl (AP r c a)) S) : Run T (n + 1) f [jrD r, .int c, .int a] S k := by
  have h : k (.bl (decide (c ∈ r.cs) && (decide (r.lo ≤ a) && below a r.hi))) S := h
  refine run_of hf rfl ?_
  walk_at "w"
  refine ⟨rfl, flat_ints r.cs, ?_⟩
  rw [any_ints]
  by_cases h1 : c ∈ r.cs
  · rw [decide_eq_true h1] at h ⊢
    walk_at "w"
    by_cases h2 : r.lo ≤ a
    · rw [decide_eq_true h2] at h
      rw [show ordW .le r.lo a = true from decide_eq_true h2]
      walk_at "w"
      cases hh : r.hi with
      | none =>
        rw [hh] at h
        exact h
      | some z =>
        rw [hh] at h
        walk_at "w"
        rw [hh]
        exact h
    · rw [decide_eq_false h2] at h
      rw [show ordW .le r.lo a = false from decide_eq_false h2]
      exact h
  · rw [decide_eq_false h1] at h ⊢
    exact h
def dCats (fd : Nat) : DDef :=
  ⟨"_law_categories", ["tape", "found", "k"], 1, [
    .asg (.nm 1) (.bi .tuple [(.comp false (.var 2) (.nm 2) [("k", 2)] .rg [(.int 4)] (some (.cmp .gt (.call fd [(.var 0), (.int 3)]) (.int 0))))]),
    .ite (.notv (.tru (.var 1))) [
      .ret (.tup [(.call fd [(.var 0), (.int 4)])])] [],
    .ret (.var 1)]⟩
theorem cats_spec {T : List DDef} {f fd n : Nat} (hf : T[f]? = some (dCats fd)) (hd : T[fd]? = some dDraw) {S : Sto} {t : Nat} {k : WK} (ht : Tape S t)
    (h : ∀ (cs : List Int) S', Tape S' t → KeepB t S S' → k (.tup (cs.map .int)) S') : Run T (n + 2) f [.ptr t] S k := by
  refine run_of hf rfl ?_
  walk_at "w"
  refine ⟨by unfold big62; omega, by decide, ?_⟩
  refine comp_inv (Run_mono T (n + 1)) (fun i out S2 => (∃ cs : List Int, out = cs.map .int) ∧ Tape S2 t ∧ KeepB t S S2) ⟨⟨[], rfl⟩, ht, KeepB.refl _ _⟩ ?_ ?_
  · rintro i x out S2 hx ⟨⟨cs, rfl⟩, ht2, kb⟩
    obtain ⟨_, rfl⟩ := range_at hx
    walk_at "w"
    refine draw_spec hd ht2 (by decide) fun r S3 r0 r1 ht3 kb3 hl3 => ?_
    walk_at "w"
    refine ⟨fun _ => ?_, fun _ => ?_⟩
    · exact ⟨⟨cs ++ [0 + (i : Int)], by rw [List.map_append]; rfl⟩, ht3, kb.trans kb3⟩
    · exact ⟨⟨cs, rfl⟩, ht3, kb.trans kb3⟩
  · rintro out S2 ⟨⟨cs, rfl⟩, ht2, kb⟩
    walk_at "w"
    rw [len_pos]
    by_cases h0 : cs.length = 0
    · rw [decide_eq_true h0]
      walk_at "y"
      walk_at "w"
      refine draw_spec hd ht2 (by decide) fun r S3 r0 r1 ht3 kb3 hl3 => ?_
      exact h [r] S3 ht3 (kb.trans kb3)
    · rw [decide_eq_false h0]
      walk_at "n"
      exact h cs S2 ht2 kb
def dRule (fd fc : Nat) : DDef :=
  ⟨"_law_rule", ["tape", "categories", "low", "high"], 1, [
    .asg (.nm 1) (.call fc [(.var 0)]),
    .asg (.nm 2) (.idx (.ls [(.int 0), (.int 0), (.call fd [(.var 0), (.int 20)]), (.call fd [(.var 0), (.int 100001)])]) (.call fd [(.var 0), (.int 4)])),
    .asg (.nm 3) (.idx (.ls [.non, (.bin .add (.var 2) (.call fd [(.var 0), (.int 9)])), (.call fd [(.var 0), (.int 20)]), (.call fd [(.var 0), (.int 100001)])]) (.call fd [(.var 0), (.int 4)])),
    .ite (.cmp .isnot (.var 3) .non) [
      .asg (.nm 3) (.bi .min [(.var 3), (.int 100000)])] [],
    .ret (.tup [(.var 1), (.var 2), (.var 3), (.call fd [(.var 0), (.int 10)])])]⟩
/-- what a law's rule keeps to -/
structure OkR (r : JR) : Prop extends OkJ r where
  lo2 : r.lo ≤ 100000
  hi2 : ∀ h, r.hi = some h → h ≤ 100000
theorem rule_spec {T : List DDef} {f fd fc n : Nat} (hf : T[f]? = some (dRule fd fc)) (hc : T[fc]? = some (dCats fd)) (hd : T[fd]? = some dDraw) {S : Sto} {t : Nat} {k : WK} (ht : Tape S t)
    (h : ∀ (r : JR) S', OkR r → Tape S' t → KeepB t S S' → k (jrD r) S') : Run T (n + 3) f [.ptr t] S k := by
  refine run_of hf rfl ?_
  walk_at "w"
  refine cats_spec hc hd ht fun cs S1 ht1 kb1 => ?_
  walk_at "w"
  refine draw_spec hd ht1 (by decide) fun a S2 a0 a1 ht2 kb2 _ => ?_
  have a1 : a < 20 := a1
  walk_at "w"
  refine draw_spec hd ht2 (by decide) fun b S3 b0 b1 ht3 kb3 _ => ?_
  have b1 : b < 100001 := b1
  walk_at "w"
  refine draw_spec hd ht3 (by decide) fun c S4 c0 c1 ht4 kb4 _ => ?_
  have c1 : c < 4 := c1
  have kb5 := kb1.trans (kb2.trans (kb3.trans kb4))
  obtain ⟨lo, l0, l1, el⟩ : ∃ lo : Int, 0 ≤ lo ∧ lo ≤ 100000 ∧ atI [D.int 0, D.int 0, D.int a, D.int b] c = some (.int lo) := by
    obtain ⟨d, hm, e⟩ := at_in (xs := [D.int 0, D.int 0, D.int a, D.int b]) c0 c1
    simp only [List.mem_cons, List.not_mem_nil, or_false] at hm
    rcases hm with rfl | rfl | rfl | rfl
    · exact ⟨0, by omega, by omega, e⟩
    · exact ⟨0, by omega, by omega, e⟩
    · exact ⟨a, a0, by omega, e⟩
    · exact ⟨b, b0, by omega, e⟩
  walk_at "w"
  rw [el]
  walk_at "w"
  refine draw_spec hd ht4 (by decide) fun d S5 d0 d1 ht5 kb6 _ => ?_
  have d1 : d < 9 := d1
  walk_at "w"
  refine draw_spec hd ht5 (by decide) fun e S6 e0 e1 ht6 kb7 _ => ?_
  have e1 : e < 20 := e1
  walk_at "w"
  refine draw_spec hd ht6 (by decide) fun g S7 g0 g1 ht7 kb8 _ => ?_
  have g1 : g < 100001 := g1
  walk_at "w"
  refine draw_spec hd ht7 (by decide) fun m S8 m0 m1 ht8 kb9 _ => ?_
  have m1 : m < 4 := m1
  have kbA := kb5.trans (kb6.trans (kb7.trans (kb8.trans kb9)))
  obtain ⟨hi, h0, eh⟩ : ∃ hi : Option Int, (∀ z, hi = some z → 0 ≤ z) ∧ atI [D.non, D.int (lo + d), D.int e, D.int g] m = some (hiD hi) := by
    obtain ⟨x, hm, ex⟩ := at_in (xs := [D.non, D.int (lo + d), D.int e, D.int g]) m0 m1
    simp only [List.mem_cons, List.not_mem_nil, or_false] at hm
    rcases hm with rfl | rfl | rfl | rfl
    · exact ⟨none, fun z e => (by cases e), ex⟩
    · exact ⟨some (lo + d), fun z e => (by cases e; omega), ex⟩
    · exact ⟨some e, fun z e => (by cases e; omega), ex⟩
    · exact ⟨some g, fun z e => (by cases e; omega), ex⟩
  walk_at "w"
  rw [eh]
  cases hi with
  | none =>
    walk_at "w"
    walk_at "n"
    walk_at "w"
    refine draw_spec hd ht8 (by decide) fun q S9 q0 q1 ht9 kbB _ => ?_
    exact h ⟨cs, lo, none, q⟩ S9 ⟨⟨l0, fun z e => (by cases e)⟩, l1, fun z e => (by cases e)⟩ ht9 (kbA.trans kbB)
  | some z =>
    have z0 := h0 z rfl
    walk_at "w"
    walk_at "y"
    walk_at "w"
    refine draw_spec hd ht8 (by decide) fun q S9 q0 q1 ht9 kbB _ => ?_
    refine h ⟨cs, lo, some (if 100000 < z then 100000 else z), q⟩ S9 ⟨⟨l0, fun y e => ?_⟩, l1, fun y e => ?_⟩ ht9 (kbA.trans kbB)
    · have e := Option.some.inj e
      split at e <;> omega
    · have e := Option.some.inj e
      split at e <;> omega

def splIn (fd : Nat) : List PSt := [
        .asg (.nm 7) (.bi .min [(.bin .add (.var 5) (.call fd [(.var 0), (.idx (.ls [(.int 3), (.int 1000)]) (.call fd [(.var 0), (.int 2)]))])), (.int 99999)]),
        .ite (.andv (.tru (.var 4)) (.one (.cmp .lt (.var 5) (.int 99999)))) [
          .asg (.nm 1) (.bin .add (.var 1) (.tup [(.tup [(.var 4), (.var 5), (.var 7), (.call fd [(.var 0), (.int 10)])])])),
          .asg (.nm 5) (.bin .add (.var 7) (.int 1))] []]
def splOut (fd : Nat) : List PSt := [
      .asg (.nm 4) (.bi .tuple [(.comp false (.var 6) (.nm 6) [("k", 6)] .sq [(.var 2)] (some (.orv (.cmp .eq (.var 3) (.int 1)) (.one (.cmp .eq (.call fd [(.var 0), (.int 2)]) (.int 0))))))]),
      .ite (.andv (.cmp .eq (.var 3) (.int 0)) (.one (.orv (.notv (.tru (.var 4))) (.one (.cmp .eq (.call fd [(.var 0), (.int 3)]) (.int 0)))))) [
        .asg (.nm 4) (.bi .tuple [(.var 2)])] [],
      .asg (.nm 2) (.comp false (.var 6) (.nm 6) [("k", 6)] .sq [(.var 2)] (some (.cmp .notIn (.var 6) (.var 4)))),
      .asg (.nm 5) (.int 0),
      .forS (.nm 6) .rg [(.call fd [(.var 0), (.int 4)])] (splIn fd),
      .ite (.tru (.var 4)) [
        .asg (.nm 1) (.bin .add (.var 1) (.tup [(.tup [(.var 4), (.var 5), .non, (.call fd [(.var 0), (.int 10)])])]))] []]
def dSplit (fd : Nat) : DDef :=
  ⟨"_law_split", ["tape", "rules", "left", "part", "mine", "low", "k", "high"], 1, [
    .asg (.nm 1) (.tup []),
    .asg (.nm 2) (.ls [(.int 0), (.int 1), (.int 2), (.int 3)]),
    .forS (.nm 3) .rg [(.bin .add (.int 1) (.call fd [(.var 0), (.int 2)]))] (splOut fd),
    .ite (.tru (.var 2)) [
      .asg (.nm 1) (.bin .add (.var 1) (.tup [(.tup [(.bi .tuple [(.var 2)]), (.int 0), .non, (.call fd [(.var 0), (.int 10)])])]))] [],
    .ret (.slc (.var 1) none (some (.int 8)))]⟩
def OkRs (rs : List JR) : Prop := ∀ r ∈ rs, OkR r
theorem OkRs.snoc {rs : List JR} (h : OkRs rs) {r : JR} (hr : OkR r) : OkRs (rs ++ [r]) := fun x hx => by
  rcases List.mem_append.mp hx with hx | hx
  · exact h x hx
  · rw [List.mem_singleton.mp hx]
    exact hr
theorem rules_snoc (rs : List JR) (r : JR) : rulesD rs ++ [jrD r] = rulesD (rs ++ [r]) := by unfold rulesD; rw [List.map_append]; rfl
theorem rules_len (rs : List JR) : (rulesD rs).length = rs.length := List.length_map _
theorem some_two (r : Int) (h0 : 0 ≤ r) (h1 : r < 2) : ∃ m : Int, m ≤ 1000 ∧ atI [D.int 3, D.int 1000] r = some (.int m) := by
  obtain ⟨d, hm, e⟩ := at_in (xs := [D.int 3, D.int 1000]) h0 h1
  simp only [List.mem_cons, List.not_mem_nil, or_false] at hm
  rcases hm with rfl | rfl
  · exact ⟨3, by omega, e⟩
  · exact ⟨1000, by omega, e⟩
/-- the inner loop's turns -/
theorem splIn_turn {T : List DDef} {fd n t : Nat} (hd : T[fd]? = some dDraw) {rs : List JR} {v2 v3 v7 : Option D} {ms : List Int} {low : Int} {x : D} {S : Sto} {E : DEnds} (ht : Tape S t) (ok : OkRs rs) (l0 : 0 ≤ low) (l1 : low ≤ 100000) (hz : rs.length ≤ 100)
    (h : ∀ (rs2 : List JR) (low2 : Int) (z : Option D) S', OkRs rs2 → rs.length ≤ rs2.length → rs2.length ≤ rs.length + 1 → 0 ≤ low2 → low2 ≤ 100000 → Tape S' t → KeepB t S S' → E.nx [some (.ptr t), some (.tup (rulesD rs2)), v2, v3, some (.tup (ms.map .int)), some (.int low2), some x, z] S') :
    wSs (Run T (n + 1)) (splIn fd) [some (.ptr t), some (.tup (rulesD rs)), v2, v3, some (.tup (ms.map .int)), some (.int low), some x, v7] S E := by
  walk_at "w"
  refine draw_spec hd ht (by decide) fun a S1 a0 a1 ht1 kb1 _ => ?_
  obtain ⟨m, hm, em⟩ := some_two a a0 a1
  walk_at "w"
  rw [em]
  walk_at "w"
  refine draw_spec hd ht1 (by omega) fun b S2 b0 b1 ht2 kb2 _ => ?_
  have kb3 := kb1.trans kb2
  walk_at "w"
  rw [len_pos]
  generalize hg : (if 99999 < low + b then 99999 else low + b) = high
  have g0 : 0 ≤ high ∧ high ≤ 99999 := by split at hg <;> omega
  by_cases h0 : ms.length = 0
  · rw [decide_eq_true h0]
    walk_at "n"
    walk_at "n"
    exact h rs low _ S2 ok (Nat.le_refl _) (by omega) l0 l1 ht2 kb3
  · rw [decide_eq_false h0]
    walk_at "y"
    walk_at "w"
    cases e : ordW .lt low 99999 with
    | false =>
      walk_at "n"
      exact h rs low _ S2 ok (Nat.le_refl _) (by omega) l0 l1 ht2 kb3
    | true =>
      walk_at "y"
      walk_at "w"
      refine draw_spec (many := 10) hd ht2 (by decide) fun c S3 c0 c1 ht3 kb4 _ => ?_
      walk_at "w"
      refine ⟨by rw [rules_len]; show rs.length + 1 ≤ 16777216; omega, ?_⟩
      have hnew : OkR ⟨ms, low, some high, c⟩ := ⟨⟨l0, fun z e => (by cases e; exact g0.1)⟩, l1, fun z e => (by cases e; omega)⟩
      have z := h (rs ++ [⟨ms, low, some high, c⟩]) (high + 1) (some (.int high)) S3 (ok.snoc hnew) (by simp) (by simp) (by omega) (by omega) ht3 (kb3.trans kb4)
      rw [← rules_snoc] at z
      exact z
theorem split_spec {T : List DDef} {f fd n : Nat} (hf : T[f]? = some (dSplit fd)) (hd : T[fd]? = some dDraw) {S : Sto} {t : Nat} {k : WK} (ht : Tape S t)
    (h : ∀ (rs : List JR) S', OkRs rs → 1 ≤ rs.length → rs.length ≤ 8 → Tape S' t → KeepB t S S' → k (.tup (rulesD rs)) S') : Run T (n + 2) f [.ptr t] S k := by
  refine run_of hf rfl ?_
  walk_at "w"
  refine draw_spec hd ht (by decide) fun a S1 a0 a1 ht1 kb1 _ => ?_
  have a1 : a < 2 := a1
  walk_at "w"
  refine ⟨⟨by omega, by omega⟩, trivial, ?_⟩
  refine for_inv (Run_mono T (n + 1)) (fun i σ S2 => ∃ (rs : List JR) (ls : List Int) (v3 v4 v5 v6 v7 : Option D), σ = [some (.ptr t), some (.tup (rulesD rs)), some (.ro (ls.map .int)), v3, v4, v5, v6, v7] ∧ OkRs rs ∧ (ls ≠ [] ∨ 1 ≤ rs.length) ∧ rs.length ≤ 5 * i ∧ ls.length ≤ 4 ∧ Tape S2 t ∧ KeepB t S S2)
    ⟨[], [0, 1, 2, 3], none, none, none, none, none, rfl, (fun r hr => nomatch hr), .inl (by simp), by simp, by decide, ht1, kb1⟩ ?_ ?_
  · rintro i x σ S2 hx ⟨rs, ls, v3, v4, v5, v6, v7, rfl, ok, hne, hrl, hll, ht2, kb2⟩
    obtain ⟨hi, rfl⟩ := range_at hx
    have hi2 : i ≤ 1 := by omega
    -- with the part's categories at hand
    have rest : ∀ (ms : List Int) (v5 v6 v7 : Option D) (S3 : Sto) (E : DEnds), Tape S3 t → KeepB t S S3 →
        (∀ (rs : List JR) (ls : List Int) (v3 v4 v5 v6 v7 : Option D) (S2 : Sto), OkRs rs → (ls ≠ [] ∨ 1 ≤ rs.length) → rs.length ≤ 5 * (i + 1) → ls.length ≤ 4 → Tape S2 t → KeepB t S S2 → E.nx [some (.ptr t), some (.tup (rulesD rs)), some (.ro (ls.map .int)), v3, v4, v5, v6, v7] S2) →
        wSs (Run T (n + 1)) ((splOut fd).drop 2) [some (.ptr t), some (.tup (rulesD rs)), some (.ro (ls.map .int)), some (.int (0 + (i : Int))), some (.tup (ms.map .int)), v5, v6, v7] S3 E := by
      intro ms v5 v6 v7 S3 E ht3 kb3 hE
      walk_at "w"
      refine ⟨by rw [List.length_map]; exact Nat.lt_of_le_of_lt hll (by decide), ?_⟩
      refine comp_sel D.int (fun c => !decide (c ∈ ms)) D.int ls _ (fun c hc kk h1 h2 => ?_) ?_
      · walk_at "w"
        refine ⟨rfl, flat_ints ms, ?_⟩
        rw [any_ints]
        cases e : decide (c ∈ ms) with
        | true =>
          rw [e] at h1 h2
          exact ⟨fun hb => n_end hb, fun _ => h2 rfl⟩
        | false =>
          rw [e] at h1 h2
          exact ⟨fun _ => h1 rfl, fun hb => y_end hb⟩
      · have hl2 : (ls.filter fun c => !decide (c ∈ ms)).length ≤ 4 := Nat.le_trans (List.length_filter_le _ _) hll
        have hne2 : ms.length = 0 → (ls.filter fun c => !decide (c ∈ ms)) = ls := fun e => by
          rw [List.length_eq_zero_iff.mp e]
          exact List.filter_eq_self.mpr fun _ _ => rfl
        generalize (ls.filter fun c => !decide (c ∈ ms)) = ls2 at hl2 hne2 ⊢
        walk_at "w"
        refine draw_spec hd ht3 (by decide) fun b S4 b0 b1 ht4 kb4 _ => ?_
        have b1 : b < 4 := b1
        walk_at "w"
        refine ⟨⟨by omega, by omega⟩, trivial, ?_⟩
        refine for_inv (Run_mono T (n + 1)) (fun j σ S5 => ∃ (rs2 : List JR) (low : Int) (w6 w7 : Option D), σ = [some (.ptr t), some (.tup (rulesD rs2)), some (.ro (ls2.map .int)), some (.int (0 + (i : Int))), some (.tup (ms.map .int)), some (.int low), w6, w7] ∧ OkRs rs2 ∧ rs.length ≤ rs2.length ∧ rs2.length ≤ rs.length + j ∧ 0 ≤ low ∧ low ≤ 100000 ∧ Tape S5 t ∧ KeepB t S S5)
          ⟨rs, 0, v6, v7, rfl, ok, Nat.le_refl _, Nat.le_refl _, by decide, by decide, ht4, kb3.trans kb4⟩ ?_ ?_
        · rintro j x σ S5 hx ⟨rs2, low, w6, w7, rfl, ok2, g1, g2, l0, l1, ht5, kb5⟩
          obtain ⟨hj, rfl⟩ := range_at hx
          refine splIn_turn hd ht5 ok2 l0 l1 (by omega) fun rs3 low3 z S6 ok3 q1 q2 m0 m1 ht6 kb6 => ?_
          exact ⟨rs3, low3, _, _, rfl, ok3, by omega, by omega, m0, m1, ht6, kb5.trans kb6⟩
        · rintro σ S5 ⟨rs2, low, w6, w7, rfl, ok2, g1, g2, l0, l1, ht5, kb5⟩
          rw [rangeD_len] at g2
          have g3 : rs2.length ≤ rs.length + 3 := by omega
          walk_at "w"
          rw [len_pos]
          by_cases h0 : ms.length = 0
          · rw [decide_eq_true h0]
            walk_at "n"
            refine hE rs2 ls2 _ _ _ _ _ S5 ok2 ?_ (by omega) hl2 ht5 kb5
            rw [hne2 h0]
            rcases hne with h | h
            · exact .inl h
            · exact .inr (by omega)
          · rw [decide_eq_false h0]
            walk_at "y"
            walk_at "w"
            refine draw_spec hd ht5 (by decide) fun c S6 c0 c1 ht6 kb6 _ => ?_
            walk_at "w"
            refine ⟨by rw [rules_len]; show rs2.length + 1 ≤ 16777216; omega, ?_⟩
            have hnew : OkR ⟨ms, low, none, c⟩ := ⟨⟨l0, fun z e => (by cases e)⟩, l1, fun z e => (by cases e)⟩
            have z := hE (rs2 ++ [⟨ms, low, none, c⟩]) ls2 (some (.int (0 + (i : Int)))) (some (.tup (ms.map .int))) (some (.int low)) w6 w7 S6 (ok2.snoc hnew) (.inr (by simp)) (by simp; omega) hl2 ht6 (kb5.trans kb6)
            rw [← rules_snoc] at z
            exact z
    walk_at "w"
    refine ⟨by rw [List.length_map]; exact Nat.lt_of_le_of_lt hll (by decide), ?_⟩
    refine comp_inv (Run_mono T (n + 1)) (fun j out S3 => (∃ ms : List Int, out = ms.map .int) ∧ Tape S3 t ∧ KeepB t S S3) ⟨⟨[], rfl⟩, ht2, kb2⟩ ?_ ?_
    · rintro j x out S3 hx ⟨⟨ms, rfl⟩, ht3, kb3⟩
      rw [List.getElem?_map] at hx
      obtain ⟨c, hc, rfl⟩ := Option.map_eq_some_iff.mp hx
      walk_at "w"
      refine ⟨rfl, ?_⟩
      refine ⟨fun _ => ?_, fun _ => ?_⟩
      · refine ⟨fun _ => ?_, fun hb => y_end hb⟩
        exact ⟨⟨ms ++ [c], by rw [List.map_append]; rfl⟩, ht3, kb3⟩
      · walk_at "w"
        refine draw_spec hd ht3 (by decide) fun r S4 r0 r1 ht4 kb4 _ => ?_
        walk_at "w"
        refine ⟨rfl, ?_⟩
        refine ⟨fun _ => ?_, fun _ => ?_⟩
        · exact ⟨⟨ms ++ [c], by rw [List.map_append]; rfl⟩, ht4, kb3.trans kb4⟩
        · exact ⟨⟨ms, rfl⟩, ht4, kb3.trans kb4⟩
    · rintro out S3 ⟨⟨ms, rfl⟩, ht3, kb3⟩
      walk_at "w"
      refine ⟨rfl, ?_⟩
      refine ⟨fun _ => ?_, fun _ => ?_⟩
      · walk_at "w"
        rw [len_pos]
        by_cases h0 : ms.length = 0
        · rw [decide_eq_true h0]
          walk_at "y"
          walk_at "y"
          exact rest ls _ _ _ S3 _ ht3 kb3 fun rs ls v3 v4 v5 v6 v7 S2 a b c d e f => ⟨rs, ls, v3, v4, v5, v6, v7, rfl, a, b, c, d, e, f⟩
        · rw [decide_eq_false h0]
          walk_at "n"
          walk_at "w"
          refine draw_spec hd ht3 (by decide) fun r S4 r0 r1 ht4 kb4 _ => ?_
          walk_at "w"
          refine ⟨rfl, ?_⟩
          refine ⟨fun _ => ?_, fun _ => ?_⟩
          · exact rest ls _ _ _ S4 _ ht4 (kb3.trans kb4) fun rs ls v3 v4 v5 v6 v7 S2 a b c d e f => ⟨rs, ls, v3, v4, v5, v6, v7, rfl, a, b, c, d, e, f⟩
          · exact rest ms _ _ _ S4 _ ht4 (kb3.trans kb4) fun rs ls v3 v4 v5 v6 v7 S2 a b c d e f => ⟨rs, ls, v3, v4, v5, v6, v7, rfl, a, b, c, d, e, f⟩
      · walk_at "n"
        exact rest ms _ _ _ S3 _ ht3 kb3 fun rs ls v3 v4 v5 v6 v7 S2 a b c d e f => ⟨rs, ls, v3, v4, v5, v6, v7, rfl, a, b, c, d, e, f⟩
  · rintro σ S2 ⟨rs, ls, v3, v4, v5, v6, v7, rfl, ok, hne, hrl, hll, ht2, kb2⟩
    rw [rangeD_len] at hrl
    have hrl : rs.length ≤ 10 := by omega
    walk_at "w"
    rw [len_pos]
    by_cases h0 : ls.length = 0
    · rw [decide_eq_true h0]
      walk_at "n"
      walk_at "w"
      have hr1 : 1 ≤ rs.length := by
        rcases hne with h | h
        · exact absurd (List.length_eq_zero_iff.mp h0) h
        · exact h
      rw [show cutD (rulesD rs) none (some 8) = rulesD (rs.take 8) by unfold rulesD; rw [List.map_take]; exact cut_hd _ 8]
      exact h _ S2 (fun r hr => ok r (List.mem_of_mem_take hr)) (by rw [List.length_take]; omega) (by rw [List.length_take]; omega) ht2 kb2
    · rw [decide_eq_false h0]
      walk_at "y"
      walk_at "w"
      refine draw_spec hd ht2 (by decide) fun c S6 c0 c1 ht6 kb6 _ => ?_
      walk_at "w"
      refine ⟨by rw [rules_len]; show rs.length + 1 ≤ 16777216; omega, ?_⟩
      walk_at "w"
      have hnew : OkR ⟨ls, 0, none, c⟩ := ⟨⟨Int.le_refl _, fun z e => (by cases e)⟩, (show (0 : Int) ≤ 100000 by decide), fun z e => (by cases e)⟩
      rw [show rulesD rs ++ [.tup [.tup (ls.map D.int), .int 0, .non, .int c]] = rulesD (rs ++ [⟨ls, 0, none, c⟩]) from rules_snoc rs ⟨ls, 0, none, c⟩]
      have ok2 := ok.snoc hnew
      have l2 : (rs ++ [⟨ls, 0, none, c⟩] : List JR).length = rs.length + 1 := by simp
      generalize (rs ++ [⟨ls, 0, none, c⟩] : List JR) = rs2 at ok2 l2 ⊢
      rw [show cutD (rulesD rs2) none (some 8) = rulesD (rs2.take 8) by unfold rulesD; rw [List.map_take]; exact cut_hd _ 8]
      exact h _ S6 (fun r hr => ok2 r (List.mem_of_mem_take hr)) (by rw [List.length_take]; omega) (by rw [List.length_take]; omega) ht6 (kb2.trans kb6)
/-! ### for the laws -/
theorem NUM_find (rs : List JR) (c a : Int) : (∃ (i : Nat) (r : JR) (t : List Int), NUM rs c a = (i : Int) :: t ∧ rs[i]? = some r ∧ (rs.find? fun r => AP r c a) = some r) ∨ NUM rs c a = [] ∧ (rs.find? fun r => AP r c a) = none := by
  cases hf : rs.find? fun r => AP r c a with
  | none =>
    refine .inr ⟨?_, rfl⟩
    have h0 : cntJ rs c a = 0 := cnt_zero.mpr fun r hr => by
      have := List.find?_eq_none.mp hf r hr
      cases e : AP r c a with
      | true => exact absurd e this
      | false => rfl
    exact List.length_eq_zero_iff.mp ((NUM_len rs c a).trans h0)
  | some r =>
    obtain ⟨hp, l1, l2, rfl, hn⟩ := List.find?_eq_some_iff_append.mp hf
    refine .inl ⟨l1.length, r, (((l2.zipIdx (l1.length + 1)).filter fun p => AP p.1 c a).map fun p => (p.2 : Int)), ?_, by simp, rfl⟩
    unfold NUM
    rw [List.zipIdx_append, List.filter_append, List.map_append, List.filter_eq_nil_iff.mpr (fun p hp2 e => by
      have hm : p.1 ∈ l1 := by
        obtain ⟨x, i⟩ := p
        exact List.mem_of_getElem? (List.mem_zipIdx_iff_getElem?.mp hp2)
      have := hn p.1 hm
      rw [e] at this
      cases this), List.map_nil, List.nil_append, List.zipIdx_cons, List.filter_cons_of_pos (by exact hp), List.map_cons]
    rw [Nat.zero_add]
theorem rule_at {rs : List JR} {i : Nat} {r : JR} (h : rs[i]? = some r) : atI (rulesD rs) (i : Int) = some (jrD r) := at_n (by unfold rulesD; rw [List.getElem?_map, h]; rfl)
theorem eq_cnt (m : Nat) : eqD (.int (m : Int)) (.int 0) = decide (m = 0) := by
  by_cases h : m = 0
  · subst h
    rfl
  · rw [eqI_no (by omega), decide_eq_false h]
theorem gt_cnt (m : Nat) : ordW .gt (m : Int) 1 = decide (1 < m) := by
  show decide ((1 : Int) < (m : Int)) = decide (1 < m)
  rw [decide_eq_decide]
  omega
theorem swap_rules (rs : List JR) (k : Nat) (hk : k < rs.length) (r : JR) : cutD (rulesD rs) none (some (k : Int)) ++ [jrD r] ++ cutD (rulesD rs) (some ((k : Int) + 1)) none = rulesD (rs.take k ++ [r] ++ rs.drop (k + 1)) := by
  rw [cutD_take _ (by rw [rules_len]; omega), show ((k : Int) + 1) = ((k + 1 : Nat) : Int) by omega, cutD_drop _ (by rw [rules_len]; omega)]
  unfold rulesD
  simp [List.map_take, List.map_drop]
theorem swap_ok {rs : List JR} {k : Nat} {r : JR} (ok : OkRs rs) (hr : OkR r) : OkRs (rs.take k ++ [r] ++ rs.drop (k + 1)) := fun x hx => by
  rcases List.mem_append.mp hx with hx | hx
  · rcases List.mem_append.mp hx with hx | hx
    · exact ok x (List.mem_of_mem_take hx)
    · rw [List.mem_singleton.mp hx]
      exact hr
  · exact ok x (List.mem_of_mem_drop hx)
theorem swap_len {rs : List JR} {k : Nat} {r : JR} (hk : k < rs.length) : (rs.take k ++ [r] ++ rs.drop (k + 1)).length = rs.length := by
  simp
  omega
theorem resD_good (o : Option (Int × Int)) : good 1 (resD o) := by
  cases o with
  | none => exact trivial
  | some p => exact ⟨(show 2 < 1000000 by decide), trivial, trivial, trivial⟩
end Ov
-- OvQu
/-! The queue of stamps: the program's intake as data. -/
namespace Ov
open PySem L2
local macro_rules | `(tactic| walk_at "w") => `(tactic| conv => whnf)
local macro_rules | `(tactic| walk_at "y") => `(tactic| refine ⟨fun _ => ?_, fun hb => y_end hb⟩)
local macro_rules | `(tactic| walk_at "n") => `(tactic| refine ⟨fun hb => n_end hb, fun _ => ?_⟩)
/-- what is made turn by turn, the turns before known -/
theorem acc_pre {body : D → Sto → List D → (List D → Sto → Prop) → Prop} {all : List D} {S : Sto} (f : D → List D) : ∀ (xs pre : List D) (k : List D → Sto → Prop),
    (∀ (pre : List D) (x : D) (post : List D), pre ++ x :: post = all → ∀ kk : List D → Sto → Prop, kk ((pre.map f).flatten ++ f x) S → body x S ((pre.map f).flatten) kk) → pre ++ xs = all → k ((all.map f).flatten) S → accW body none all xs S ((pre.map f).flatten) k
  | [], pre, k, _, he, h => ⟨trivial, by rw [← he, List.append_nil] at h; exact h⟩
  | x :: xs, pre, k, hb, he, h => by
    refine ⟨trivial, hb pre x xs he _ ?_⟩
    have e : (pre.map f).flatten ++ f x = ((pre ++ [x]).map f).flatten := by simp
    rw [e]
    exact acc_pre f xs (pre ++ [x]) k hb (by rw [List.append_assoc]; exact he) h
abbrev WM := List (Int × Int)
def qD (wm : WM) (pd : List T3) : D := .tup [.tup (wm.map pairI), .tup (pd.map tripI)]
def dNewQ : DDef :=
  ⟨"new_queue", ["offices"], 1, [
    .ret (.tup [(.bin .mul (.tup [(.tup [(.int 0), (.int 0)])]) (.var 0)), (.tup [])])]⟩
def dDupQ : DDef :=
  ⟨"is_duplicate", ["queue", "stamp", "watermarks", "pending", "_", "office", "sequence", "other"], 2, [
    .asg (.tp [(.nm 2), (.nm 3)]) (.var 0),
    .asg (.tp [(.nm 4), (.nm 5), (.nm 6)]) (.var 1),
    .ite (.cmp .le (.var 6) (.idx (.idx (.var 2) (.var 5)) (.int 0))) [
      .ret (.bl true)] [],
    .ret (.bi .any [(.comp false (.cmp .eq (.slc (.var 7) (some (.int 1)) none) (.tup [(.var 5), (.var 6)])) (.nm 7) [("other", 7)] .sq [(.var 3)] none)])]⟩
def dOooQ : DDef :=
  ⟨"is_out_of_order", ["queue", "stamp", "watermarks", "pending", "day", "office", "sequence", "other_day", "other_office", "other_sequence"], 2, [
    .asg (.tp [(.nm 2), (.nm 3)]) (.var 0),
    .asg (.tp [(.nm 4), (.nm 5), (.nm 6)]) (.var 1),
    .ite (.cmp .lt (.var 4) (.idx (.idx (.var 2) (.var 5)) (.int 1))) [
      .ret (.bl true)] [],
    .forS (.tp [(.nm 7), (.nm 8), (.nm 9)]) .sq [(.var 3)] [
      .ite (.cmp .ne (.var 8) (.var 5)) [
        .cont] [],
      .ite (.andv (.cmp .lt (.var 9) (.var 6)) (.one (.cmp .lt (.var 4) (.var 7)))) [
        .ret (.bl true)] [],
      .ite (.andv (.cmp .gt (.var 9) (.var 6)) (.one (.cmp .gt (.var 4) (.var 7)))) [
        .ret (.bl true)] []],
    .ret (.bl false)]⟩
def dRejQ (fd fo : Nat) : DDef :=
  ⟨"rejection", ["queue", "stamp", "watermarks", "pending"], 2, [
    .asg (.tp [(.nm 2), (.nm 3)]) (.var 0),
    .ite (.cmp .ge (.idx (.var 1) (.int 1)) (.bi .len [(.var 2)])) [
      .ret (.str "unknown office")] [],
    .ite (.tru (.call fd [(.var 0), (.var 1)])) [
      .ret (.str "duplicate")] [],
    .ite (.tru (.call fo [(.var 0), (.var 1)])) [
      .ret (.str "day out of order")] [],
    .ite (.cmp .ge (.bi .len [(.var 3)]) (.con "MOST_PENDING" 12)) [
      .ret (.str "full")] [],
    .ret .non]⟩
def dAdvQ : DDef :=
  ⟨"advanced", ["watermark", "office", "pending", "days", "sequence", "day", "stamp"], 3, [
    .asg (.tp [(.nm 4), (.nm 5)]) (.var 0),
    .asg (.nm 3) (.dcomp (.idx (.var 6) (.int 2)) (.idx (.var 6) (.int 0)) (.nm 6) [("stamp", 6)] .sq [(.var 2)] (some (.cmp .eq (.idx (.var 6) (.int 1)) (.var 1)))),
    .whil (.cmp .isIn (.bin .add (.var 4) (.int 1)) (.var 3)) [
      .aug 4 .add (.int 1),
      .asg (.nm 5) (.idx (.var 3) (.var 4))],
    .ret (.tup [(.var 4), (.var 5)])]⟩
def dAdmQ : DDef :=
  ⟨"admissible_stamps", ["queue", "watermarks", "office", "sequence", "day"], 1, [
    .asg (.nm 1) (.idx (.var 0) (.int 0)),
    .ret (.bi .tuple [(.comp false (.tup [(.var 4), (.var 2), (.bin .add (.var 3) (.int 1))]) (.tp [(.nm 2), (.tp [(.nm 3), (.nm 4)])]) [("office", 2), ("sequence", 3), ("day", 4)] .en [(.var 1)] none)])]⟩
def dAwtQ (fa : Nat) : DDef :=
  ⟨"awaited_stamp", ["queue"], 1, [
    .ret (.bi .min [(.call fa [(.var 0)])])]⟩
def dSubQ (fr fv fa : Nat) : DDef :=
  ⟨"submitted", ["queue", "stamp", "reason", "watermarks", "pending", "office", "awaited", "processed", "other"], 2, [
    .asg (.nm 2) (.call fr [(.var 0), (.var 1)]),
    .ite (.cmp .isnot (.var 2) .non) [
      .ret (.tup [(.var 2), (.tup []), (.var 0)])] [],
    .asg (.nm 3) (.bi .mlist [(.idx (.var 0) (.int 0))]),
    .asg (.nm 4) (.bi .tuple [(.bi .sorted [(.bin .add (.idx (.var 0) (.int 1)) (.tup [(.var 1)]))])]),
    .asg (.nm 5) (.idx (.var 1) (.int 1)),
    .sub (.var 3) (.var 5) (.call fv [(.idx (.var 3) (.var 5)), (.var 5), (.var 4)]),
    .asg (.nm 6) (.call fa [(.tup [(.bi .tuple [(.var 3)]), (.var 4)])]),
    .asg (.nm 7) (.bi .tuple [(.comp false (.var 8) (.nm 8) [("other", 8)] .sq [(.var 4)] (some (.cmp .lt (.var 8) (.var 6))))]),
    .ret (.tup [.non, (.var 7), (.tup [(.bi .tuple [(.var 3)]), (.slc (.var 4) (some (.bi .len [(.var 7)])) none)])])]⟩
class QuT (T : List DDef) (f0 f1 f2 f3 f4 f5 f6 f7 : outParam Nat) : Prop where
  h0 : T[f0]? = some dNewQ
  h1 : T[f1]? = some dDupQ
  h2 : T[f2]? = some dOooQ
  h3 : T[f3]? = some (dRejQ f1 f2)
  h4 : T[f4]? = some dAdvQ
  h5 : T[f5]? = some (dSubQ f3 f4 f7)
  h6 : T[f6]? = some dAdmQ
  h7 : T[f7]? = some (dAwtQ f6)
/-! ### mathematics -/
def hitQ (st o : T3) : Bool := eqD (.tup [.int o.2.1, .int o.2.2]) (.tup [.int st.2.1, .int st.2.2])
theorem hitQ_eq (st o : T3) : hitQ st o = decide (o.2 = st.2) := by
  unfold hitQ
  rw [show eqD (.tup [.int o.2.1, .int o.2.2]) (.tup [.int st.2.1, .int st.2.2]) = _ from ints_eqD [o.2.1, o.2.2] [st.2.1, st.2.2]]
  refine decide_eq_decide.mpr ?_
  constructor
  · intro h
    simp only [List.cons.injEq] at h
    exact Prod.ext h.1 h.2.1
  · intro h
    rw [h]
def dupB (w : Int × Int) (pd : List T3) (st : T3) : Bool := decide (st.2.2 ≤ w.1) || pd.any (hitQ st)
def oooP (st o : T3) : Bool := decide (o.2.1 = st.2.1) && ((decide (o.2.2 < st.2.2) && decide (st.1 < o.1)) || (decide (st.2.2 < o.2.2) && decide (o.1 < st.1)))
def oooB (w : Int × Int) (pd : List T3) (st : T3) : Bool := decide (st.1 < w.2) || pd.any (oooP st)
def wq (wm : WM) (st : T3) : Int × Int := wm.getD st.2.1.toNat (0, 0)
def rejD (wm : WM) (pd : List T3) (st : T3) : D :=
  if (wm.length : Int) ≤ st.2.1 then .str "unknown office" else if dupB (wq wm st) pd st = true then .str "duplicate" else if oooB (wq wm st) pd st = true then .str "day out of order" else if 12 ≤ pd.length then .str "full" else .non
theorem wq_at {wm : WM} {st : T3} (h0 : 0 ≤ st.2.1) (h1 : st.2.1 < wm.length) : atI (wm.map pairI) st.2.1 = some (pairI (wq wm st)) := by
  refine at_nat h0 ?_
  have h : st.2.1.toNat < wm.length := by omega
  unfold wq
  rw [List.getElem?_map, List.getElem?_eq_getElem h, List.getD_eq_getElem?_getD, List.getElem?_eq_getElem h]
  rfl
theorem rep_zeroQ : ∀ m : Nat, (List.replicate m [D.tup [.int 0, .int 0]]).flatten = (List.replicate m ((0, 0) : Int × Int)).map pairI
  | 0 => rfl
  | m + 1 => by
    rw [List.replicate_succ, List.replicate_succ, List.flatten_cons, rep_zeroQ m]
    rfl
theorem bools_of_map {α : Type} (f : α → Bool) (xs : List α) : boolsOf (xs.map fun x => D.bl (f x)) = some (xs.map f) := by
  induction xs with
  | nil => rfl
  | cons x xs ih =>
    show (boolsOf (xs.map fun x => D.bl (f x))).map (f x :: ·) = _
    rw [ih]
    rfl
theorem any_id (f : T3 → Bool) (xs : List T3) : (xs.map f).any id = xs.any f := by
  induction xs with
  | nil => rfl
  | cons x xs ih => rw [List.map_cons, List.any_cons, List.any_cons, ih]; rfl
theorem trips_map : ∀ ts : List T3, tripsOf (ts.map tripI) = some ts
  | [] => rfl
  | t :: ts => by
    show (tripsOf (ts.map tripI)).map ((t.1, t.2.1, t.2.2) :: ·) = _
    rw [trips_map ts]
    rfl
/-- a watermark's way on -/
def dayQ (pd : List T3) (o s : Int) : Option Int := (pd.find? fun p => decide (p.2 = (o, s))).map (·.1)
inductive Adv (pd : List T3) (o : Int) : Int × Int → Int × Int → Prop
  | stop {w : Int × Int} (h : dayQ pd o (w.1 + 1) = none) : Adv pd o w w
  | step {w w' : Int × Int} {d : Int} (h : dayQ pd o (w.1 + 1) = some d) (r : Adv pd o (w.1 + 1, d) w') : Adv pd o w w'
def admQ (wm : WM) : List T3 := wm.zipIdx.map fun p => (p.1.2, ((p.2 : Nat) : Int), p.1.1 + 1)
theorem enum_pairs (wm : WM) : enumD (wm.map pairI) = wm.zipIdx.map fun p => D.tup [.int (p.2 : Nat), pairI p.1] := by
  unfold enumD
  rw [List.zipIdx_map, List.map_map]
  rfl
section
variable {T : List DDef} {f0 f1 f2 f3 f4 f5 f6 f7 : Nat} [P : QuT T f0 f1 f2 f3 f4 f5 f6 f7]
include P
theorem newQ_spec {n m : Nat} (hm : m ≤ 1000) {S : Sto} {k : WK} (h : k (qD (List.replicate m (0, 0)) []) S) : Run T (n + 1) f0 [.int m] S k := by
  refine run_of P.h0 rfl ?_
  walk_at "w"
  refine ⟨⟨rfl, by show 1 ≤ 1000; decide, by omega, by omega⟩, ?_⟩
  rw [Int.toNat_natCast, rep_zeroQ]
  exact h
theorem dupQ_spec {n : Nat} (wm : WM) (pd : List T3) (st : T3) (h0 : 0 ≤ st.2.1) (h1 : st.2.1 < wm.length) (hz : pd.length ≤ 1000) {S : Sto} {k : WK} (h : k (.bl (dupB (wq wm st) pd st)) S) : Run T (n + 1) f1 [qD wm pd, tripI st] S k := by
  refine run_of P.h1 rfl ?_
  walk_at "w"
  refine ⟨rfl, ?_⟩
  walk_at "w"
  refine ⟨rfl, ?_⟩
  walk_at "w"
  rw [wq_at h0 h1]
  walk_at "w"
  unfold dupB at h
  refine ⟨fun e => ?_, fun e => ?_⟩
  · have e : decide (st.2.2 ≤ (wq wm st).1) = true := e
    rw [e] at h
    exact h
  · have e : decide (st.2.2 ≤ (wq wm st).1) = false := e
    rw [e] at h
    walk_at "w"
    refine ⟨by rw [List.length_map]; show _ < 16777216; omega, ?_⟩
    refine comp_sel tripI (fun _ => true) (fun o => .bl (hitQ st o)) pd _ (fun o _ kk k1 _ => ?_) ?_
    · walk_at "w"
      refine ⟨fun _ => ?_, fun hb => y_end hb⟩
      walk_at "w"
      exact ⟨ints_eqOk [o.2.1, o.2.2] [st.2.1, st.2.2], k1 rfl⟩
    rw [List.filter_eq_self.mpr (fun _ _ => rfl)]
    walk_at "w"
    rw [show (listOf S (.ro (pd.map fun o => D.bl (hitQ st o)))).bind boolsOf = some (pd.map (hitQ st)) from bools_of_map (hitQ st) pd]
    show k (.bl ((pd.map (hitQ st)).any id)) S
    rw [any_id]
    exact h
theorem oooQ_spec {n : Nat} (wm : WM) (pd : List T3) (st : T3) (h0 : 0 ≤ st.2.1) (h1 : st.2.1 < wm.length) {S : Sto} {k : WK} (h : k (.bl (oooB (wq wm st) pd st)) S) : Run T (n + 1) f2 [qD wm pd, tripI st] S k := by
  refine run_of P.h2 rfl ?_
  walk_at "w"
  refine ⟨rfl, ?_⟩
  walk_at "w"
  refine ⟨rfl, ?_⟩
  walk_at "w"
  rw [wq_at h0 h1]
  walk_at "w"
  unfold oooB at h
  refine ⟨fun e => ?_, fun e => ?_⟩
  · have e : decide (st.1 < (wq wm st).2) = true := e
    rw [e] at h
    exact h
  · have e : decide (st.1 < (wq wm st).2) = false := e
    rw [e] at h
    walk_at "w"
    refine ⟨trivial, ?_⟩
    refine for_inv (Run_mono T n) (fun j σ S1 => S1 = S ∧ (pd.take j).any (oooP st) = false ∧ ∃ (v2 v3 : D) (v7 v8 v9 : Option D), σ = [some (qD wm pd), some (tripI st), some v2, some v3, some (.int st.1), some (.int st.2.1), some (.int st.2.2), v7, v8, v9]) ⟨rfl, rfl, _, _, none, none, none, rfl⟩ ?_ ?_
    · rintro j x σ S1 hx ⟨rfl, hno, v2, v3, v7, v8, v9, rfl⟩
      rw [List.getElem?_map] at hx
      obtain ⟨o, ho, rfl⟩ := Option.map_eq_some_iff.mp hx
      have et : (pd.take (j + 1)).any (oooP st) = oooP st o := by
        rw [List.take_add_one, ho, List.any_append, hno]
        show (false || (oooP st o || false)) = _
        simp
      have hit : oooP st o = true → k (.bl true) S1 := fun e => by
        have : pd.any (oooP st) = true := List.any_eq_true.mpr ⟨o, List.mem_of_getElem? ho, e⟩
        rw [this] at h
        exact h
      walk_at "w"
      refine ⟨rfl, ?_⟩
      walk_at "w"
      refine ⟨rfl, ?_⟩
      by_cases c1 : o.2.1 = st.2.1
      · rw [show (!eqD (.int o.2.1) (.int st.2.1)) = false by rw [c1, eqI_refl]; rfl]
        walk_at "n"
        walk_at "w"
        by_cases c2 : o.2.2 < st.2.2 ∧ st.1 < o.1
        · refine ⟨fun _ => ⟨fun _ => hit (by unfold oooP; rw [decide_eq_true c1, decide_eq_true c2.1, decide_eq_true c2.2]; rfl), fun e => ?_⟩, fun e => ?_⟩
          · exact absurd c2.2 (of_decide_eq_false e)
          · exact absurd c2.1 (of_decide_eq_false e)
        · have rest : wSs (Run T n) [.ite (.andv (.cmp .gt (.var 9) (.var 6)) (.one (.cmp .gt (.var 4) (.var 7)))) [.ret (.bl true)] []] [some (qD wm pd), some (tripI st), some v2, some v3, some (.int st.1), some (.int st.2.1), some (.int st.2.2), some (.int o.1), some (.int o.2.1), some (.int o.2.2)] S1 { nx := fun σ S2 => S2 = S1 ∧ (pd.take (j + 1)).any (oooP st) = false ∧ ∃ (v2 v3 : D) (v7 v8 v9 : Option D), σ = [some (qD wm pd), some (tripI st), some v2, some v3, some (.int st.1), some (.int st.2.1), some (.int st.2.2), v7, v8, v9], rt := k } := by
            walk_at "w"
            by_cases c3 : st.2.2 < o.2.2 ∧ o.1 < st.1
            · refine ⟨fun _ => ⟨fun _ => hit (by unfold oooP; rw [decide_eq_true c1, decide_eq_true c3.1, decide_eq_true c3.2]; simp), fun e => ?_⟩, fun e => ?_⟩
              · exact absurd c3.2 (of_decide_eq_false e)
              · exact absurd c3.1 (of_decide_eq_false e)
            · have no : oooP st o = false := by
                unfold oooP
                rw [decide_eq_true c1, Bool.true_and, Bool.or_eq_false_iff, ← Bool.decide_and, ← Bool.decide_and]
                exact ⟨decide_eq_false c2, decide_eq_false c3⟩
              refine ⟨fun e => ⟨fun e2 => absurd ⟨of_decide_eq_true e, of_decide_eq_true e2⟩ c3, fun _ => ?_⟩, fun _ => ⟨fun hb => n_end hb, fun _ => ?_⟩⟩
              · exact ⟨rfl, by rw [et, no], _, _, _, _, _, rfl⟩
              · exact ⟨rfl, by rw [et, no], _, _, _, _, _, rfl⟩
          refine ⟨fun e => ⟨fun e2 => absurd ⟨of_decide_eq_true e, of_decide_eq_true e2⟩ c2, fun _ => ?_⟩, fun _ => ⟨fun hb => n_end hb, fun _ => ?_⟩⟩
          · exact rest
          · exact rest
      · rw [show (!eqD (.int o.2.1) (.int st.2.1)) = true by rw [eqI_no c1]; rfl]
        walk_at "y"
        have no : oooP st o = false := by
          unfold oooP
          rw [decide_eq_false c1]
          rfl
        exact ⟨rfl, by rw [et, no], _, _, _, _, _, rfl⟩
    · rintro σ S1 ⟨rfl, hno, v2, v3, v7, v8, v9, rfl⟩
      rw [List.length_map, List.take_length] at hno
      rw [hno] at h
      exact h
theorem rejQ_spec {n : Nat} (wm : WM) (pd : List T3) (st : T3) (h0 : 0 ≤ st.2.1) (hz : pd.length ≤ 1000) {S : Sto} {k : WK} (h : k (rejD wm pd st) S) : Run T (n + 2) f3 [qD wm pd, tripI st] S k := by
  refine run_of P.h3 rfl ?_
  unfold rejD at h
  walk_at "w"
  refine ⟨rfl, ?_⟩
  walk_at "w"
  rw [List.length_map]
  refine ⟨fun e => ?_, fun e => ?_⟩
  · have e : (wm.length : Int) ≤ st.2.1 := of_decide_eq_true e
    rw [if_pos e] at h
    exact h
  · have e : ¬ (wm.length : Int) ≤ st.2.1 := of_decide_eq_false e
    rw [if_neg e] at h
    walk_at "w"
    refine dupQ_spec wm pd st h0 (by omega) hz ?_
    cases hd : dupB (wq wm st) pd st with
    | true =>
      rw [hd, if_pos rfl] at h
      walk_at "w"
      walk_at "y"
      exact h
    | false =>
      rw [hd, if_neg Bool.false_ne_true] at h
      walk_at "w"
      walk_at "n"
      walk_at "w"
      refine oooQ_spec wm pd st h0 (by omega) ?_
      cases ho : oooB (wq wm st) pd st with
      | true =>
        rw [ho, if_pos rfl] at h
        walk_at "w"
        walk_at "y"
        exact h
      | false =>
        rw [ho, if_neg Bool.false_ne_true] at h
        walk_at "w"
        walk_at "n"
        walk_at "w"
        rw [List.length_map]
        refine ⟨fun e => ?_, fun e => ?_⟩
        · have e : (12 : Int) ≤ pd.length := of_decide_eq_true e
          rw [if_pos (by omega)] at h
          exact h
        · have e : ¬ (12 : Int) ≤ pd.length := of_decide_eq_false e
          rw [if_neg (by omega)] at h
          exact h
theorem admQ_spec {n : Nat} (wm : WM) (x : D) (hz : wm.length ≤ 1000) {S : Sto} {k : WK} (h : k (.tup ((admQ wm).map tripI)) S) : Run T (n + 1) f6 [.tup [.tup (wm.map pairI), x]] S k := by
  refine run_of P.h6 rfl ?_
  walk_at "w"
  refine ⟨by rw [enumD_len, List.length_map]; show _ < 16777216; omega, ?_⟩
  rw [enum_pairs]
  refine comp_sel (fun p : (Int × Int) × Nat => D.tup [.int (p.2 : Nat), pairI p.1]) (fun _ => true) (fun p => tripI (p.1.2, ((p.2 : Nat) : Int), p.1.1 + 1)) wm.zipIdx _ (fun o _ kk k1 _ => ?_) ?_
  · walk_at "w"
    refine ⟨rfl, ?_⟩
    walk_at "w"
    refine ⟨rfl, ?_⟩
    refine ⟨fun _ => ?_, fun hb => y_end hb⟩
    exact k1 rfl
  · rw [List.filter_eq_self.mpr (fun _ _ => rfl)]
    unfold admQ at h
    rw [List.map_map] at h
    exact h
theorem awtQ_spec {n : Nat} (wm : WM) (x : D) (h1 : 0 < wm.length) (hz : wm.length ≤ 1000) {S : Sto} {k : WK} (h : ∀ p ∈ admQ wm, (∀ y ∈ admQ wm, lexT y p = false) → k (tripI p) S) : Run T (n + 2) f7 [.tup [.tup (wm.map pairI), x]] S k := by
  refine run_of P.h7 rfl ?_
  walk_at "w"
  refine admQ_spec wm x hz ?_
  have hl : 0 < (admQ wm).length := by
    unfold admQ
    rw [List.length_map, List.length_zipIdx]
    exact h1
  cases e : admQ wm with
  | nil => rw [e] at hl; exact absurd hl (Nat.lt_irrefl _)
  | cons t ts =>
    rw [e] at h
    have hm : minTW (.tup ((t :: ts).map tripI)) S k := by
      unfold minTW
      simp only
      rw [trips_map]
      exact ⟨by simp, h⟩
    exact hm
/-- what advanced makes of a stamp -/
def dcF (o : Int) : D → List D
  | .tup [.int d, .int c, .int q] => if c = o then [.tup [.int q, .int d]] else []
  | _ => []
def OkPd (pd : List T3) : Prop := pd.length ≤ 1000 ∧ (pd.map (·.2)).Nodup
def kvD (o : Int) (pd : List T3) : List D := ((pd.map tripI).map (dcF o)).flatten
omit P in
theorem kvD_cons (o : Int) (t : T3) (pd : List T3) : kvD o (t :: pd) = (if t.2.1 = o then [.tup [.int t.2.2, .int t.1]] else []) ++ kvD o pd := rfl
omit P in
theorem kvD_len (o : Int) : ∀ pd : List T3, (keysD (kvD o pd)).length = (valsD (kvD o pd)).length ∧ (kvD o pd).length ≤ pd.length
  | [] => ⟨rfl, Nat.le_refl _⟩
  | t :: pd => by
    obtain ⟨h1, h2⟩ := kvD_len o pd
    rw [kvD_cons]
    by_cases e : t.2.1 = o
    · rw [if_pos e]
      refine ⟨?_, ?_⟩
      · show (keysD (kvD o pd)).length + 1 = (valsD (kvD o pd)).length + 1
        rw [h1]
      · show (kvD o pd).length + 1 ≤ pd.length + 1
        omega
    · rw [if_neg e]
      exact ⟨h1, by show (kvD o pd).length ≤ pd.length + 1; omega⟩
omit P in
theorem day_cons (t : T3) (pd : List T3) (o s : Int) : dayQ (t :: pd) o s = if t.2 = (o, s) then some t.1 else dayQ pd o s := by
  unfold dayQ
  by_cases e : t.2 = (o, s)
  · rw [if_pos e, List.find?_cons_of_pos (by rw [decide_eq_true e])]
    rfl
  · rw [if_neg e, List.find?_cons_of_neg (by rw [decide_eq_false e]; exact Bool.false_ne_true)]
omit P in
theorem kv_any (o s : Int) : ∀ pd : List T3, (keysD (kvD o pd)).any (isKI s) = (dayQ pd o s).isSome
  | [] => rfl
  | t :: pd => by
    rw [kvD_cons, day_cons]
    have ih := kv_any o s pd
    by_cases e : t.2.1 = o
    · rw [if_pos e]
      show ((t.2.2 == s) || (keysD (kvD o pd)).any (isKI s)) = _
      by_cases e2 : t.2.2 = s
      · rw [if_pos (Prod.ext e e2), e2, beq_self_eq_true]
        rfl
      · rw [if_neg (fun z => e2 (congrArg Prod.snd z)), ih, beq_eq_false_iff_ne.mpr e2]
        rfl
    · rw [if_neg e, if_neg (fun z => e (congrArg Prod.fst z))]
      exact ih
omit P in
theorem kv_look (o s : Int) : ∀ (pd : List T3) (d : Int), dayQ pd o s = some d → lookD (keysD (kvD o pd)) (valsD (kvD o pd)) (.inl s) = some (.int d)
  | [], d, h => by cases h
  | t :: pd, d, h => by
    rw [day_cons] at h
    rw [kvD_cons]
    by_cases e : t.2.1 = o
    · rw [if_pos e]
      show (if keyEq (.inl t.2.2) (.inl s) = true then some (D.int t.1) else lookD (keysD (kvD o pd)) (valsD (kvD o pd)) (.inl s)) = _
      by_cases e2 : t.2.2 = s
      · rw [if_pos (Prod.ext e e2)] at h
        cases h
        rw [if_pos (by show (t.2.2 == s) = true; rw [e2, beq_self_eq_true])]
      · rw [if_neg (fun z => e2 (congrArg Prod.snd z))] at h
        rw [if_neg (by show ¬ (t.2.2 == s) = true; rw [beq_eq_false_iff_ne.mpr e2]; exact Bool.false_ne_true)]
        exact kv_look o s pd d h
    · rw [if_neg e]
      rw [if_neg (fun z => e (congrArg Prod.fst z))] at h
      exact kv_look o s pd d h
omit P in
theorem kv_new {o : Int} {pre : List T3} {t : T3} {post : List T3} (h : ((pre ++ t :: post).map (·.2)).Nodup) (e : t.2.1 = o) : Sum.inl t.2.2 ∉ keysD (kvD o pre) := by
  intro hm
  have h1 : (keysD (kvD o pre)).any (isKI t.2.2) = true := List.any_eq_true.mpr ⟨_, hm, by show (t.2.2 == t.2.2) = true; exact beq_self_eq_true _⟩
  rw [kv_any] at h1
  unfold dayQ at h1
  rw [Option.isSome_map] at h1
  obtain ⟨q, hq⟩ := Option.isSome_iff_exists.mp h1
  have h2 := List.find?_some hq
  have h3 := List.mem_of_find?_eq_some hq
  have h2 : q.2 = (o, t.2.2) := of_decide_eq_true h2
  rw [List.map_append, List.nodup_append] at h
  refine h.2.2 q.2 (List.mem_map.mpr ⟨q, h3, rfl⟩) t.2 (List.mem_map.mpr ⟨t, List.mem_cons_self, rfl⟩) ?_
  rw [h2, ← e]
/-- how many stand beyond -/
def aheadQ (pd : List T3) (s : Int) : Nat := (pd.filter fun p => decide (s < p.2.2)).length
omit P in
theorem ahead_lt {pd : List T3} {o s d : Int} (h : dayQ pd o (s + 1) = some d) : aheadQ pd (s + 1) < aheadQ pd s := by
  unfold dayQ at h
  obtain ⟨q, hq, _⟩ := Option.map_eq_some_iff.mp h
  have h2 := List.find?_some hq
  have h2 : q.2 = (o, s + 1) := of_decide_eq_true h2
  have h3 := List.mem_of_find?_eq_some hq
  clear h hq
  have q2 : q.2.2 = s + 1 := by rw [h2]
  unfold aheadQ
  induction pd with
  | nil => cases h3
  | cons t pd ih =>
    have le : (pd.filter fun p => decide (s + 1 < p.2.2)).length ≤ (pd.filter fun p => decide (s < p.2.2)).length := by
      clear ih h3
      induction pd with
      | nil => exact Nat.le_refl _
      | cons u pd ih =>
        by_cases c : s + 1 < u.2.2
        · rw [List.filter_cons_of_pos (by rw [decide_eq_true c]), List.filter_cons_of_pos (by rw [decide_eq_true (show s < u.2.2 by omega)])]
          exact Nat.succ_le_succ ih
        · rw [List.filter_cons_of_neg (by rw [decide_eq_false c]; exact Bool.false_ne_true)]
          by_cases c2 : s < u.2.2
          · rw [List.filter_cons_of_pos (by rw [decide_eq_true c2])]
            exact Nat.le_succ_of_le ih
          · rw [List.filter_cons_of_neg (by rw [decide_eq_false c2]; exact Bool.false_ne_true)]
            exact ih
    rcases List.mem_cons.mp h3 with rfl | h3
    · rw [List.filter_cons_of_neg (by rw [decide_eq_false (by omega)]; exact Bool.false_ne_true), List.filter_cons_of_pos (by rw [decide_eq_true (by omega)])]
      exact Nat.lt_succ_of_le le
    · by_cases c : s + 1 < t.2.2
      · rw [List.filter_cons_of_pos (by rw [decide_eq_true c]), List.filter_cons_of_pos (by rw [decide_eq_true (show s < t.2.2 by omega)])]
        exact Nat.succ_lt_succ (ih h3)
      · rw [List.filter_cons_of_neg (by rw [decide_eq_false c]; exact Bool.false_ne_true)]
        by_cases c2 : s < t.2.2
        · rw [List.filter_cons_of_pos (by rw [decide_eq_true c2])]
          exact Nat.lt_succ_of_lt (ih h3)
        · rw [List.filter_cons_of_neg (by rw [decide_eq_false c2]; exact Bool.false_ne_true)]
          exact ih h3
theorem advQ_spec {n : Nat} (w : Int × Int) (o : Int) (pd : List T3) (ok : OkPd pd) {S : Sto} {k : WK} (h : ∀ w', Adv pd o w w' → k (pairI w') S) : Run T (n + 1) f4 [pairI w, .int o, .tup (pd.map tripI)] S k := by
  refine run_of P.h4 rfl ?_
  walk_at "w"
  refine ⟨rfl, ?_⟩
  walk_at "w"
  refine ⟨trivial, ?_⟩
  refine acc_pre (dcF o) (pd.map tripI) [] _ (fun pre x post he kk hk => ?_) rfl ?_
  · obtain ⟨pre', r, e1, e2, e3⟩ := List.map_eq_append_iff.mp he.symm
    obtain ⟨t, post', e4, e5, e6⟩ := List.map_eq_cons_iff.mp e3
    subst e2
    subst e5
    subst e4
    have hnd := ok.2
    rw [e1] at hnd
    have hln := (kvD_len o pre').2
    have hpl : pre'.length ≤ 1000 := by
      have := ok.1
      rw [e1, List.length_append] at this
      omega
    walk_at "w"
    refine ⟨rfl, ?_⟩
    by_cases c : t.2.1 = o
    · rw [c, eqI_refl]
      refine ⟨fun _ => ?_, fun hb => y_end hb⟩
      walk_at "w"
      refine ⟨⟨?_, kv_new hnd c⟩, ?_⟩
      · show (kvD o pre').length < 16777216
        omega
      · have hk : kk (((pre'.map tripI).map (dcF o)).flatten ++ (if t.2.1 = o then [.tup [.int t.2.2, .int t.1]] else [])) S := hk
        rw [if_pos c] at hk
        exact hk
    · rw [eqI_no c]
      refine ⟨fun hb => n_end hb, fun _ => ?_⟩
      have hk : kk (((pre'.map tripI).map (dcF o)).flatten ++ (if t.2.1 = o then [.tup [.int t.2.2, .int t.1]] else [])) S := hk
      rw [if_neg c, List.append_nil] at hk
      exact hk
  · rw [show ((pd.map tripI).map (dcF o)).flatten = kvD o pd from rfl]
    walk_at "w"
    refine ⟨fun μ σ S1 => S1 = S ∧ ∃ (s d : Int) (v6 : Option D), σ = [some (pairI w), some (.int o), some (.tup (pd.map tripI)), some (.dic (keysD (kvD o pd)) (valsD (kvD o pd))), some (.int s), some (.int d), v6] ∧ μ = aheadQ pd s ∧ ∀ w', Adv pd o (s, d) w' → Adv pd o w w', ⟨_, rfl, w.1, w.2, none, rfl, rfl, fun w' r => r⟩, ?_⟩
    rintro μ σ S1 ⟨rfl, s, d, v6, rfl, rfl, hA⟩
    walk_at "w"
    refine ⟨(kvD_len o pd).1, ?_⟩
    rw [kv_any]
    cases hd : dayQ pd o (s + 1) with
    | none =>
      refine ⟨(fun hb => by cases hb), fun _ => ?_⟩
      walk_at "w"
      exact h _ (hA _ (.stop hd))
    | some d' =>
      refine ⟨fun _ => ?_, fun hb => by cases hb⟩
      walk_at "w"
      rw [kv_look o (s + 1) pd d' hd]
      exact ⟨_, ahead_lt hd, rfl, s + 1, d', v6, rfl, rfl, fun w' r => hA w' (.step hd r)⟩
omit P in
theorem lexLt_trip (a b : T3) : HT.lexLt [a.1, a.2.1, a.2.2] [b.1, b.2.1, b.2.2] = lexT a b := by
  unfold lexT
  rw [HT.lexLt_cons, HT.lexLt_cons, HT.lexLt_cons, HT.lexLt_nil_nil]
  split
  · split
    · split
      · rename_i e; rw [e]; exact (decide_eq_false (Int.lt_irrefl _)).symm
      · rfl
    · rfl
  · rfl
omit P in
theorem sortT_W {x : D} {S : Sto} {k : List D → Prop} {ts : List T3} (e : seqOf S x = some (ts.map tripI)) (h : ∀ ts' : List T3, ts'.Perm ts → ts'.Pairwise leT → k (ts'.map tripI)) : sortW x S k := by
  unfold sortW
  rw [e]
  cases ts with
  | nil =>
    show ∀ ns' : List Int, _
    intro ns' hp _
    have := hp.eq_nil
    subst this
    exact h [] (List.Perm.refl _) List.Pairwise.nil
  | cons t ts =>
    have hm : (match tripsOf ((t :: ts).map tripI) with
        | some ts => ∀ ts' : List T3, ts'.Perm ts → ts'.Pairwise leT → k (ts'.map tripI)
        | none => False) := by
      rw [trips_map]
      exact h
    exact hm
omit P in
theorem set_appQ (S : Sto) (a b : List D) : (S ++ [a]).set S.length b = S ++ [b] := by
  rw [List.set_append_right _ _ (Nat.le_refl _), Nat.sub_self]
  rfl
/-- one that is taken: what holds of the queue behind it -/
structure SubQ (wm : WM) (pd : List T3) (st : T3) (pr : List T3) (wm' : WM) (pd' : List T3) : Prop where
  ex : ∃ (ts : List T3) (w' : Int × Int) (aw : T3), ts.Perm (pd ++ [st]) ∧ ts.Pairwise leT ∧ Adv ts st.2.1 (wq wm st) w' ∧ wm' = wm.set st.2.1.toNat w' ∧ aw ∈ admQ wm' ∧ (∀ y ∈ admQ wm', lexT y aw = false) ∧ pr = ts.filter (fun t => lexT t aw) ∧ pd' = ts.drop pr.length
omit P in
theorem rej_non {wm : WM} {pd : List T3} {st : T3} (h : isNonD (rejD wm pd st) = true) : st.2.1 < wm.length ∧ dupB (wq wm st) pd st = false ∧ oooB (wq wm st) pd st = false ∧ pd.length < 12 := by
  unfold rejD at h
  split at h
  · cases h
  · split at h
    · cases h
    · split at h
      · cases h
      · split at h
        · cases h
        · rename_i a b c d
          exact ⟨by omega, by simpa using b, by simpa using c, by omega⟩
theorem subQ_spec {n : Nat} (wm : WM) (pd : List T3) (st : T3) (h0 : 0 ≤ st.2.1) (ok : OkPd pd) (hw : wm.length ≤ 1000) {S : Sto} {k : WK}
    (h1 : isNonD (rejD wm pd st) = false → k (.tup [rejD wm pd st, .tup [], qD wm pd]) S)
    (h2 : isNonD (rejD wm pd st) = true → ∀ (pr : List T3) (wm' : WM) (pd' : List T3) S', SubQ wm pd st pr wm' pd' → Keep S S' → k (.tup [.non, .tup (pr.map tripI), qD wm' pd']) S') : Run T (n + 3) f5 [qD wm pd, tripI st] S k := by
  refine run_of P.h5 rfl ?_
  walk_at "w"
  refine rejQ_spec (n := n) wm pd st h0 ok.1 ?_
  walk_at "w"
  refine ⟨fun e => ?_, fun e => ?_⟩
  · exact h1 (by simpa using e)
  · have e : isNonD (rejD wm pd st) = true := by simpa using e
    have h2 := h2 e
    obtain ⟨r1, r2, r3, r4⟩ := rej_non e
    walk_at "w"
    refine ⟨by rw [List.length_map]; show _ + 1 ≤ 16777216; omega, ?_⟩
    walk_at "w"
    refine sortT_W (ts := pd ++ [st]) (by rw [List.map_append]; rfl) fun ts hp hs => ?_
    have ts_len : ts.length = pd.length + 1 := by rw [hp.length_eq, List.length_append]; rfl
    have okt : OkPd ts := by
      refine ⟨by omega, ?_⟩
      rw [(hp.map (·.2)).nodup_iff, List.map_append, List.nodup_append]
      refine ⟨ok.2, by simp, fun a ha b hb z => ?_⟩
      obtain ⟨q, hq, rfl⟩ := List.mem_map.mp ha
      have hb : b = st.2 := by simpa using hb
      unfold dupB at r2
      rw [Bool.or_eq_false_iff] at r2
      have := List.any_eq_false.mp r2.2 q hq
      rw [hitQ_eq, decide_eq_true_eq] at this
      exact this (z.trans hb)
    walk_at "w"
    have eS : (S ++ [wm.map pairI])[S.length]? = some (wm.map pairI) := List.getElem?_concat_length ..
    rw [show seqOf (S ++ [wm.map pairI]) (.ptr S.length) = _ from eS]
    walk_at "w"
    rw [wq_at h0 r1]
    walk_at "w"
    refine advQ_spec (n := n + 1) (wq wm st) st.2.1 ts okt fun w' hw' => ?_
    walk_at "w"
    rw [eS]
    walk_at "w"
    rw [show ixN (wm.map pairI).length st.2.1 = some st.2.1.toNat from (congrArg (ixN _) (show st.2.1 = ((st.2.1.toNat : Nat) : Int) by omega)).trans (ixN_nat (by rw [List.length_map]; omega))]
    walk_at "w"
    rw [set_appQ, ← List.map_set]
    have hl2 : (wm.set st.2.1.toNat w').length = wm.length := List.length_set ..
    generalize hwm : wm.set st.2.1.toNat w' = wm' at hl2
    have eS2 : (S ++ [wm'.map pairI])[S.length]? = some (wm'.map pairI) := List.getElem?_concat_length ..
    rw [show seqOf (S ++ [wm'.map pairI]) (.ptr S.length) = _ from eS2]
    walk_at "w"
    refine awtQ_spec (n := n) wm' _ (by omega) (by omega) fun aw ha1 ha2 => ?_
    walk_at "w"
    refine ⟨by rw [List.length_map]; show _ < 16777216; have := ok.1; omega, ?_⟩
    refine comp_sel tripI (fun t => lexT t aw) tripI ts _ (fun t _ kk k1 k2 => ?_) ?_
    · walk_at "w"
      rw [show HT.lexLt [t.1, t.2.1, t.2.2] [aw.1, aw.2.1, aw.2.2] = lexT t aw from lexLt_trip t aw]
      exact ⟨k1, k2⟩
    walk_at "w"
    rw [show seqOf (S ++ [wm'.map pairI]) (.ptr S.length) = _ from eS2]
    walk_at "w"
    have hle : (ts.filter fun t => lexT t aw).length ≤ ts.length := List.length_filter_le _ _
    rw [List.length_map, cutD_drop (ts.map tripI) (by rw [List.length_map]; exact hle), ← List.map_drop]
    exact h2 _ wm' _ _ ⟨ts, w', aw, hp, hs, hw', hwm.symm, ha1, ha2, rfl, rfl⟩ (Keep.app _ _)
end
end Ov
-- OvQm
/-! The queue of stamps: what holds from step to step. Mathematics. -/
namespace Ov
open PySem L2
theorem trip_ext {a b : T3} (h1 : a.1 = b.1) (h2 : a.2.1 = b.2.1) (h3 : a.2.2 = b.2.2) : a = b := Prod.ext h1 (Prod.ext h2 h3)
theorem lexT_tot {a b : T3} (h : lexT b a = false) (ne : a ≠ b) : lexT a b = true := by
  have h := lexT_no.mp h
  refine lexT_iff.mpr ?_
  by_cases c : a.1 < b.1
  · exact .inl c
  · by_cases d : a.2.1 < b.2.1
    · exact .inr ⟨by omega, .inl d⟩
    · by_cases f : a.2.2 < b.2.2
      · exact .inr ⟨by omega, .inr ⟨by omega, f⟩⟩
      · exact absurd (trip_ext (by omega) (by omega) (by omega)) ne
theorem lexT_lt_le {a b c : T3} (h1 : lexT a b = true) (h2 : lexT c b = false) : lexT a c = true := by
  have h1 := lexT_iff.mp h1
  have h2 := lexT_no.mp h2
  exact lexT_iff.mpr (by omega)
theorem lexT_asym {a b : T3} (h : lexT a b = true) : lexT b a = false := by
  have h := lexT_iff.mp h
  exact lexT_no.mpr (by omega)
theorem leT_anti {a b : T3} (h1 : leT a b) (h2 : leT b a) : a = b := by
  have h1 := lexT_no.mp h1
  have h2 := lexT_no.mp h2
  exact trip_ext (by omega) (by omega) (by omega)
theorem front_of {aw : T3} : ∀ {ts : List T3}, ts.Pairwise leT → (ts.filter fun t => lexT t aw) ++ ts.drop (ts.filter fun t => lexT t aw).length = ts
  | [], _ => rfl
  | t :: ts, h => by
    obtain ⟨h1, h2⟩ := List.pairwise_cons.mp h
    cases e : lexT t aw with
    | true =>
      rw [List.filter_cons_of_pos (p := fun t => lexT t aw) e]
      show t :: (_ ++ ts.drop _) = t :: ts
      rw [front_of h2]
    | false =>
      have : (t :: ts).filter (fun t => lexT t aw) = [] := List.filter_eq_nil_iff.mpr fun u hu => by
        rcases List.mem_cons.mp hu with rfl | hu
        · rw [e]; exact Bool.false_ne_true
        · have a := lexT_no.mp (h1 u hu)
          have b := lexT_no.mp e
          rw [show lexT u aw = false from lexT_no.mpr (by omega)]
          exact Bool.false_ne_true
      rw [this]
      rfl
theorem adm_mem {wm : WM} {a : T3} : a ∈ admQ wm ↔ ∃ (i : Nat) (w : Int × Int), wm[i]? = some w ∧ a = (w.2, (i : Int), w.1 + 1) := by
  unfold admQ
  constructor
  · intro h
    obtain ⟨⟨w, i⟩, hp, rfl⟩ := List.mem_map.mp h
    exact ⟨i, w, List.mem_zipIdx_iff_getElem?.mp hp, rfl⟩
  · rintro ⟨i, w, hw, rfl⟩
    exact List.mem_map.mpr ⟨(w, i), List.mem_zipIdx_iff_getElem?.mpr hw, rfl⟩
theorem wq_get {wm : WM} {st : T3} (h0 : 0 ≤ st.2.1) (h1 : st.2.1 < wm.length) : wm[st.2.1.toNat]? = some (wq wm st) := by
  have h : st.2.1.toNat < wm.length := by omega
  unfold wq
  rw [List.getD_eq_getElem?_getD, List.getElem?_eq_getElem h]
  rfl
theorem adv_mono {ts : List T3} {o : Int} (hm : ∀ p ∈ ts, ∀ q ∈ ts, p.2.1 = q.2.1 → p.2.2 < q.2.2 → p.1 ≤ q.1) {w w' : Int × Int} (h : Adv ts o w w') : (∀ p ∈ ts, p.2.1 = o → w.1 < p.2.2 → w.2 ≤ p.1) →
    w.1 ≤ w'.1 ∧ w.2 ≤ w'.2 ∧ ∀ p ∈ ts, p.2.1 = o → w'.1 < p.2.2 → w'.2 ≤ p.1 := by
  induction h with
  | stop _ => exact fun h => ⟨Int.le_refl _, Int.le_refl _, h⟩
  | @step w w' d hd _ ih =>
    intro h
    unfold dayQ at hd
    obtain ⟨q, hq, rfl⟩ := Option.map_eq_some_iff.mp hd
    have h2 := List.find?_some hq
    have h2 : q.2 = (o, w.1 + 1) := of_decide_eq_true h2
    have h3 := List.mem_of_find?_eq_some hq
    have q1 : q.2.1 = o := by rw [h2]
    have q2 : q.2.2 = w.1 + 1 := by rw [h2]
    have a := h q h3 q1 (by omega)
    obtain ⟨b1, b2, b3⟩ := ih fun p hp ho hl => hm q h3 p hp (by rw [q1, ho]) (by
      have hl : w.1 + 1 < p.2.2 := hl
      omega)
    have b1 : w.1 + 1 ≤ w'.1 := b1
    have b2 : q.1 ≤ w'.2 := b2
    exact ⟨by omega, by omega, b3⟩
structure QI (m : Nat) (wm : WM) (pd gone acc : List T3) : Prop where
  len : wm.length = m
  nd : (pd.map (·.2)).Nodup
  asc : (gone ++ pd).Pairwise (fun a b => lexT a b = true)
  perm : (gone ++ pd).Perm acc
  low : ∀ g ∈ gone, ∀ a ∈ admQ wm, lexT g a = true
  up : ∀ p ∈ pd, ∀ w, wm[p.2.1.toNat]? = some w → w.1 < p.2.2 → w.2 ≤ p.1
  mono : ∀ p ∈ pd, ∀ q ∈ pd, p.2.1 = q.2.1 → p.2.2 < q.2.2 → p.1 ≤ q.1
  off : ∀ p ∈ pd, 0 ≤ p.2.1
  few : pd.length ≤ 12
theorem QI.new (m : Nat) : QI m (List.replicate m (0, 0)) [] [] [] := ⟨List.length_replicate .., List.nodup_nil, List.Pairwise.nil, List.Perm.refl _, (fun g h => nomatch h), (fun g h => nomatch h), (fun g h => nomatch h), (fun g h => nomatch h), Nat.zero_le _⟩
theorem ge_adm {wm : WM} {pd : List T3} {st : T3} (h0 : 0 ≤ st.2.1) (h1 : st.2.1 < wm.length) (hd : dupB (wq wm st) pd st = false) (ho : oooB (wq wm st) pd st = false) : ∃ a ∈ admQ wm, a.2.1 = st.2.1 ∧ a = ((wq wm st).2, st.2.1, (wq wm st).1 + 1) ∧ lexT st a = false := by
  refine ⟨((wq wm st).2, st.2.1, (wq wm st).1 + 1), adm_mem.mpr ⟨st.2.1.toNat, wq wm st, wq_get h0 h1, by rw [Int.toNat_of_nonneg h0]⟩, rfl, rfl, ?_⟩
  unfold dupB at hd
  unfold oooB at ho
  rw [Bool.or_eq_false_iff] at hd ho
  have a := of_decide_eq_false hd.1
  have b := of_decide_eq_false ho.1
  exact lexT_no.mpr (by simp only; omega)
theorem QI.step {m : Nat} {wm : WM} {pd gone acc : List T3} (I : QI m wm pd gone acc) {st : T3} (h0 : 0 ≤ st.2.1) (hr : isNonD (rejD wm pd st) = true) {pr : List T3} {wm' : WM} {pd' : List T3} (s : SubQ wm pd st pr wm' pd') : QI m wm' pd' (gone ++ pr) (acc ++ [st]) := by
  obtain ⟨ts, w', aw, hp, hs, hA, rfl, ha1, ha2, rfl, rfl⟩ := s
  obtain ⟨r1, r2, r3, r4⟩ := rej_non hr
  have hmem : ∀ p ∈ ts, p ∈ pd ∨ p = st := fun p h => by
    have := hp.mem_iff.mp h
    rcases List.mem_append.mp this with h | h
    · exact .inl h
    · exact .inr (List.mem_singleton.mp h)
  obtain ⟨a0, a1, a2, a3, a4⟩ := ge_adm h0 r1 r2 r3
  have dn : ∀ p ∈ pd, p.2 ≠ st.2 := fun p h z => by
    unfold dupB at r2
    rw [Bool.or_eq_false_iff] at r2
    have := List.any_eq_false.mp r2.2 p h
    rw [hitQ_eq, decide_eq_true_eq] at this
    exact this z
  have w1 : (wq wm st).1 < st.2.2 ∧ (wq wm st).2 ≤ st.1 := by
    unfold dupB at r2
    unfold oooB at r3
    rw [Bool.or_eq_false_iff] at r2 r3
    have a := of_decide_eq_false r2.1
    have b := of_decide_eq_false r3.1
    omega
  have oo : ∀ p ∈ pd, p.2.1 = st.2.1 → (p.2.2 < st.2.2 → p.1 ≤ st.1) ∧ (st.2.2 < p.2.2 → st.1 ≤ p.1) := fun p h e => by
    unfold oooB at r3
    rw [Bool.or_eq_false_iff] at r3
    have := List.any_eq_false.mp r3.2 p h
    unfold oooP at this
    rw [decide_eq_true e] at this
    simp only [Bool.true_and, Bool.or_eq_true, Bool.and_eq_true, decide_eq_true_eq, not_or, not_and] at this
    exact ⟨fun c => by have := this.1 c; omega, fun c => by have := this.2 c; omega⟩
  have mono : ∀ p ∈ ts, ∀ q ∈ ts, p.2.1 = q.2.1 → p.2.2 < q.2.2 → p.1 ≤ q.1 := fun p h q h' e l => by
    rcases hmem p h with h | rfl <;> rcases hmem q h' with h' | rfl
    · exact I.mono p h q h' e l
    · exact (oo p h e).1 l
    · exact (oo q h' e.symm).2 l
    · exact Int.le_refl _
  have off : ∀ p ∈ ts, 0 ≤ p.2.1 := fun p h => by
    rcases hmem p h with h | rfl
    · exact I.off p h
    · exact h0
  have up : ∀ p ∈ ts, ∀ w, wm[p.2.1.toNat]? = some w → w.1 < p.2.2 → w.2 ≤ p.1 := fun p h w hw hl => by
    rcases hmem p h with h | rfl
    · exact I.up p h w hw hl
    · rw [wq_get h0 r1] at hw
      cases hw
      exact w1.2
  have gw := wq_get h0 r1
  obtain ⟨b1, b2, b3⟩ := adv_mono mono hA fun p hp ho hl => up p hp (wq wm st) (by rw [ho]; exact gw) hl
  have front : (ts.filter fun t => lexT t aw) ++ ts.drop (ts.filter fun t => lexT t aw).length = ts := front_of hs
  have ndt : (ts.map (·.2)).Nodup := by
    rw [(hp.map (·.2)).nodup_iff, List.map_append, List.nodup_append]
    refine ⟨I.nd, by simp, fun a ha b hb z => ?_⟩
    obtain ⟨q, hq, rfl⟩ := List.mem_map.mp ha
    have hb : b = st.2 := by simpa using hb
    exact dn q hq (z.trans hb)
  have strict : ts.Pairwise (fun a b => lexT a b = true) := by
    have n2 : ts.Pairwise (fun a b => a.2 ≠ b.2) := by
      have := List.nodup_iff_pairwise_ne.mp ndt
      rw [List.pairwise_map] at this
      exact this
    exact (hs.and n2).imp fun {a b} h => lexT_tot h.1 fun e => h.2 (by rw [e])
  obtain ⟨c1, c2, c3⟩ := List.pairwise_append.mp I.asc
  have lowst : ∀ g ∈ gone, lexT g st = true := fun g hg => lexT_lt_le (I.low g hg a0 a1) a4
  have asc : (gone ++ ts).Pairwise (fun a b => lexT a b = true) := List.pairwise_append.mpr ⟨c1, strict, fun g hg t ht => by
    rcases hmem t ht with h | rfl
    · exact c3 g hg t h
    · exact lowst g hg⟩
  have ol : st.2.1.toNat < wm.length := by omega
  refine ⟨by rw [List.length_set]; exact I.len, ?_, by rw [List.append_assoc, front]; exact asc, ?_, ?_, ?_, fun p h q h' => mono p (List.mem_of_mem_drop h) q (List.mem_of_mem_drop h'), fun p h => off p (List.mem_of_mem_drop h), ?_⟩
  · exact ndt.sublist ((List.drop_sublist _ _).map _)
  · rw [List.append_assoc, front]
    refine (hp.append_left gone).trans ?_
    rw [← List.append_assoc]
    exact I.perm.append_right [st]
  · intro g hg y hy
    rcases List.mem_append.mp hg with hg | hg
    · obtain ⟨i, w, hw, rfl⟩ := adm_mem.mp hy
      by_cases e : st.2.1.toNat = i
      · subst e
        rw [List.getElem?_set_self ol] at hw
        cases hw
        refine lexT_lt_le (I.low g hg a0 a1) ?_
        rw [a3]
        exact lexT_no.mpr (by simp only; rw [Int.toNat_of_nonneg h0]; omega)
      · rw [List.getElem?_set_ne e] at hw
        exact I.low g hg _ (adm_mem.mpr ⟨i, w, hw, rfl⟩)
    · exact lexT_lt_le (List.mem_filter.mp hg).2 (ha2 y hy)
  · intro p h w hw hl
    have h := List.mem_of_mem_drop h
    by_cases e : st.2.1.toNat = p.2.1.toNat
    · rw [← e, List.getElem?_set_self ol] at hw
      cases hw
      have := off p h
      exact b3 p h (by omega) hl
    · rw [List.getElem?_set_ne e] at hw
      exact up p h w hw hl
  · rw [List.length_drop]
    have := hp.length_eq
    rw [List.length_append] at this
    have : ts.length = pd.length + 1 := this
    omega
/-- an earlier one than one that is gone: a duplicate, or out of order -/
theorem QI.early {m : Nat} {wm : WM} {pd gone acc : List T3} (I : QI m wm pd gone acc) {e last : T3} (h0 : 0 ≤ e.2.1) (h1 : e.2.1 < m) (hl : last ∈ gone) (h : lexT e last = true) : rejD wm pd e = .str "duplicate" ∨ rejD wm pd e = .str "day out of order" := by
  have h2 : e.2.1 < wm.length := by rw [I.len]; exact h1
  unfold rejD
  rw [if_neg (by omega)]
  cases hd : dupB (wq wm e) pd e with
  | true => rw [if_pos rfl]; exact .inl rfl
  | false =>
    rw [if_neg Bool.false_ne_true]
    cases ho : oooB (wq wm e) pd e with
    | true => rw [if_pos rfl]; exact .inr rfl
    | false =>
      exfalso
      obtain ⟨a, a1, _, _, a4⟩ := ge_adm h0 h2 hd ho
      have := lexT_lt_le (I.low last hl a a1) a4
      rw [lexT_asym h] at this
      cases this
end Ov
-- OvQg
namespace Ov
open PySem L2
local macro_rules | `(tactic| walk_at "w") => `(tactic| conv => whnf)
local macro_rules | `(tactic| walk_at "y") => `(tactic| refine ⟨fun _ => ?_, fun hb => y_end hb⟩)
local macro_rules | `(tactic| walk_at "n") => `(tactic| refine ⟨fun hb => n_end hb, fun _ => ?_⟩)
def dDayQ (fd : Nat) : DDef :=
  ⟨"_law_day", ["tape", "own", "number", "low", "after", "choice", "stamp"], 3, [
    .asg (.nm 3) (.bi .max [(.bin .add (.ls [(.int 0)]) (.comp false (.idx (.var 6) (.int 0)) (.nm 6) [("stamp", 6)] .sq [(.var 1)] (some (.cmp .lt (.idx (.var 6) (.int 2)) (.var 2)))))]),
    .asg (.nm 4) (.comp false (.idx (.var 6) (.int 0)) (.nm 6) [("stamp", 6)] .sq [(.var 1)] (some (.cmp .gt (.idx (.var 6) (.int 2)) (.var 2)))),
    .asg (.nm 5) (.call fd [(.var 0), (.int 12)]),
    .ite (.cmp .eq (.var 5) (.int 10)) [
      .ret (.bi .max [(.int 0), (.bin .sub (.var 3) (.int 1))])] [],
    .ite (.cmp .eq (.var 5) (.int 11)) [
      .ret (.bi .min [(.int 400), (.bin .add (.bi .max [(.bin .add (.ls [(.var 3)]) (.var 4))]) (.int 1))])] [],
    .ite (.tru (.var 4)) [
      .ret (.bin .add (.var 3) (.call fd [(.var 0), (.bi .max [(.int 1), (.bin .add (.bin .sub (.bi .min [(.var 4)]) (.var 3)) (.int 1))])]))] [],
    .ret (.bi .min [(.int 400), (.bin .add (.var 3) (.idx (.ls [(.int 0), (.int 0), (.int 0), (.int 1), (.int 1), (.int 2), (.int 3), (.int 7), (.int 30), (.int 200)]) (.var 5)))])]⟩
def dStampQ (fd fy : Nat) : DDef :=
  ⟨"_law_stamp", ["tape", "stamps", "offices", "held", "office", "choice", "own", "numbers", "number", "k", "stamp"], 4, [
    .asg (.nm 4) (.call fd [(.var 0), (.var 2)]),
    .asg (.nm 5) (.call fd [(.var 0), (.idx (.ls [(.int 9), (.int 7)]) (.bi .int [(.var 3)]))]),
    .ite (.cmp .eq (.var 5) (.int 8)) [
      .ret (.tup [(.call fd [(.var 0), (.int 401)]), (.call fd [(.var 0), (.int 10)]), (.bin .add (.int 1) (.call fd [(.var 0), (.int 1000)]))])] [],
    .asg (.nm 6) (.comp false (.var 10) (.nm 10) [("stamp", 10)] .sq [(.var 1)] (some (.cmp .eq (.idx (.var 10) (.int 1)) (.var 4)))),
    .asg (.nm 7) (.comp false (.idx (.var 10) (.int 2)) (.nm 10) [("stamp", 10)] .sq [(.var 6)] none),
    .asg (.nm 8) (.bin .add (.int 1) (.bi .int [(.var 3)])),
    .forS (.nm 9) .rg [(.bi .len [(.var 6)])] [
      .ite (.cmp .isIn (.var 8) (.var 7)) [
        .asg (.nm 8) (.bin .add (.var 8) (.int 1))] []],
    .ite (.cmp .eq (.var 5) (.int 6)) [
      .asg (.nm 8) (.bi .min [(.int 1000), (.bin .add (.bin .add (.var 8) (.int 1)) (.call fd [(.var 0), (.int 3)]))])] [],
    .ite (.andv (.cmp .eq (.var 5) (.int 7)) (.one (.tru (.var 7)))) [
      .asg (.nm 8) (.idx (.var 7) (.call fd [(.var 0), (.bi .len [(.var 7)])]))] [],
    .ret (.tup [(.call fy [(.var 0), (.var 6), (.var 8)]), (.var 4), (.var 8)])]⟩
def dManyQ (fd : Nat) : DDef :=
  ⟨"_law_many", ["tape", "most"], 2, [
    .ret (.idx (.ls [(.var 1), (.var 1), (.bin .fdiv (.var 1) (.int 2)), (.call fd [(.var 0), (.bin .add (.var 1) (.int 1))])]) (.call fd [(.var 0), (.int 4)]))]⟩
def dAscQ : DDef :=
  ⟨"_law_ascending", ["stamps", "k"], 1, [
    .ret (.cmp .eq (.bi .len [(.comp false (.var 1) (.nm 1) [("k", 1)] .rg [(.int 1), (.bi .len [(.var 0)])] (some (.notv (.cmp .lt (.idx (.var 0) (.bin .sub (.var 1) (.int 1))) (.idx (.var 0) (.var 1))))))]) (.int 0))]⟩
def D4 (a : List T3) : Prop := ∀ p ∈ a, 0 ≤ p.1 ∧ p.1 ≤ 400
/-! ### days and stamps -/
theorem at_inQ {xs : List D} {r : Int} (h0 : 0 ≤ r) (h1 : r < xs.length) : ∃ x ∈ xs, atI xs r = some x :=
  have h : r.toNat < xs.length := by omega
  ⟨xs[r.toNat], List.getElem_mem h, at_nat h0 (List.getElem?_eq_getElem h)⟩
theorem dayQ_spec {T : List DDef} {fy fd n : Nat} (hy : T[fy]? = some (dDayQ fd)) (hdr : T[fd]? = some dDraw) {S : Sto} {t : Nat} (ht : Tape S t) (own : List T3) (hd : D4 own) (hz : own.length ≤ 1000) (num : Int) {k : WK} (h : ∀ (d : Int) S', 0 ≤ d → d ≤ 400 → Tape S' t → KeepB t S S' → k (.int d) S') : Run T (n + 2) fy [.ptr t, .ro (own.map tripI), .int num] S k := by
  refine run_of hy rfl ?_
  walk_at "w"
  refine ⟨by rw [List.length_map]; show _ < 16777216; omega, ?_⟩
  refine comp_sel tripI (fun o => decide (o.2.2 < num)) (fun o => .int o.1) own _ (fun o _ kk k1 k2 => ?_) ?_
  · walk_at "w"
    exact ⟨k1, k2⟩
  have e1 : (own.filter fun o => decide (o.2.2 < num)).map (fun o => D.int o.1) = ((own.filter fun o => decide (o.2.2 < num)).map (·.1)).map .int := by rw [List.map_map]; rfl
  rw [e1]
  have b1 : ∀ x ∈ (own.filter fun o => decide (o.2.2 < num)).map (·.1), 0 ≤ x ∧ x ≤ 400 := fun x hx => by
    obtain ⟨o, ho, rfl⟩ := List.mem_map.mp hx
    exact hd o (List.mem_filter.mp ho).1
  have l1 : ((own.filter fun o => decide (o.2.2 < num)).map (·.1)).length ≤ 1000 := by rw [List.length_map]; have := List.length_filter_le (fun o : T3 => decide (o.2.2 < num)) own; omega
  generalize (own.filter fun o => decide (o.2.2 < num)).map (·.1) = A at b1 l1
  walk_at "w"
  refine ⟨by rw [List.length_map]; show 1 + _ ≤ 16777216; omega, ?_⟩
  walk_at "w"
  rw [show (seqOf S (.ro ([D.int 0] ++ A.map D.int))).bind intsOf = some (0 :: A) from ints_map (0 :: A)]
  refine ⟨by show 0 < A.length + 1; omega, fun low hl _ => ?_⟩
  have hlow : 0 ≤ low ∧ low ≤ 400 := by
    rcases List.mem_cons.mp hl with rfl | hl
    · exact ⟨by decide, by decide⟩
    · exact b1 low hl
  walk_at "w"
  refine ⟨by rw [List.length_map]; show _ < 16777216; omega, ?_⟩
  refine comp_sel tripI (fun o => decide (num < o.2.2)) (fun o => .int o.1) own _ (fun o _ kk k1 k2 => ?_) ?_
  · walk_at "w"
    exact ⟨k1, k2⟩
  have e2 : (own.filter fun o => decide (num < o.2.2)).map (fun o => D.int o.1) = ((own.filter fun o => decide (num < o.2.2)).map (·.1)).map .int := by rw [List.map_map]; rfl
  rw [e2]
  have b2 : ∀ x ∈ (own.filter fun o => decide (num < o.2.2)).map (·.1), 0 ≤ x ∧ x ≤ 400 := fun x hx => by
    obtain ⟨o, ho, rfl⟩ := List.mem_map.mp hx
    exact hd o (List.mem_filter.mp ho).1
  have l2 : ((own.filter fun o => decide (num < o.2.2)).map (·.1)).length ≤ 1000 := by rw [List.length_map]; have := List.length_filter_le (fun o : T3 => decide (num < o.2.2)) own; omega
  generalize (own.filter fun o => decide (num < o.2.2)).map (·.1) = B at b2 l2
  walk_at "w"
  refine draw_spec (many := 12) hdr ht (by decide) fun c S1 c0 c1 ht1 kb1 _ => ?_
  have c1 : c < 12 := c1
  walk_at "w"
  refine ⟨rfl, ?_⟩
  refine ⟨fun _ => ?_, fun n10 => ?_⟩
  · walk_at "w"
    exact h _ S1 (by split <;> omega) (by split <;> omega) ht1 kb1
  have n10 := eqI_f n10
  walk_at "w"
  refine ⟨rfl, ?_⟩
  refine ⟨fun _ => ?_, fun n11 => ?_⟩
  · walk_at "w"
    refine ⟨by rw [List.length_map]; show 1 + _ ≤ 16777216; omega, ?_⟩
    walk_at "w"
    rw [show (seqOf S1 (.ro ([D.int low] ++ B.map D.int))).bind intsOf = some (low :: B) from ints_map (low :: B)]
    refine ⟨by show 0 < B.length + 1; omega, fun mx hl _ => ?_⟩
    have hmx : 0 ≤ mx ∧ mx ≤ 400 := by
      rcases List.mem_cons.mp hl with rfl | hl
      · exact hlow
      · exact b2 mx hl
    walk_at "w"
    exact h _ S1 (by split <;> omega) (by split <;> omega) ht1 kb1
  have n11 := eqI_f n11
  cases hB : B with
  | nil =>
    walk_at "w"
    walk_at "n"
    walk_at "w"
    obtain ⟨x, hx, ex⟩ := at_inQ (xs := [D.int 0, .int 0, .int 0, .int 1, .int 1, .int 2, .int 3, .int 7, .int 30, .int 200]) c0 (by show c < 10; omega)
    rw [ex]
    have hv : ∃ v : Int, x = .int v ∧ 0 ≤ v := by
      simp only [List.mem_cons, List.not_mem_nil, or_false] at hx
      rcases hx with rfl | rfl | rfl | rfl | rfl | rfl | rfl | rfl | rfl | rfl <;> exact ⟨_, rfl, by decide⟩
    obtain ⟨v, rfl, v0⟩ := hv
    walk_at "w"
    exact h _ S1 (by split <;> omega) (by split <;> omega) ht1 kb1
  | cons x B' =>
    rw [hB] at b2 l2
    walk_at "w"
    walk_at "y"
    walk_at "w"
    rw [show (seqOf S1 (.ro ((x :: B').map D.int))).bind intsOf = some (x :: B') from ints_map (x :: B')]
    refine ⟨by show 0 < B'.length + 1; omega, fun mi hm _ => ?_⟩
    have hmi := b2 mi hm
    walk_at "w"
    refine draw_spec hdr ht1 (by split <;> omega) fun r S2 r0 r1 ht2 kb2 _ => ?_
    have r2 : r ≤ 400 - low := by
      rw [Int.max_def] at r1
      split at r1 <;> (try split at r1) <;> omega
    walk_at "w"
    exact h _ S2 (by omega) (by omega) ht2 (kb1.trans kb2)
theorem comp_selL {α : Type} {body : D → Sto → (Bool → D → Sto → Prop) → Prop} {all : List D} {S : Sto} {q : Nat} (hq : S[q]? = some all) (g : α → D) (p : α → Bool) (f : α → D) : ∀ (ys : List α) (k : List D → Sto → Prop),
    (∀ y ∈ ys, ∀ kk : Bool → D → Sto → Prop, (p y = true → kk true (f y) S) → (p y = false → kk false .non S) → body (g y) S kk) → k ((ys.filter p).map f) S → compW body (some q) all (ys.map g) S k
  | [], k, _, h => ⟨hq, h⟩
  | y :: ys, k, hb, h => by
    refine ⟨hq, hb y List.mem_cons_self _ (fun e => ?_) fun e => ?_⟩
    · rw [List.filter_cons_of_pos e] at h
      exact comp_selL hq g p f ys _ (fun z hz => hb z (List.mem_cons_of_mem _ hz)) h
    · rw [List.filter_cons_of_neg (by rw [e]; exact Bool.false_ne_true)] at h
      exact comp_selL hq g p f ys _ (fun z hz => hb z (List.mem_cons_of_mem _ hz)) h
/-- the stamps so far: a list that is read, or one that may change -/
def StL (t : Nat) (S : Sto) (x : D) (acc : List T3) : Prop := x = .ro (acc.map tripI) ∨ ∃ q : Nat, q ≠ t ∧ x = .ptr q ∧ S[q]? = some (acc.map tripI)
theorem StL.keep {t : Nat} {S S' : Sto} {x : D} {acc : List T3} (h : StL t S x acc) (kb : KeepB t S S') : StL t S' x acc := by
  rcases h with h | ⟨q, hq, h, e⟩
  · exact .inl h
  · exact .inr ⟨q, hq, h, kb.2 _ _ hq e⟩
theorem stampQ_spec {T : List DDef} {fs fy fd n : Nat} (hs : T[fs]? = some (dStampQ fd fy)) (hy : T[fy]? = some (dDayQ fd)) (hdr : T[fd]? = some dDraw) (held : Bool) {S : Sto} {t : Nat} {x : D} (ht : Tape S t) {acc : List T3} (hx : StL t S x acc) (hd : D4 acc) (hp : ∀ p ∈ acc, 1 ≤ p.2.2) (hz : acc.length ≤ 1000) {m : Int} (m0 : 1 ≤ m) (m1 : m ≤ 3) {k : WK}
    (h : ∀ (st : T3) S', 0 ≤ st.1 → st.1 ≤ 400 → 0 ≤ st.2.1 → 1 ≤ st.2.2 → Tape S' t → KeepB t S S' → k (tripI st) S') : Run T (n + 3) fs [.ptr t, x, .int m, .bl held] S k := by
  refine run_of hs rfl ?_
  walk_at "w"
  refine draw_spec hdr ht (by omega) fun o S1 o0 o1 ht1 kb1 _ => ?_
  walk_at "w"
  have eh : ∃ z : Int, atI [D.int 9, .int 7] (if held = true then 1 else 0) = some (.int z) ∧ z < 1073741824 := by
    cases held
    · exact ⟨9, rfl, by decide⟩
    · exact ⟨7, rfl, by decide⟩
  obtain ⟨z, ez, zl⟩ := eh
  rw [ez]
  refine draw_spec hdr ht1 zl fun c S2 c0 c1 ht2 kb2 _ => ?_
  have e2 := hx.keep (kb1.trans kb2)
  walk_at "w"
  refine ⟨rfl, fun _ => ?_, fun _ => ?_⟩
  · walk_at "w"
    refine draw_spec (many := 401) hdr ht2 (by decide) fun a S3 a0 a1 ht3 kb3 _ => ?_
    have a1 : a < 401 := a1
    rw [wEs]
    walk_at "w"
    refine draw_spec (many := 10) hdr ht3 (by decide) fun b S4 b0 b1 ht4 kb4 _ => ?_
    rw [wEs]
    walk_at "w"
    refine draw_spec (many := 1000) hdr ht4 (by decide) fun d S5 d0 d1 ht5 kb5 _ => ?_
    exact h (a, b, 1 + d) S5 a0 (by show a ≤ 400; omega) b0 (by show 1 ≤ 1 + d; omega) ht5 ((((kb1.trans kb2).trans kb3).trans kb4).trans kb5)
  · have rest : ∀ own : List T3, D4 own → (∀ p ∈ own, 1 ≤ p.2.2) → own.length ≤ 1000 → wSs (Run T (n + 2)) ((dStampQ fd fy).body.drop 4) [some (.ptr t), some x, some (.int m), some (.bl held), some (.int o), some (.int c), some (.ro (own.map tripI)), none, none, none, none] S2 { nx := fun _ S1 => k .non S1, rt := k } := by
      intro own ho hp1 hoz
      walk_at "w"
      refine ⟨by rw [List.length_map]; show _ < 16777216; omega, ?_⟩
      refine comp_sel tripI (fun _ => true) (fun p => .int p.2.2) own _ (fun p _ kk k1 _ => ?_) ?_
      · walk_at "w"
        refine ⟨fun _ => ?_, fun hb => y_end hb⟩
        exact k1 rfl
      rw [List.filter_eq_self.mpr (fun _ _ => rfl), show own.map (fun p => D.int p.2.2) = (own.map (·.2.2)).map .int by rw [List.map_map]; rfl]
      have hnl : (own.map (·.2.2)).length = own.length := List.length_map _
      have hN1 : ∀ v ∈ own.map (·.2.2), 1 ≤ v := fun v hv => by
        obtain ⟨p, hp, rfl⟩ := List.mem_map.mp hv
        exact hp1 p hp
      generalize own.map (·.2.2) = N at hnl hN1
      walk_at "w"
      rw [List.length_map]
      refine ⟨⟨by omega, by omega⟩, trivial, ?_⟩
      refine for_inv (Run_mono T (n + 2)) (fun i σ S3 => S3 = S2 ∧ ∃ (num : Int) (v9 : Option D), 1 ≤ num ∧ σ = [some (.ptr t), some x, some (.int m), some (.bl held), some (.int o), some (.int c), some (.ro (own.map tripI)), some (.ro (N.map .int)), some (.int num), v9, none]) ⟨rfl, _, none, by cases held <;> decide, rfl⟩ ?_ ?_
      · rintro i x σ S3 hx ⟨rfl, num, v9, num1, rfl⟩
        obtain ⟨_, rfl⟩ := range_at hx
        walk_at "w"
        refine ⟨rfl, flat_ints N, fun _ => ?_, fun _ => ?_⟩
        · exact ⟨rfl, _, _, by omega, rfl⟩
        · exact ⟨rfl, _, _, num1, rfl⟩
      · rintro σ S3 ⟨rfl, num, v9, num1, rfl⟩
        have kb2' := kb1.trans kb2
        have last : ∀ (num : Int) (S4 : Sto), 1 ≤ num → Tape S4 t → KeepB t S S4 → wSs (Run T (n + 2)) [.ret (.tup [(.call fy [(.var 0), (.var 6), (.var 8)]), (.var 4), (.var 8)])] [some (.ptr t), some x, some (.int m), some (.bl held), some (.int o), some (.int c), some (.ro (own.map tripI)), some (.ro (N.map .int)), some (.int num), v9, none] S4 { nx := fun _ S1 => k .non S1, rt := k } := by
          intro num S4 num1 ht4 kb4
          walk_at "w"
          refine dayQ_spec hy hdr ht4 own ho hoz num fun d S5 d0 d1 ht5 kb5 => ?_
          exact h (d, o, num) S5 d0 d1 o0 num1 ht5 (kb4.trans kb5)
        have mid : ∀ (num : Int) (S4 : Sto), 1 ≤ num → Tape S4 t → KeepB t S S4 → wSs (Run T (n + 2)) ((dStampQ fd fy).body.drop 8) [some (.ptr t), some x, some (.int m), some (.bl held), some (.int o), some (.int c), some (.ro (own.map tripI)), some (.ro (N.map .int)), some (.int num), v9, none] S4 { nx := fun _ S1 => k .non S1, rt := k } := by
          intro num S4 num1 ht4 kb4
          walk_at "w"
          refine ⟨rfl, fun _ => ?_, fun _ => ⟨(fun hb => by cases hb), fun _ => last num S4 num1 ht4 kb4⟩⟩
          cases hN : N with
          | nil =>
            walk_at "n"
            rw [← hN]
            exact last num S4 num1 ht4 kb4
          | cons y N' =>
            walk_at "y"
            walk_at "w"
            refine draw_spec hdr ht4 (by rw [List.length_map]; rw [hN] at hnl; omega) fun r S5 r0 r1 ht5 kb5 _ => ?_
            have r1 : r < ((y :: N').map D.int).length := by
              have : 0 < ((y :: N').map D.int).length := by simp
              rw [Int.max_def] at r1
              split at r1 <;> omega
            walk_at "w"
            obtain ⟨x, hx, ex⟩ := at_inQ r0 r1
            obtain ⟨v, hv, rfl⟩ := List.mem_map.mp hx
            rw [ex]
            have hv1 := hN1 v (by rw [hN]; exact hv)
            rw [← hN]
            exact last v S5 hv1 ht5 (kb4.trans kb5)
        walk_at "w"
        refine ⟨rfl, fun _ => ?_, fun _ => mid num S3 num1 ht2 kb2'⟩
        walk_at "w"
        refine draw_spec (many := 3) hdr ht2 (by decide) fun r S4 r0 _ ht4 kb4 _ => ?_
        exact mid _ S4 (by split <;> omega) ht4 (kb2'.trans kb4)
    have ho : D4 (acc.filter fun p => eqD (.int p.2.1) (.int o)) := fun p hp => hd p (List.mem_filter.mp hp).1
    have hp1 : ∀ p ∈ acc.filter fun p => eqD (.int p.2.1) (.int o), 1 ≤ p.2.2 := fun p h => hp p (List.mem_filter.mp h).1
    have hoz : (acc.filter fun p => eqD (.int p.2.1) (.int o)).length ≤ 1000 := Nat.le_trans (List.length_filter_le _ _) hz
    have done := rest _ ho hp1 hoz
    rcases e2 with rfl | ⟨q, hq, rfl, e2⟩
    · walk_at "w"
      refine ⟨by rw [List.length_map]; show _ < 16777216; omega, ?_⟩
      refine comp_sel tripI (fun p => eqD (.int p.2.1) (.int o)) tripI acc _ (fun p _ kk k1 k2 => ?_) ?_
      · walk_at "w"
        exact ⟨rfl, k1, k2⟩
      exact done
    · walk_at "w"
      rw [e2]
      refine ⟨by rw [List.length_map]; show _ < 16777216; omega, ?_⟩
      refine comp_selL e2 tripI (fun p => eqD (.int p.2.1) (.int o)) tripI acc _ (fun p _ kk k1 k2 => ?_) ?_
      · walk_at "w"
        exact ⟨rfl, k1, k2⟩
      exact done
theorem manyQ_spec {T : List DDef} {fm fd n : Nat} (hm : T[fm]? = some (dManyQ fd)) (hdr : T[fd]? = some dDraw) {S : Sto} {t : Nat} (ht : Tape S t) {k : WK} (h : ∀ (w : Nat) S', w ≤ 24 → Tape S' t → KeepB t S S' → k (.int w) S') : Run T (n + 2) fm [.ptr t, .int 24] S k := by
  refine run_of hm rfl ?_
  walk_at "w"
  refine ⟨by decide, ?_⟩
  walk_at "w"
  refine draw_spec (many := 25) hdr ht (by decide) fun c S1 c0 c1 ht1 kb1 _ => ?_
  have c1 : c < 25 := c1
  rw [wEs]
  walk_at "w"
  refine draw_spec (many := 4) hdr ht1 (by decide) fun r S2 r0 r1 ht2 kb2 _ => ?_
  have r1 : r < 4 := r1
  walk_at "w"
  obtain ⟨x, hx, ex⟩ := at_inQ (xs := [D.int 24, .int 24, .int (24 / 2), .int c]) r0 r1
  rw [ex]
  have hv : ∃ v : Nat, x = .int v ∧ v ≤ 24 := by
    simp only [List.mem_cons, List.not_mem_nil, or_false] at hx
    rcases hx with rfl | rfl | rfl | rfl
    · exact ⟨24, rfl, by decide⟩
    · exact ⟨24, rfl, by decide⟩
    · exact ⟨12, rfl, by decide⟩
    · exact ⟨c.toNat, by rw [Int.toNat_of_nonneg c0], by omega⟩
  obtain ⟨v, rfl, v1⟩ := hv
  exact h v S2 v1 ht2 (kb1.trans kb2)
theorem ascQ_spec {T : List DDef} {fa n : Nat} (hf : T[fa]? = some dAscQ) {A : List T3} (ha : A.Pairwise (fun a b => lexT a b = true)) (hz : A.length ≤ 1000) {S : Sto} {k : WK} (h : k (.bl true) S) : Run T (n + 1) fa [.ro (A.map tripI)] S k := by
  refine run_of hf rfl ?_
  walk_at "w"
  rw [List.length_map]
  refine ⟨⟨⟨by decide, by decide⟩, by omega, by omega⟩, ?_⟩
  refine ⟨by rw [rangeD_len]; show _ < 16777216; omega, ?_⟩
  refine comp_pure (fun _ => false) (fun _ => .non) _ _ (fun y hy kk hkk => ?_) ?_
  · obtain ⟨i, hi, rfl⟩ := range_mem hy
    have i1 : i + 1 < A.length := by omega
    have a1 : atI (A.map tripI) (1 + (i : Int) - 1) = some (tripI A[i]) := by
      rw [show (1 + (i : Int) - 1) = (i : Nat) by omega]
      exact at_n (by rw [List.getElem?_map, List.getElem?_eq_getElem (show i < A.length by omega)]; rfl)
    have a2 : atI (A.map tripI) (1 + (i : Int)) = some (tripI A[i + 1]) := by
      rw [show (1 + (i : Int)) = ((i + 1 : Nat) : Int) by omega]
      exact at_n (by rw [List.getElem?_map, List.getElem?_eq_getElem i1]; rfl)
    walk_at "w"
    rw [a1]
    walk_at "w"
    rw [a2]
    walk_at "w"
    have hl := List.pairwise_iff_getElem.mp ha i (i + 1) (by omega) i1 (by omega)
    generalize A[i] = a at hl
    generalize A[i + 1] = b at hl
    rw [show HT.lexLt [a.1, a.2.1, a.2.2] [b.1, b.2.1, b.2.2] = lexT a b from lexLt_trip a b, hl]
    exact ⟨(fun hb => by cases hb), fun _ => hkk⟩
  · have e : ∀ xs : List D, collect (fun _ => false) (fun _ => .non) xs = [] := fun xs => by
      unfold collect
      rw [List.filter_eq_nil_iff.mpr (fun a _ => Bool.false_ne_true)]
      rfl
    rw [e]
    walk_at "w"
    exact ⟨rfl, h⟩
theorem trips_good {ts : List T3} : goods 1 (ts.map tripI) := by
  induction ts with
  | nil => trivial
  | cons t ts ih => exact ⟨⟨by show (3 : Nat) < 1000000; decide, trivial, trivial, trivial, trivial⟩, ih⟩
theorem q_good {wm : WM} {pd : List T3} (h1 : wm.length ≤ 1000) (h2 : pd.length ≤ 1000) : good 3 (qD wm pd) := by
  have p1 : ∀ ws : WM, goods 1 (ws.map pairI) := fun ws => by
    induction ws with
    | nil => trivial
    | cons w ws ih => exact ⟨⟨by show (2 : Nat) < 1000000; decide, trivial, trivial, trivial⟩, ih⟩
  exact ⟨by show (2 : Nat) < 1000000; decide, ⟨by rw [List.length_map]; omega, p1 wm⟩, ⟨by rw [List.length_map]; omega, trips_good⟩, trivial⟩
end Ov
-- OvQn
/-! The next stamp of an office, as the laws of the queue tell it. -/
namespace Ov
open PySem L2
local macro_rules | `(tactic| walk_at "w") => `(tactic| conv => whnf)
local macro_rules | `(tactic| walk_at "y") => `(tactic| refine ⟨fun _ => ?_, fun hb => y_end hb⟩)
local macro_rules | `(tactic| walk_at "n") => `(tactic| refine ⟨fun hb => n_end hb, fun _ => ?_⟩)
def dNextS : DDef :=
  ⟨"_law_next", ["accepted", "office", "day", "number", "pair", "stamp"], 2, [
    .asg (.nm 2) (.int 0),
    .asg (.nm 3) (.int 1),
    .forS (.nm 4) .sq [(.bi .sorted [(.comp false (.tup [(.idx (.var 5) (.int 2)), (.idx (.var 5) (.int 0))]) (.nm 5) [("stamp", 5)] .sq [(.var 0)] (some (.cmp .eq (.idx (.var 5) (.int 1)) (.var 1))))])] [
      .ite (.cmp .ne (.idx (.var 4) (.int 0)) (.var 3)) [
        .brk] [],
      .asg (.nm 2) (.idx (.var 4) (.int 1)),
      .asg (.nm 3) (.bin .add (.var 3) (.int 1))],
    .ret (.tup [(.var 2), (.var 1), (.var 3)])]⟩
/-- days and numbers, as long as the numbers run on -/
def runQ : List (Int × Int) → Int × Int → Int × Int
  | [], x => x
  | p :: ps, x => if p.1 = x.2 then runQ ps (p.2, x.2 + 1) else x
def numsQ (acc : List T3) (o : Int) : List (Int × Int) := srtP ((acc.filter fun p => eqD (.int p.2.1) (.int o)).map fun p => (p.2.2, p.1))
def nextQ (acc : List T3) (o : Int) : T3 := ((runQ (numsQ acc o) (0, 1)).1, o, (runQ (numsQ acc o) (0, 1)).2)
theorem nextQ_spec {T : List DDef} {f n : Nat} (hf : T[f]? = some dNextS) (acc : List T3) (o : Int) (hz : acc.length ≤ 1000) {S : Sto} {x : D} (hx : x = .ro (acc.map tripI) ∨ ∃ q : Nat, x = .ptr q ∧ S[q]? = some (acc.map tripI)) {k : WK} (h : k (tripI (nextQ acc o)) S) : Run T (n + 1) f [x, .int o] S k := by
  refine run_of hf rfl ?_
  have loop : ∀ {E : DEnds}, (∀ v4 : Option D, E.nx [some x, some (.int o), some (.int (runQ (numsQ acc o) (0, 1)).1), some (.int (runQ (numsQ acc o) (0, 1)).2), v4, none] S) →
      ∀ (ps : List (Int × Int)) (pre : List (Int × Int)) (d m : Int) (v4 : Option D), pre ++ ps = numsQ acc o → runQ ps (d, m) = runQ (numsQ acc o) (0, 1) →
      forW (forB (Run T n) (.nm 4) [.ite (.cmp .ne (.idx (.var 4) (.int 0)) (.var 3)) [.brk] [], .asg (.nm 2) (.idx (.var 4) (.int 1)), .asg (.nm 3) (.bin .add (.var 3) (.int 1))]) none ((numsQ acc o).map pairI) (ps.map pairI) [some x, some (.int o), some (.int d), some (.int m), v4, none] S E := by
    intro E hE ps
    induction ps with
    | nil =>
      intro pre d m v4 _ hr
      have hr : (d, m) = runQ (numsQ acc o) (0, 1) := hr
      refine ⟨trivial, ?_⟩
      have := hE v4
      rw [← hr] at this
      exact this
    | cons p ps ih =>
      intro pre d m v4 he hr
      refine ⟨trivial, ?_⟩
      have hr : (if p.1 = m then runQ ps (p.2, m + 1) else (d, m)) = runQ (numsQ acc o) (0, 1) := hr
      walk_at "w"
      refine ⟨rfl, ?_⟩
      by_cases c : p.1 = m
      · rw [if_pos c] at hr
        rw [c, eqI_refl]
        walk_at "n"
        exact ih (pre ++ [p]) p.2 (m + 1) _ (by rw [List.append_assoc]; exact he) hr
      · rw [if_neg c] at hr
        rw [eqI_no c]
        walk_at "y"
        have := hE (some (pairI p))
        rw [← hr] at this
        exact this
  rcases hx with rfl | ⟨q, rfl, e⟩
  · walk_at "w"
    refine ⟨by rw [List.length_map]; show _ < 16777216; omega, ?_⟩
    refine comp_sel tripI (fun p => eqD (.int p.2.1) (.int o)) (fun p => pairI (p.2.2, p.1)) acc _ (fun p _ kk k1 k2 => ?_) ?_
    · walk_at "w"
      exact ⟨rfl, k1, k2⟩
    walk_at "w"
    refine sortW_pairs (ps := (acc.filter fun p => eqD (.int p.2.1) (.int o)).map fun p => (p.2.2, p.1)) (by rw [List.map_map]; rfl) ?_
    walk_at "w"
    refine ⟨trivial, ?_⟩
    exact loop (fun v4 => h) (numsQ acc o) [] 0 1 none rfl rfl
  · walk_at "w"
    rw [e]
    refine ⟨by rw [List.length_map]; show _ < 16777216; omega, ?_⟩
    refine comp_selL e tripI (fun p => eqD (.int p.2.1) (.int o)) (fun p => pairI (p.2.2, p.1)) acc _ (fun p _ kk k1 k2 => ?_) ?_
    · walk_at "w"
      exact ⟨rfl, k1, k2⟩
    walk_at "w"
    refine sortW_pairs (ps := (acc.filter fun p => eqD (.int p.2.1) (.int o)).map fun p => (p.2.2, p.1)) (by rw [List.map_map]; rfl) ?_
    walk_at "w"
    refine ⟨trivial, ?_⟩
    exact loop (fun v4 => h) (numsQ acc o) [] 0 1 none rfl rfl
end Ov
-- OvQw
/-! The queue's watermarks, told by what was accepted. Mathematics. -/
namespace Ov
open PySem L2
theorem key_inj {acc : List T3} (h : (acc.map (·.2)).Nodup) {p q : T3} (hp : p ∈ acc) (hq : q ∈ acc) (e : p.2 = q.2) : p = q := by
  induction acc with
  | nil => cases hp
  | cons a acc ih =>
    rw [List.map_cons, List.nodup_cons] at h
    rcases List.mem_cons.mp hp with hp1 | hp1 <;> rcases List.mem_cons.mp hq with hq1 | hq1
    · rw [hp1, hq1]
    · exact absurd (List.mem_map.mpr ⟨q, hq1, by rw [← e, hp1]⟩) h.1
    · exact absurd (List.mem_map.mpr ⟨p, hp1, by rw [e, hq1]⟩) h.1
    · exact ih h.2 hp1 hq1
theorem day_none {ts : List T3} {o s : Int} (h : dayQ ts o s = none) : ∀ p ∈ ts, p.2 ≠ (o, s) := by
  unfold dayQ at h
  rw [Option.map_eq_none_iff] at h
  intro p hp e
  have := List.find?_eq_none.mp h p hp
  rw [decide_eq_true e] at this
  exact this rfl
theorem adv_facts {ts : List T3} {o : Int} {w w' : Int × Int} (h : Adv ts o w w') : w.1 ≤ w'.1 ∧ (∀ n, w.1 < n → n ≤ w'.1 → ∃ p ∈ ts, p.2 = (o, n)) ∧ (∀ p ∈ ts, p.2 ≠ (o, w'.1 + 1)) ∧ (w' = w ∨ (w'.2, o, w'.1) ∈ ts) := by
  induction h with
  | stop h => exact ⟨Int.le_refl _, fun n h1 h2 => absurd h1 (by omega), day_none h, .inl rfl⟩
  | @step w w' d hd r ih =>
    obtain ⟨i1, i2, i3, i4⟩ := ih
    have i1 : w.1 + 1 ≤ w'.1 := i1
    unfold dayQ at hd
    obtain ⟨q, hq, rfl⟩ := Option.map_eq_some_iff.mp hd
    have h2 := List.find?_some hq
    have h2 : q.2 = (o, w.1 + 1) := of_decide_eq_true h2
    have h3 := List.mem_of_find?_eq_some hq
    refine ⟨by omega, fun n n1 n2 => ?_, i3, ?_⟩
    · by_cases e : n = w.1 + 1
      · exact ⟨q, h3, by rw [h2, e]⟩
      · exact i2 n (show w.1 + 1 < n by omega) n2
    · rcases i4 with e | e
      · right
        rw [e]
        have : (q.1, o, w.1 + 1) = q := by rw [← h2]
        show (q.1, o, w.1 + 1) ∈ ts
        rw [this]
        exact h3
      · exact .inr e
theorem drop_ge {aw : T3} {ts : List T3} (h : ts.Pairwise leT) : ∀ t ∈ ts.drop (ts.filter fun t => lexT t aw).length, lexT t aw = false := by
  have e := front_of (aw := aw) h
  have e2 : (ts.filter fun t => lexT t aw) ++ (ts.drop (ts.filter fun t => lexT t aw).length).filter (fun t => lexT t aw) = ts.filter fun t => lexT t aw := by
    have := congrArg (List.filter fun t => lexT t aw) e
    rw [List.filter_append, List.filter_filter] at this
    simp only [Bool.and_self] at this
    exact this
  have e3 := List.append_right_eq_self.mp e2
  intro t ht
  have := List.filter_eq_nil_iff.mp e3 t ht
  simpa using this
/-- the watermarks, told by what was accepted -/
structure QW (wm : WM) (pd gone acc : List T3) : Prop where
  keys : (acc.map (·.2)).Nodup
  pos : ∀ p ∈ acc, 1 ≤ p.2.2 ∧ 0 ≤ p.2.1 ∧ p.2.1 < wm.length
  past : ∀ g ∈ gone, ∀ w, wm[g.2.1.toNat]? = some w → g.2.2 ≤ w.1
  full : ∀ (i : Nat) (w : Int × Int), wm[i]? = some w → 0 ≤ w.1 ∧ ∀ n, 1 ≤ n → n ≤ w.1 → ∃ p ∈ acc, p.2 = ((i : Int), n)
  hole : ∀ (i : Nat) (w : Int × Int), wm[i]? = some w → ∀ p ∈ acc, p.2 ≠ ((i : Int), w.1 + 1)
  last : ∀ (i : Nat) (w : Int × Int), wm[i]? = some w → w = (0, 0) ∨ (w.2, (i : Int), w.1) ∈ acc
  down : ∀ p ∈ acc, ∀ w, wm[p.2.1.toNat]? = some w → p.2.2 ≤ w.1 → p.1 ≤ w.2
  high : ∀ a ∈ admQ wm, (∀ y ∈ admQ wm, lexT y a = false) → ∀ t ∈ pd, lexT t a = false
theorem QW.new (m : Nat) : QW (List.replicate m (0, 0)) [] [] [] := by
  refine ⟨List.nodup_nil, (fun g h => nomatch h), (fun g h => nomatch h), fun i w h => ?_, (fun _ _ _ g h => nomatch h), fun i w h => ?_, (fun g h => nomatch h), (fun _ _ _ g h => nomatch h)⟩
  · rw [List.getElem?_replicate] at h
    split at h
    · cases h
      exact ⟨by decide, fun n a b => absurd a (by have b : n ≤ 0 := b; omega)⟩
    · cases h
  · rw [List.getElem?_replicate] at h
    split at h
    · cases h
      exact .inl rfl
    · cases h
theorem adm_least {wm : WM} {a b : T3} (ha : a ∈ admQ wm) (ha2 : ∀ y ∈ admQ wm, lexT y a = false) (hb : b ∈ admQ wm) (hb2 : ∀ y ∈ admQ wm, lexT y b = false) : a = b := leT_anti (hb2 a ha |> fun h => ha2 b hb) (hb2 a ha)
theorem QW.step {m : Nat} {wm : WM} {pd gone acc : List T3} (I : QI m wm pd gone acc) (J : QW wm pd gone acc) {st : T3} (h0 : 0 ≤ st.2.1) (hr : isNonD (rejD wm pd st) = true) {pr : List T3} {wm' : WM} {pd' : List T3} (s : SubQ wm pd st pr wm' pd') : QW wm' pd' (gone ++ pr) (acc ++ [st]) := by
  obtain ⟨ts, w', aw, hp, hs, hA, rfl, ha1, ha2, rfl, rfl⟩ := s
  obtain ⟨r1, r2, r3, r4⟩ := rej_non hr
  have hmem : ∀ p ∈ ts, p ∈ pd ∨ p = st := fun p h => by
    have := hp.mem_iff.mp h
    rcases List.mem_append.mp this with h | h
    · exact .inl h
    · exact .inr (List.mem_singleton.mp h)
  have pdts : ∀ p ∈ pd, p ∈ ts := fun p h => hp.mem_iff.mpr (List.mem_append_left _ h)
  have stts : st ∈ ts := hp.mem_iff.mpr (List.mem_append_right _ List.mem_cons_self)
  have accm : ∀ p ∈ acc, p ∈ gone ∨ p ∈ pd := fun p h => List.mem_append.mp (I.perm.mem_iff.mpr h)
  have pdacc : ∀ p ∈ pd, p ∈ acc := fun p h => I.perm.mem_iff.mp (List.mem_append_right _ h)
  have gw := wq_get h0 r1
  have dn : ∀ p ∈ pd, p.2 ≠ st.2 := fun p h z => by
    unfold dupB at r2
    rw [Bool.or_eq_false_iff] at r2
    have := List.any_eq_false.mp r2.2 p h
    rw [hitQ_eq, decide_eq_true_eq] at this
    exact this z
  have w1 : (wq wm st).1 < st.2.2 ∧ (wq wm st).2 ≤ st.1 := by
    unfold dupB at r2
    unfold oooB at r3
    rw [Bool.or_eq_false_iff] at r2 r3
    have a := of_decide_eq_false r2.1
    have b := of_decide_eq_false r3.1
    omega
  have oo : ∀ p ∈ pd, p.2.1 = st.2.1 → (p.2.2 < st.2.2 → p.1 ≤ st.1) ∧ (st.2.2 < p.2.2 → st.1 ≤ p.1) := fun p h e => by
    unfold oooB at r3
    rw [Bool.or_eq_false_iff] at r3
    have := List.any_eq_false.mp r3.2 p h
    unfold oooP at this
    rw [decide_eq_true e] at this
    simp only [Bool.true_and, Bool.or_eq_true, Bool.and_eq_true, decide_eq_true_eq, not_or, not_and] at this
    exact ⟨fun c => by have := this.1 c; omega, fun c => by have := this.2 c; omega⟩
  have mono : ∀ p ∈ ts, ∀ q ∈ ts, p.2.1 = q.2.1 → p.2.2 < q.2.2 → p.1 ≤ q.1 := fun p h q h' e l => by
    rcases hmem p h with h | rfl <;> rcases hmem q h' with h' | rfl
    · exact I.mono p h q h' e l
    · exact (oo p h e).1 l
    · exact (oo q h' e.symm).2 l
    · exact Int.le_refl _
  have off : ∀ p ∈ ts, 0 ≤ p.2.1 := fun p h => by
    rcases hmem p h with h | rfl
    · exact I.off p h
    · exact h0
  have up : ∀ p ∈ ts, ∀ w, wm[p.2.1.toNat]? = some w → w.1 < p.2.2 → w.2 ≤ p.1 := fun p h w hw hl => by
    rcases hmem p h with h | rfl
    · exact I.up p h w hw hl
    · rw [gw] at hw
      cases hw
      exact w1.2
  obtain ⟨b1, b2, b3⟩ := adv_mono mono hA fun p hp ho hl => up p hp (wq wm st) (by rw [ho]; exact gw) hl
  obtain ⟨f1, f2, f3, f4⟩ := adv_facts hA
  have ol : st.2.1.toNat < wm.length := by omega
  have onat : ((st.2.1.toNat : Nat) : Int) = st.2.1 := Int.toNat_of_nonneg h0
  have keys : ((acc ++ [st]).map (·.2)).Nodup := by
    rw [List.map_append, List.nodup_append]
    refine ⟨J.keys, by simp, fun a ha b hb z => ?_⟩
    obtain ⟨q, hq, rfl⟩ := List.mem_map.mp ha
    have hb : b = st.2 := by simpa using hb
    have z := z.trans hb
    rcases accm q hq with hq | hq
    · have := J.past q hq (wq wm st) (by rw [z]; exact gw)
      rw [z] at this
      omega
    · exact dn q hq z
  have tsacc : ∀ p ∈ ts, p ∈ acc ++ [st] := fun p h => by
    rcases hmem p h with h | rfl
    · exact List.mem_append_left _ (pdacc p h)
    · exact List.mem_append_right _ List.mem_cons_self
  have same : ∀ {i : Nat} {w : Int × Int}, (wm.set st.2.1.toNat w')[i]? = some w → (st.2.1.toNat = i ∧ w = w') ∨ (st.2.1.toNat ≠ i ∧ wm[i]? = some w) := fun {i w} h => by
    by_cases e : st.2.1.toNat = i
    · subst e
      rw [List.getElem?_set_self ol] at h
      cases h
      exact .inl ⟨rfl, rfl⟩
    · rw [List.getElem?_set_ne e] at h
      exact .inr ⟨e, h⟩
  refine ⟨keys, fun p h => ?_, fun g hg w hw => ?_, fun i w hw => ?_, fun i w hw p hp' => ?_, fun i w hw => ?_, fun p hp' w hw hl => ?_, fun a h1 h2 t ht => ?_⟩
  · rw [List.length_set]
    rcases List.mem_append.mp h with h | h
    · exact J.pos p h
    · rw [List.mem_singleton.mp h]
      have := (J.full st.2.1.toNat _ gw).1
      omega
  · rcases List.mem_append.mp hg with hg | hg
    · rcases same hw with ⟨e, rfl⟩ | ⟨_, hw⟩
      · have := J.past g hg (wq wm st) (by rw [← e]; exact gw)
        omega
      · exact J.past g hg w hw
    · obtain ⟨g1, g2⟩ := List.mem_filter.mp hg
      have og := off g g1
      refine Int.not_lt.mp fun hl => ?_
      have hday : w.2 ≤ g.1 := by
        rcases same hw with ⟨e, rfl⟩ | ⟨_, hw⟩
        · exact b3 g g1 (by omega) hl
        · exact up g g1 w hw hl
      have am : (w.2, g.2.1, w.1 + 1) ∈ admQ (wm.set st.2.1.toNat w') := adm_mem.mpr ⟨g.2.1.toNat, w, hw, by rw [Int.toNat_of_nonneg og]⟩
      have := lexT_lt_le g2 (ha2 _ am)
      have := lexT_iff.mp this
      simp only at this
      omega
  · rcases same hw with ⟨e, rfl⟩ | ⟨_, hw⟩
    · have o0 := J.full _ _ gw
      refine ⟨by omega, fun n n1 n2 => ?_⟩
      by_cases c : n ≤ (wq wm st).1
      · obtain ⟨p, hp1, hp2⟩ := o0.2 n n1 c
        exact ⟨p, List.mem_append_left _ hp1, by rw [hp2, e]⟩
      · obtain ⟨p, hp1, hp2⟩ := f2 n (by omega) n2
        exact ⟨p, tsacc p hp1, by rw [hp2, ← e, onat]⟩
    · have o0 := J.full _ _ hw
      refine ⟨o0.1, fun n n1 n2 => ?_⟩
      obtain ⟨p, hp1, hp2⟩ := o0.2 n n1 n2
      exact ⟨p, List.mem_append_left _ hp1, hp2⟩
  · rcases same hw with ⟨e, rfl⟩ | ⟨ne, hw⟩
    · rw [← e, onat]
      have ct : p ∈ ts → p.2 ≠ (st.2.1, w.1 + 1) := f3 p
      rcases List.mem_append.mp hp' with h | h
      · rcases accm p h with h | h
        · intro z
          have := J.past p h (wq wm st) (by rw [z]; exact gw)
          rw [z] at this
          simp only at this
          omega
        · exact ct (pdts p h)
      · rw [List.mem_singleton.mp h]
        exact f3 st stts
    · rcases List.mem_append.mp hp' with h | h
      · exact J.hole i w hw p h
      · rw [List.mem_singleton.mp h]
        intro z
        have : st.2.1 = (i : Int) := by rw [z]
        omega
  · rcases same hw with ⟨e, rfl⟩ | ⟨ne, hw⟩
    · rcases f4 with f4 | f4
      · rcases J.last _ _ gw with h | h
        · exact .inl (by rw [f4, h])
        · refine .inr (List.mem_append_left _ ?_)
          rw [f4, ← e]
          exact h
      · right
        rw [← e, onat]
        exact tsacc _ f4
    · rcases J.last i w hw with h | h
      · exact .inl h
      · exact .inr (List.mem_append_left _ h)
  · have hpo : 0 ≤ p.2.1 := by
      rcases List.mem_append.mp hp' with h | h
      · exact (J.pos p h).2.1
      · rw [List.mem_singleton.mp h]; exact h0
    rcases same hw with ⟨e, rfl⟩ | ⟨ne, hw⟩
    · have eo : p.2.1 = st.2.1 := by omega
      have gone' : p ∈ acc → p.2.2 ≤ (wq wm st).1 → p.1 ≤ w.2 := fun h hl => by
        have := J.down p h (wq wm st) (by rw [eo]; exact gw) hl
        omega
      have inTs : p ∈ ts → p.1 ≤ w.2 := fun h => by
        rcases f4 with f4 | f4
        · subst f4
          rcases hmem p h with h | rfl
          · exact gone' (pdacc p h) hl
          · omega
        · by_cases c : p.2.2 < w.1
          · exact mono p h _ f4 eo c
          · have : p = (w.2, st.2.1, w.1) := key_inj keys hp' (tsacc _ f4) (Prod.ext eo (show p.2.2 = w.1 by omega))
            rw [this]
            exact Int.le_refl _
      rcases List.mem_append.mp hp' with h | h
      · rcases accm p h with h' | h'
        · exact gone' h (J.past p h' (wq wm st) (by rw [eo]; exact gw))
        · exact inTs (pdts p h')
      · rw [List.mem_singleton.mp h] at inTs ⊢
        exact inTs stts
    · rcases List.mem_append.mp hp' with h | h
      · exact J.down p h w hw hl
      · rw [List.mem_singleton.mp h] at ne
        exact absurd rfl ne
  · rw [adm_least h1 h2 ha1 ha2]
    exact drop_ge hs t ht
/-! ### the next stamp of an office -/
theorem run_at : ∀ {ps : List (Int × Int)} {s d w : Int}, ps.Pairwise (fun a b => a.1 < b.1) → (∀ p ∈ ps, s ≤ p.1) → (∀ n, s ≤ n → n ≤ w → ∃ p ∈ ps, p.1 = n) → (∀ p ∈ ps, p.1 ≠ w + 1) → s ≤ w + 1 →
    (runQ ps (d, s)).2 = w + 1 ∧ ((w + 1 = s ∧ (runQ ps (d, s)).1 = d) ∨ (w, (runQ ps (d, s)).1) ∈ ps)
  | [], s, d, w, _, _, h3, _, h5 => by
    have : w + 1 = s := by
      by_cases c : s ≤ w
      · obtain ⟨p, hp, _⟩ := h3 s (Int.le_refl _) c
        cases hp
      · omega
    exact ⟨this.symm, .inl ⟨this, rfl⟩⟩
  | p :: ps, s, d, w, h1, h2, h3, h4, h5 => by
    obtain ⟨a1, a2⟩ := List.pairwise_cons.mp h1
    show (if p.1 = s then runQ ps (p.2, s + 1) else (d, s)).2 = w + 1 ∧ _
    have hs := h2 p List.mem_cons_self
    by_cases c : p.1 = s
    · have sw : s ≤ w := by
        have := h4 p List.mem_cons_self
        omega
      have ih := run_at (d := p.2) (s := s + 1) (w := w) a2 (fun q hq => by have := a1 q hq; omega) (fun n n1 n2 => by
        obtain ⟨q, hq, e⟩ := h3 n (by omega) n2
        rcases List.mem_cons.mp hq with rfl | hq
        · omega
        · exact ⟨q, hq, e⟩) (fun q hq => h4 q (List.mem_cons_of_mem _ hq)) (by omega)
      rw [show runQ (p :: ps) (d, s) = runQ ps (p.2, s + 1) from if_pos c, if_pos c]
      refine ⟨ih.1, .inr ?_⟩
      rcases ih.2 with ⟨e1, e2⟩ | e
      · rw [e2, show w = p.1 by omega]
        exact List.mem_cons_self
      · exact List.mem_cons_of_mem _ e
    · rw [show runQ (p :: ps) (d, s) = (d, s) from if_neg c, if_neg c]
      have : w + 1 = s := by
        by_cases c2 : s ≤ w
        · obtain ⟨q, hq, e⟩ := h3 s (Int.le_refl _) c2
          rcases List.mem_cons.mp hq with rfl | hq
          · exact absurd e c
          · have := a1 q hq
            omega
        · omega
      exact ⟨this.symm, .inl ⟨this, rfl⟩⟩
theorem nums_mem {acc : List T3} {o : Int} {x : Int × Int} : x ∈ numsQ acc o ↔ (x.2, o, x.1) ∈ acc := by
  unfold numsQ
  rw [(srtP_perm _).mem_iff]
  constructor
  · intro h
    obtain ⟨p, hp, rfl⟩ := List.mem_map.mp h
    obtain ⟨h1, h2⟩ := List.mem_filter.mp hp
    rw [← eqI_t h2]
    exact h1
  · intro h
    exact List.mem_map.mpr ⟨_, List.mem_filter.mpr ⟨h, eqI_refl o⟩, rfl⟩
theorem nums_asc {acc : List T3} (h : (acc.map (·.2)).Nodup) (o : Int) : (numsQ acc o).Pairwise fun a b => a.1 < b.1 := by
  have e1 : (acc.filter fun p => eqD (.int p.2.1) (.int o)).Pairwise fun a b => a.2.2 ≠ b.2.2 := by
    rw [List.pairwise_filter]
    have := List.nodup_iff_pairwise_ne.mp h
    rw [List.pairwise_map] at this
    refine this.imp fun {a b} hab ha hb z => hab (Prod.ext ((eqI_t ha).trans (eqI_t hb).symm) z)
  have e2 : (numsQ acc o).Pairwise fun a b => a.1 ≠ b.1 := by
    unfold numsQ
    refine ((srtP_perm _).pairwise_iff fun {a b} h => h.symm).mpr ?_
    rw [List.pairwise_map]
    exact e1
  have e3 : (numsQ acc o).Pairwise leP := srtP_sorted _
  exact (e3.and e2).imp fun {a b} h => by
    have h1 : a.1 < b.1 ∨ (a.1 = b.1 ∧ a.2 ≤ b.2) := h.1
    have h2 := h.2
    omega
theorem next_adm {wm : WM} {pd gone acc : List T3} (J : QW wm pd gone acc) {i : Nat} {w : Int × Int} (hw : wm[i]? = some w) : nextQ acc (i : Int) = (w.2, (i : Int), w.1 + 1) := by
  have f := J.full i w hw
  have r := run_at (d := 0) (s := 1) (w := w.1) (nums_asc J.keys (i : Int)) (fun p hp => (J.pos _ (nums_mem.mp hp)).1) (fun n n1 n2 => by
    obtain ⟨p, hp, e⟩ := f.2 n n1 n2
    exact ⟨(n, p.1), nums_mem.mpr (by show (p.1, (i : Int), n) ∈ acc; rw [← e]; exact hp), rfl⟩) (fun p hp e => J.hole i w hw _ (nums_mem.mp hp) (by show ((i : Int), p.1) = _; rw [e])) (by omega)
  unfold nextQ
  rw [r.1]
  refine trip_ext ?_ rfl rfl
  show (runQ (numsQ acc i) (0, 1)).1 = w.2
  rcases r.2 with ⟨e1, e2⟩ | e
  · rw [e2]
    rcases J.last i w hw with h | h
    · rw [h]
    · have := (J.pos _ h).1
      simp only at this
      omega
  · have e := nums_mem.mp e
    rcases J.last i w hw with h | h
    · have := (J.pos _ e).1
      rw [h] at this
      simp only at this
      omega
    · exact congrArg Prod.fst (key_inj J.keys e h rfl)
theorem next_all {wm : WM} {pd gone acc : List T3} (J : QW wm pd gone acc) : (List.range wm.length).map (fun (i : Nat) => nextQ acc (i : Int)) = admQ wm := by
  refine List.ext_getElem? fun i => ?_
  unfold admQ
  rw [List.getElem?_map, List.getElem?_map]
  by_cases h : i < wm.length
  · rw [List.getElem?_range h, List.getElem?_zipIdx, List.getElem?_eq_getElem h]
    show some (nextQ acc (i : Int)) = some _
    rw [next_adm J (List.getElem?_eq_getElem h)]
    simp
  · rw [List.getElem?_eq_none (by rw [List.length_range]; omega), List.getElem?_eq_none (by rw [List.length_zipIdx]; omega)]
    rfl
end Ov
-- OvQx
/-! The queue as the laws tell it: what is due by the accepted stamps. -/
namespace Ov
open PySem L2
local macro_rules | `(tactic| walk_at "w") => `(tactic| conv => whnf)
local macro_rules | `(tactic| walk_at "y") => `(tactic| refine ⟨fun _ => ?_, fun hb => y_end hb⟩)
local macro_rules | `(tactic| walk_at "n") => `(tactic| refine ⟨fun hb => n_end hb, fun _ => ?_⟩)
theorem adm_ne {wm : WM} (h : 0 < wm.length) : admQ wm ≠ [] := fun z => by
  have := congrArg List.length z
  unfold admQ at this
  rw [List.length_map, List.length_zipIdx] at this
  have : wm.length = 0 := this
  omega
theorem ints_none {ts : List T3} (h0 : ts ≠ []) {S : Sto} : (seqOf S (.tup (ts.map tripI))).bind intsOf = none := by
  cases ts with
  | nil => exact absurd rfl h0
  | cons t ts => rfl
theorem minTW_ok {ts : List T3} (h0 : ts ≠ []) {S : Sto} {k : WK} (h : ∀ p ∈ ts, (∀ y ∈ ts, lexT y p = false) → k (tripI p) S) : minTW (.tup (ts.map tripI)) S k := by
  cases ts with
  | nil => exact absurd rfl h0
  | cons t ts =>
    unfold minTW
    simp only
    rw [trips_map]
    exact ⟨by simp, h⟩
theorem trip_good {a : T3} : good 1 (tripI a) := ⟨by show (3 : Nat) < 1000000; decide, trivial, trivial, trivial, trivial⟩
theorem rej_adm {m : Nat} {wm : WM} {pd gone acc : List T3} (I : QI m wm pd gone acc) (J : QW wm pd gone acc) {a : T3} (ha : a ∈ admQ wm) : rejD wm pd a = if 12 ≤ pd.length then .str "full" else .non := by
  obtain ⟨i, w, hw, rfl⟩ := adm_mem.mp ha
  have il := (List.getElem?_eq_some_iff.mp hw).1
  have e1 : wq wm (w.2, (i : Int), w.1 + 1) = w := by
    have := wq_get (wm := wm) (st := (w.2, (i : Int), w.1 + 1)) (Int.natCast_nonneg _) (by show (i : Int) < wm.length; omega)
    rw [show ((w.2, (i : Int), w.1 + 1) : T3).2.1.toNat = i from Int.toNat_natCast i, hw] at this
    exact (Option.some.inj this).symm
  have pa : ∀ p ∈ pd, p ∈ acc := fun p h => I.perm.mem_iff.mp (List.mem_append_right _ h)
  have d1 : dupB w pd (w.2, (i : Int), w.1 + 1) = false := by
    unfold dupB
    rw [Bool.or_eq_false_iff]
    refine ⟨decide_eq_false (by show ¬ w.1 + 1 ≤ w.1; omega), List.any_eq_false.mpr fun p hp => ?_⟩
    rw [hitQ_eq, decide_eq_true_eq]
    exact J.hole i w hw p (pa p hp)
  have o1 : oooB w pd (w.2, (i : Int), w.1 + 1) = false := by
    unfold oooB
    rw [Bool.or_eq_false_iff]
    refine ⟨decide_eq_false (by show ¬ w.2 < w.2; omega), List.any_eq_false.mpr fun p hp => ?_⟩
    unfold oooP
    simp only [Bool.and_eq_true, Bool.or_eq_true, decide_eq_true_eq, not_and, not_or]
    intro ho
    have gw : wm[p.2.1.toNat]? = some w := by rw [ho, Int.toNat_natCast]; exact hw
    refine ⟨fun c => ?_, fun c => ?_⟩
    · have := J.down p (pa p hp) w gw (by omega)
      omega
    · have := I.up p hp w gw (by omega)
      omega
  unfold rejD
  rw [if_neg (by show ¬ (wm.length : Int) ≤ i; omega), e1, d1, o1, if_neg Bool.false_ne_true, if_neg Bool.false_ne_true]
theorem rej_low {wm : WM} {pd : List T3} {e : T3} (h0 : 0 ≤ e.2.1) (h1 : e.2.1 < wm.length) (h : lexT e ((wq wm e).2, e.2.1, (wq wm e).1 + 1) = true) : rejD wm pd e = .str "duplicate" ∨ rejD wm pd e = .str "day out of order" := by
  unfold rejD
  rw [if_neg (by omega)]
  cases hd : dupB (wq wm e) pd e with
  | true => rw [if_pos rfl]; exact .inl rfl
  | false =>
    rw [if_neg Bool.false_ne_true]
    cases ho : oooB (wq wm e) pd e with
    | true => rw [if_pos rfl]; exact .inr rfl
    | false =>
      exfalso
      obtain ⟨a, a1, _, a3, a4⟩ := ge_adm h0 h1 hd ho
      rw [← a3, a4] at h
      cases h
theorem adm_at {wm : WM} {e : T3} (h0 : 0 ≤ e.2.1) (h1 : e.2.1 < wm.length) : atI ((admQ wm).map tripI) e.2.1 = some (tripI ((wq wm e).2, e.2.1, (wq wm e).1 + 1)) := by
  refine at_nat h0 ?_
  have hg := wq_get h0 h1
  have hl : e.2.1.toNat < wm.length := by omega
  unfold admQ
  rw [List.map_map, List.getElem?_map, List.getElem?_zipIdx, hg]
  show some (tripI ((wq wm e).2, ((0 + e.2.1.toNat : Nat) : Int), (wq wm e).1 + 1)) = some (tripI _)
  rw [Nat.zero_add, Int.toNat_of_nonneg h0]
theorem adm_rep (m : Nat) : (List.range m).map (fun (i : Nat) => tripI (0, (i : Int), 1)) = (admQ (List.replicate m (0, 0))).map tripI := by
  unfold admQ
  rw [List.map_map]
  refine List.ext_getElem? fun i => ?_
  rw [List.getElem?_map, List.getElem?_map]
  by_cases h : i < m
  · rw [List.getElem?_range h, List.getElem?_zipIdx, List.getElem?_replicate, if_pos h]
    simp
  · rw [List.getElem?_eq_none (by rw [List.length_range]; omega), List.getElem?_eq_none (by rw [List.length_zipIdx, List.length_replicate]; omega)]
    rfl
theorem adm_rep' (m : Nat) : (List.range m).map (fun (i : Nat) => tripI (0, 0 + (i : Int), 1)) = (admQ (List.replicate m (0, 0))).map tripI := by
  rw [← adm_rep]
  refine List.map_congr_left fun i _ => ?_
  rw [Int.zero_add]
theorem adm_next {m : Nat} {wm : WM} {pd gone acc : List T3} (J : QW wm pd gone acc) (h : wm.length = m) : (List.range m).map (fun (i : Nat) => tripI (nextQ acc (0 + (i : Int)))) = (admQ wm).map tripI := by
  rw [← next_all J, List.map_map, h]
  refine List.map_congr_left fun i _ => ?_
  rw [Int.zero_add]
  rfl
/-! ### equality of stamps -/
theorem eqT (a b : T3) : eqD (tripI a) (tripI b) = decide (a = b) := by
  rw [show eqD (tripI a) (tripI b) = _ from ints_eqD [a.1, a.2.1, a.2.2] [b.1, b.2.1, b.2.2]]
  refine decide_eq_decide.mpr ⟨fun h => ?_, fun h => by rw [h]⟩
  simp only [List.cons.injEq] at h
  exact trip_ext h.1 h.2.1 h.2.2.1
theorem trips_noPtr : ∀ ts : List T3, noPtrs (ts.map tripI) = true
  | [] => rfl
  | t :: ts => by
    show (true && noPtrs (ts.map tripI)) = true
    rw [trips_noPtr ts]
    rfl
theorem trips_lay : ∀ ts : List T3, PyData.canLayAll0 (toPys (ts.map tripI)) = true
  | [] => rfl
  | t :: ts => by
    show (true && PyData.canLayAll0 (toPys (ts.map tripI))) = true
    rw [trips_lay ts]
    rfl
theorem trips_depth : ∀ ts : List T3, PyData.depthAll (toPys (ts.map tripI)) ≤ 1
  | [] => by decide
  | t :: ts => by
    show max (PyData.depth (toPy (tripI t))) (PyData.depthAll (toPys (ts.map tripI))) ≤ 1
    have := trips_depth ts
    have h2 : PyData.depth (toPy (tripI t)) ≤ 1 := Nat.le_refl _
    omega
theorem trips_okEq (ts : List T3) : okEq (.ro (ts.map tripI)) = true := by
  have := trips_depth ts
  show (noPtrs (ts.map tripI) && (PyData.canLayAll0 (toPys (ts.map tripI)) && decide (PyData.depthAll (toPys (ts.map tripI)) + 1 ≤ 64))) = true
  rw [trips_noPtr, trips_lay, decide_eq_true (by omega)]
  rfl
theorem any_trips (ts : List T3) (t : T3) : ((ts.map tripI).any fun z => eqD z (tripI t)) = decide (t ∈ ts) := by
  rw [List.any_map]
  induction ts with
  | nil => rfl
  | cons u ts ih =>
    rw [List.any_cons, ih, show ((fun z => eqD z (tripI t)) ∘ tripI) u = decide (u = t) from eqT u t]
    by_cases c : u = t
    · rw [decide_eq_true c, Bool.true_or]
      exact (decide_eq_true (by rw [c]; exact List.mem_cons_self)).symm
    · rw [decide_eq_false c, Bool.false_or]
      refine decide_eq_decide.mpr ⟨List.mem_cons_of_mem _, fun h => ?_⟩
      rcases List.mem_cons.mp h with h | h
      · exact absurd h.symm c
      · exact h
/-- a list that is read or that stands -/
def SeqL (S : Sto) (x : D) (xs : List D) : Prop := x = .ro xs ∨ ∃ q : Nat, x = .ptr q ∧ S[q]? = some xs
/-! ### what is ready -/
def dReadyQ (fn : Nat) : DDef :=
  ⟨"_law_ready", ["accepted", "gone", "offices", "first", "ready", "stamp", "office", "other"], 3, [
    .asg (.nm 3) (.comp false (.call fn [(.var 0), (.var 6)]) (.nm 6) [("office", 6)] .rg [(.var 2)] none),
    .asg (.nm 4) (.mls []),
    .forS (.nm 5) .sq [(.bi .sorted [(.var 0)])] [
      .ite (.andv (.cmp .notIn (.var 5) (.var 1)) (.one (.cmp .eq (.bi .len [(.comp false (.var 7) (.nm 7) [("other", 7)] .sq [(.var 3)] (some (.cmp .lt (.var 7) (.var 5))))]) (.int 0)))) [
        .expr (.meth .append (.var 4) [(.var 5)])] []],
    .ret (.var 4)]⟩
def isR (gone first : List T3) (t : T3) : Bool := !decide (t ∈ gone) && !(first.any fun a => lexT a t)
theorem filt0 (first : List T3) (t : T3) : eqD (.int ((first.filter fun a => lexT a t).map tripI).length) (.int 0) = !(first.any fun a => lexT a t) := by
  rw [List.length_map]
  cases e : first.any fun a => lexT a t with
  | false =>
    rw [List.filter_eq_nil_iff.mpr fun a ha h => by
      have := List.any_eq_false.mp e a ha
      exact this h]
    rfl
  | true =>
    obtain ⟨a, ha, h⟩ := List.any_eq_true.mp e
    have : 0 < (first.filter fun a => lexT a t).length := List.length_pos_of_mem (List.mem_filter.mpr ⟨ha, h⟩)
    rw [eqI_no (by omega)]
    rfl
theorem readyQ_spec {T : List DDef} {f fn n : Nat} (hf : T[f]? = some (dReadyQ fn)) (hn : T[fn]? = some dNextS) (acc gone : List T3) {m : Nat} (hm : m ≤ 1000) (hz : acc.length ≤ 1000) (first : List T3) (h1 : (List.range m).map (fun (i : Nat) => nextQ acc (i : Int)) = first) {S : Sto} {x : D} (hx : SeqL S x (acc.map tripI)) {k : WK}
    (h : ∀ ts : List T3, ts.Perm acc → ts.Pairwise leT → k (.ptr S.length) (S ++ [(ts.filter (isR gone first)).map tripI])) : Run T (n + 2) f [x, .ro (gone.map tripI), .int m] S k := by
  refine run_of hf rfl ?_
  walk_at "w"
  refine ⟨⟨by omega, by omega⟩, by rw [rangeD_len]; show _ < 16777216; omega, ?_⟩
  refine comp_sel (fun (i : Nat) => D.int (0 + (i : Int))) (fun _ => true) (fun i => tripI (nextQ acc (0 + (i : Int)))) (List.range m) _ (fun i hi kk k1 _ => ?_) ?_
  · walk_at "w"
    refine ⟨fun _ => ?_, fun hb => y_end hb⟩
    refine nextQ_spec (n := n) hn acc _ (by omega) (by
      rcases hx with h | ⟨q, h, e⟩
      · exact .inl h
      · exact .inr ⟨q, h, e⟩) ?_
    exact k1 rfl
  have e1 : (List.range m).map (fun (i : Nat) => tripI (nextQ acc (0 + (i : Int)))) = first.map tripI := by
    rw [← h1, List.map_map]
    refine List.map_congr_left fun i _ => ?_
    rw [Int.zero_add]
    rfl
  rw [List.filter_eq_self.mpr (fun _ _ => rfl), e1]
  have hfl : first.length ≤ 1000 := by rw [← h1, List.length_map, List.length_range]; exact hm
  have rest : wSs (Run T (n + 1)) ((dReadyQ fn).body.drop 2) [some x, some (.ro (gone.map tripI)), some (.int m), some (.ro (first.map tripI)), some (.ptr S.length), none, none, none] (S ++ [[]]) { nx := fun _ S1 => k .non S1, rt := k } := by
    have hx2 : seqOf (S ++ [[]]) x = some (acc.map tripI) := by
      rcases hx with rfl | ⟨q, rfl, e⟩
      · rfl
      · exact (Keep.app S _).2 _ _ e
    generalize hS : S ++ [[]] = S1 at hx2
    rw [show (dReadyQ fn).body.drop 2 = [.forS (.nm 5) .sq [(.bi .sorted [(.var 0)])] [
      .ite (.andv (.cmp .notIn (.var 5) (.var 1)) (.one (.cmp .eq (.bi .len [(.comp false (.var 7) (.nm 7) [("other", 7)] .sq [(.var 3)] (some (.cmp .lt (.var 7) (.var 5))))]) (.int 0)))) [
        .expr (.meth .append (.var 4) [(.var 5)])] []],
    .ret (.var 4)] from rfl]
    walk_at "w"
    refine sortT_W hx2 fun ts hp hs => ?_
    have tl : ts.length ≤ 1000 := by rw [hp.length_eq]; exact hz
    walk_at "w"
    refine ⟨trivial, ?_⟩
    refine for_inv (Run_mono T (n + 1)) (fun i σ S2 => S2 = S ++ [((ts.take i).filter (isR gone first)).map tripI] ∧ ∃ v5 : Option D, σ = [some x, some (.ro (gone.map tripI)), some (.int m), some (.ro (first.map tripI)), some (.ptr S.length), v5, none, none]) ⟨hS.symm, none, rfl⟩ ?_ ?_
    · rintro i y σ S2 hy ⟨rfl, v5, rfl⟩
      rw [List.getElem?_map] at hy
      obtain ⟨t, ht, rfl⟩ := Option.map_eq_some_iff.mp hy
      have il := (List.getElem?_eq_some_iff.mp ht).1
      have et : ts.take (i + 1) = ts.take i ++ [t] := by rw [List.take_add_one, ht]; rfl
      have ef : (ts.take (i + 1)).filter (isR gone first) = (ts.take i).filter (isR gone first) ++ (if isR gone first t = true then [t] else []) := by
        rw [et, List.filter_append]
        by_cases c : isR gone first t = true
        · rw [if_pos c, List.filter_cons_of_pos c]; rfl
        · rw [if_neg c, List.filter_cons_of_neg c]; rfl
      have no : isR gone first t = false → S ++ [((ts.take i).filter (isR gone first)).map tripI] = S ++ [((ts.take (i + 1)).filter (isR gone first)).map tripI] := fun c => by
        rw [ef, if_neg (by rw [c]; exact Bool.false_ne_true), List.append_nil]
      walk_at "w"
      refine ⟨⟨ints_okEq [t.1, t.2.1, t.2.2], trips_okEq gone⟩, ?_⟩
      rw [show ((gone.map tripI).any fun z => eqD z (.tup [.int t.1, .int t.2.1, .int t.2.2])) = decide (t ∈ gone) from any_trips gone t]
      refine ⟨fun hg => ?_, fun hg => ⟨(fun hb => by cases hb), fun _ => ⟨no (by unfold isR; rw [hg]; rfl), _, rfl⟩⟩⟩
      walk_at "w"
      refine ⟨by rw [List.length_map]; show _ < 16777216; omega, ?_⟩
      refine comp_sel tripI (fun a => lexT a t) tripI first _ (fun a ha kk k1 k2 => ?_) ?_
      · walk_at "w"
        rw [show HT.lexLt [a.1, a.2.1, a.2.2] [t.1, t.2.1, t.2.2] = lexT a t from lexLt_trip a t]
        exact ⟨k1, k2⟩
      walk_at "w"
      refine ⟨rfl, ?_⟩
      rw [filt0]
      refine ⟨fun hl => ?_, fun hl => ⟨no (by unfold isR; rw [hl, Bool.and_false]), _, rfl⟩⟩
      have c : isR gone first t = true := by unfold isR; rw [hg, hl]; rfl
      walk_at "w"
      refine ⟨trivial, ?_⟩
      walk_at "w"
      rw [List.getElem?_concat_length]
      have tk := List.length_filter_le (isR gone first) (ts.take i)
      have tk2 := List.length_take_le i ts
      refine ⟨by rw [List.length_map]; show _ < 16777216; omega, ?_, _, rfl⟩
      rw [set_appQ, ef, if_pos c, List.map_append]
      rfl
    · rintro σ S2 ⟨rfl, v5, rfl⟩
      rw [List.length_map, List.take_length]
      exact h ts hp hs
  exact rest
/-! ### in order -/
def srtT (ts : List T3) : List T3 := ts.mergeSort fun a b => !lexT b a
theorem srtT_perm (ts : List T3) : (srtT ts).Perm ts := List.mergeSort_perm ts _
theorem srtT_sorted (ts : List T3) : (srtT ts).Pairwise leT := by
  have := List.pairwise_mergeSort (le := fun a b : T3 => !lexT b a) (fun a b c h1 h2 => by
    rw [Bool.not_eq_true'] at h1 h2 ⊢
    have h1 := lexT_no.mp h1
    have h2 := lexT_no.mp h2
    exact lexT_no.mpr (by omega)) (fun a b => by
    rw [Bool.or_eq_true, Bool.not_eq_true', Bool.not_eq_true']
    rcases e : lexT b a with _ | _
    · exact .inl rfl
    · exact .inr (lexT_asym e)) ts
  exact this.imp fun {a b} h => (by simpa using h : lexT b a = false)
theorem srtT_uniq {ts acc : List T3} (hp : ts.Perm acc) (hs : ts.Pairwise leT) : ts = srtT acc := (hp.trans (srtT_perm acc).symm).eq_of_pairwise (fun a b _ _ h h' => leT_anti h h') hs (srtT_sorted acc)
def firsts (acc : List T3) (m : Nat) : List T3 := (List.range m).map fun (i : Nat) => nextQ acc (i : Int)
def readyF (acc gone : List T3) (m : Nat) : List T3 := (srtT acc).filter (isR gone (firsts acc m))
def restF (acc gone : List T3) : List T3 := (srtT acc).filter fun t => !decide (t ∈ gone)
def marksF (acc : List T3) (m : Nat) : WM := (firsts acc m).map fun s => (s.2.2 - 1, s.1)
def queueF (acc gone : List T3) (m : Nat) : D := qD (marksF acc m) (restF acc gone)
theorem srt_of {m : Nat} {wm : WM} {pd gone acc : List T3} (I : QI m wm pd gone acc) : srtT acc = gone ++ pd := (srtT_uniq I.perm (I.asc.imp fun h => lexT_asym h)).symm
theorem first_of {m : Nat} {wm : WM} {pd gone acc : List T3} (I : QI m wm pd gone acc) (J : QW wm pd gone acc) : firsts acc m = admQ wm := by
  unfold firsts
  rw [← I.len]
  exact next_all J
theorem lexT_irr (a : T3) : lexT a a = false := lexT_no.mpr (by omega)
theorem asc_not {xs ys : List T3} (h : (xs ++ ys).Pairwise (fun a b => lexT a b = true)) : ∀ y ∈ ys, y ∉ xs := fun y hy hx => by
  have := (List.pairwise_append.mp h).2.2 y hx y hy
  rw [lexT_irr] at this
  cases this
theorem rest_of {m : Nat} {wm : WM} {pd gone acc : List T3} (I : QI m wm pd gone acc) : restF acc gone = pd := by
  unfold restF
  rw [srt_of I, List.filter_append, List.filter_eq_nil_iff.mpr (fun g hg h => by rw [decide_eq_true hg] at h; cases h), List.nil_append]
  exact List.filter_eq_self.mpr fun p hp => by rw [decide_eq_false (asc_not I.asc p hp)]; rfl
theorem marks_of {m : Nat} {wm : WM} {pd gone acc : List T3} (I : QI m wm pd gone acc) (J : QW wm pd gone acc) : marksF acc m = wm := by
  unfold marksF
  rw [first_of I J]
  unfold admQ
  rw [List.map_map]
  refine List.ext_getElem? fun i => ?_
  rw [List.getElem?_map, List.getElem?_zipIdx]
  cases h : wm[i]? with
  | none => rfl
  | some w => exact congrArg some (Prod.ext (by show w.1 + 1 - 1 = w.1; omega) rfl)
theorem queue_of {m : Nat} {wm : WM} {pd gone acc : List T3} (I : QI m wm pd gone acc) (J : QW wm pd gone acc) : queueF acc gone m = qD wm pd := by
  unfold queueF
  rw [marks_of I J, rest_of I]
theorem least_of : ∀ {ts : List T3}, ts ≠ [] → ∃ a ∈ ts, ∀ y ∈ ts, lexT y a = false
  | [], h => absurd rfl h
  | [t], _ => ⟨t, List.mem_cons_self, fun y hy => by rw [List.mem_singleton.mp hy]; exact lexT_irr t⟩
  | t :: u :: ts, _ => by
    obtain ⟨a, ha, h⟩ := least_of (ts := u :: ts) (List.cons_ne_nil _ _)
    cases e : lexT t a with
    | false =>
      refine ⟨a, List.mem_cons_of_mem _ ha, fun y hy => ?_⟩
      rcases List.mem_cons.mp hy with rfl | hy
      · exact e
      · exact h y hy
    | true =>
      refine ⟨t, List.mem_cons_self, fun y hy => ?_⟩
      rcases List.mem_cons.mp hy with rfl | hy
      · exact lexT_irr _
      · have h1 := lexT_no.mp (h y hy)
        have h2 := lexT_iff.mp e
        exact lexT_no.mpr (by omega)
theorem ready_of {m : Nat} {wm : WM} {pd gone pr acc : List T3} (hm : 1 ≤ m) (I : QI m wm pd (gone ++ pr) acc) (J : QW wm pd (gone ++ pr) acc) : readyF acc gone m = pr := by
  unfold readyF
  rw [srt_of I, first_of I J, List.filter_append, List.filter_append]
  have hasc := I.asc
  rw [List.append_assoc] at hasc
  rw [show gone.filter (isR gone (admQ wm)) = [] from List.filter_eq_nil_iff.mpr (fun g hg h => by
    unfold isR at h
    rw [decide_eq_true hg] at h
    cases h)]
  rw [show pd.filter (isR gone (admQ wm)) = [] from List.filter_eq_nil_iff.mpr (fun t ht h => by
    obtain ⟨a, ha, hl⟩ := least_of (adm_ne (wm := wm) (by rw [I.len]; omega))
    have hne : a ≠ t := fun z => by
      obtain ⟨i, w, hw, rfl⟩ := adm_mem.mp ha
      exact J.hole i w hw t (I.perm.mem_iff.mp (List.mem_append_right _ ht)) (by rw [← z])
    unfold isR at h
    rw [show (admQ wm).any (fun a => lexT a t) = true from List.any_eq_true.mpr ⟨a, ha, (lexT_tot (J.high a ha hl t ht) hne : lexT a t = true)⟩, Bool.not_true, Bool.and_false] at h
    cases h)]
  rw [List.nil_append, List.append_nil]
  refine List.filter_eq_self.mpr fun p hp => ?_
  unfold isR
  rw [decide_eq_false (asc_not hasc p (List.mem_append_left _ hp)), List.any_eq_false.mpr fun a ha => by
    rw [lexT_asym (I.low p (List.mem_append_right _ hp) a ha)]
    exact Bool.false_ne_true]
  rfl
/-! ### the reason -/
def dReasonQ : DDef :=
  ⟨"_law_reason", ["accepted", "waiting", "offices", "stamp", "own", "other"], 4, [
    .ite (.cmp .ge (.idx (.var 3) (.int 1)) (.var 2)) [
      .ret (.str "unknown office")] [],
    .asg (.nm 4) (.comp false (.var 5) (.nm 5) [("other", 5)] .sq [(.var 0)] (some (.cmp .eq (.idx (.var 5) (.int 1)) (.idx (.var 3) (.int 1))))),
    .ite (.cmp .isIn (.idx (.var 3) (.int 2)) (.comp false (.idx (.var 5) (.int 2)) (.nm 5) [("other", 5)] .sq [(.var 4)] none)) [
      .ret (.str "duplicate")] [],
    .forS (.nm 5) .sq [(.var 4)] [
      .ite (.orv (.andv (.cmp .lt (.idx (.var 5) (.int 2)) (.idx (.var 3) (.int 2))) (.one (.cmp .lt (.idx (.var 3) (.int 0)) (.idx (.var 5) (.int 0))))) (.one (.andv (.cmp .gt (.idx (.var 5) (.int 2)) (.idx (.var 3) (.int 2))) (.one (.cmp .gt (.idx (.var 3) (.int 0)) (.idx (.var 5) (.int 0))))))) [
        .ret (.str "day out of order")] []],
    .ite (.cmp .ge (.var 1) (.int 12)) [
      .ret (.str "full")] [],
    .ret .non]⟩
def ownQ (acc : List T3) (st : T3) : List T3 := acc.filter fun p => eqD (.int p.2.1) (.int st.2.1)
def seqP (st o : T3) : Bool := (decide (o.2.2 < st.2.2) && decide (st.1 < o.1)) || (decide (st.2.2 < o.2.2) && decide (o.1 < st.1))
def reasonF (acc : List T3) (w : Int) (m : Nat) (st : T3) : D :=
  if (m : Int) ≤ st.2.1 then .str "unknown office" else if (((ownQ acc st).map (·.2.2)).map D.int).any (fun z => eqD z (.int st.2.2)) = true then .str "duplicate" else if (ownQ acc st).any (seqP st) = true then .str "day out of order" else if 12 ≤ w then .str "full" else .non
theorem reasonQ_spec {T : List DDef} {f n : Nat} (hf : T[f]? = some dReasonQ) (acc : List T3) (w : Int) (m : Nat) (st : T3) (hz : acc.length ≤ 1000) {S : Sto} {k : WK} (h : k (reasonF acc w m st) S) : Run T (n + 1) f [.ro (acc.map tripI), .int w, .int m, tripI st] S k := by
  refine run_of hf rfl ?_
  unfold reasonF at h
  walk_at "w"
  refine ⟨fun e => ?_, fun e => ?_⟩
  · rw [if_pos (of_decide_eq_true e)] at h
    exact h
  rw [if_neg (of_decide_eq_false e)] at h
  walk_at "w"
  refine ⟨by rw [List.length_map]; show _ < 16777216; omega, ?_⟩
  refine comp_sel tripI (fun p => eqD (.int p.2.1) (.int st.2.1)) tripI acc _ (fun p _ kk k1 k2 => ?_) ?_
  · walk_at "w"
    exact ⟨rfl, k1, k2⟩
  have hoz : (ownQ acc st).length ≤ 1000 := Nat.le_trans (List.length_filter_le _ _) hz
  rw [show (acc.filter fun p => eqD (.int p.2.1) (.int st.2.1)) = ownQ acc st from rfl]
  generalize ownQ acc st = own at h hoz
  walk_at "w"
  refine ⟨by rw [List.length_map]; show _ < 16777216; omega, ?_⟩
  refine comp_sel tripI (fun _ => true) (fun p => .int p.2.2) own _ (fun p _ kk k1 _ => ?_) ?_
  · walk_at "w"
    refine ⟨fun _ => ?_, fun hb => y_end hb⟩
    exact k1 rfl
  rw [List.filter_eq_self.mpr (fun _ _ => rfl), show own.map (fun p => D.int p.2.2) = (own.map (·.2.2)).map .int by rw [List.map_map]; rfl]
  walk_at "w"
  refine ⟨rfl, flat_ints _, fun e => ?_, fun e => ?_⟩
  · rw [if_pos e] at h
    exact h
  rw [if_neg (by rw [e]; exact Bool.false_ne_true)] at h
  walk_at "w"
  refine ⟨trivial, ?_⟩
  refine for_inv (Run_mono T n) (fun j σ S1 => S1 = S ∧ (own.take j).any (seqP st) = false ∧ ∃ v5 : Option D, σ = [some (.ro (acc.map tripI)), some (.int w), some (.int m), some (tripI st), some (.ro (own.map tripI)), v5]) ⟨rfl, rfl, none, rfl⟩ ?_ ?_
  · rintro j x σ S1 hx ⟨rfl, hno, v5, rfl⟩
    rw [List.getElem?_map] at hx
    obtain ⟨o, ho, rfl⟩ := Option.map_eq_some_iff.mp hx
    have et : (own.take (j + 1)).any (seqP st) = seqP st o := by
      rw [List.take_add_one, ho, List.any_append, hno]
      show (false || (seqP st o || false)) = _
      simp
    have hit : seqP st o = true → k (.str "day out of order") S1 := fun e => by
      rw [if_pos (List.any_eq_true.mpr ⟨o, List.mem_of_getElem? ho, e⟩)] at h
      exact h
    have go : seqP st o = false → S1 = S1 ∧ (own.take (j + 1)).any (seqP st) = false ∧ ∃ v5 : Option D, [some (.ro (acc.map tripI)), some (.int w), some (.int m), some (tripI st), some (.ro (own.map tripI)), some (tripI o)] = [some (.ro (acc.map tripI)), some (.int w), some (.int m), some (tripI st), some (.ro (own.map tripI)), v5] := fun e => ⟨rfl, by rw [et]; exact e, _, rfl⟩
    unfold seqP at hit go
    walk_at "w"
    have two : (decide (o.2.2 < st.2.2) && decide (st.1 < o.1)) = false → (decide (st.2.2 < o.2.2) = true → (decide (o.1 < st.1) = true → k (.str "day out of order") S1) ∧ (decide (o.1 < st.1) = false → S1 = S1 ∧ (own.take (j + 1)).any (seqP st) = false ∧ ∃ v5 : Option D, [some (.ro (acc.map tripI)), some (.int w), some (.int m), some (tripI st), some (.ro (own.map tripI)), some (tripI o)] = [some (.ro (acc.map tripI)), some (.int w), some (.int m), some (tripI st), some (.ro (own.map tripI)), v5])) ∧ (decide (st.2.2 < o.2.2) = false → S1 = S1 ∧ (own.take (j + 1)).any (seqP st) = false ∧ ∃ v5 : Option D, [some (.ro (acc.map tripI)), some (.int w), some (.int m), some (tripI st), some (.ro (own.map tripI)), some (tripI o)] = [some (.ro (acc.map tripI)), some (.int w), some (.int m), some (tripI st), some (.ro (own.map tripI)), v5]) := fun c => by
      rw [c, Bool.false_or] at hit go
      exact ⟨fun a => ⟨fun b => hit (by rw [a, b]; rfl), fun b => go (by rw [b, Bool.and_false])⟩, fun a => go (by rw [a]; rfl)⟩
    refine ⟨fun a => ?_, fun a => ?_⟩
    · walk_at "w"
      refine ⟨fun b => ⟨fun _ => hit (by have a : decide (o.2.2 < st.2.2) = true := a; have b : decide (st.1 < o.1) = true := b; rw [a, b]; rfl), fun hb => nomatch hb⟩, fun b => ?_⟩
      have q := two (by have b : decide (st.1 < o.1) = false := b; rw [b, Bool.and_false])
      walk_at "w"
      refine ⟨fun c => ?_, fun c => ⟨(fun hb => by cases hb), fun _ => q.2 c⟩⟩
      walk_at "w"
      exact ⟨fun d => (q.1 c).1 d, fun d => (q.1 c).2 d⟩
    · have q := two (by have a : decide (o.2.2 < st.2.2) = false := a; rw [a]; rfl)
      walk_at "w"
      refine ⟨fun hb => (by cases hb), fun _ => ⟨fun c => ?_, fun c => ⟨(fun hb => by cases hb), fun _ => q.2 c⟩⟩⟩
      walk_at "w"
      exact ⟨fun d => (q.1 c).1 d, fun d => (q.1 c).2 d⟩
  · rintro σ S1 ⟨rfl, hno, v5, rfl⟩
    rw [List.length_map, List.take_length] at hno
    rw [if_neg (by rw [hno]; exact Bool.false_ne_true)] at h
    walk_at "w"
    refine ⟨fun e => ?_, fun e => ?_⟩
    · rw [if_pos (of_decide_eq_true e)] at h
      exact h
    · rw [if_neg (of_decide_eq_false e)] at h
      exact h
end Ov
-- K67_data
namespace Tx
open PySem PySem.Spec PyProof.Rows L2 Ov
def d0 : DDef :=
  ⟨"new_queue", ["offices"], 1, [
    .ret (.tup [(.bin .mul (.tup [(.tup [(.int 0), (.int 0)])]) (.var 0)), (.tup [])])]⟩
def d1 : DDef :=
  ⟨"is_duplicate", ["queue", "stamp", "watermarks", "pending", "_", "office", "sequence", "other"], 2, [
    .asg (.tp [(.nm 2), (.nm 3)]) (.var 0),
    .asg (.tp [(.nm 4), (.nm 5), (.nm 6)]) (.var 1),
    .ite (.cmp .le (.var 6) (.idx (.idx (.var 2) (.var 5)) (.int 0))) [
      .ret (.bl true)] [],
    .ret (.bi .any [(.comp false (.cmp .eq (.slc (.var 7) (some (.int 1)) none) (.tup [(.var 5), (.var 6)])) (.nm 7) [("other", 7)] .sq [(.var 3)] none)])]⟩
def d2 : DDef :=
  ⟨"is_out_of_order", ["queue", "stamp", "watermarks", "pending", "day", "office", "sequence", "other_day", "other_office", "other_sequence"], 2, [
    .asg (.tp [(.nm 2), (.nm 3)]) (.var 0),
    .asg (.tp [(.nm 4), (.nm 5), (.nm 6)]) (.var 1),
    .ite (.cmp .lt (.var 4) (.idx (.idx (.var 2) (.var 5)) (.int 1))) [
      .ret (.bl true)] [],
    .forS (.tp [(.nm 7), (.nm 8), (.nm 9)]) .sq [(.var 3)] [
      .ite (.cmp .ne (.var 8) (.var 5)) [
        .cont] [],
      .ite (.andv (.cmp .lt (.var 9) (.var 6)) (.one (.cmp .lt (.var 4) (.var 7)))) [
        .ret (.bl true)] [],
      .ite (.andv (.cmp .gt (.var 9) (.var 6)) (.one (.cmp .gt (.var 4) (.var 7)))) [
        .ret (.bl true)] []],
    .ret (.bl false)]⟩
def d3 : DDef :=
  ⟨"rejection", ["queue", "stamp", "watermarks", "pending"], 2, [
    .asg (.tp [(.nm 2), (.nm 3)]) (.var 0),
    .ite (.cmp .ge (.idx (.var 1) (.int 1)) (.bi .len [(.var 2)])) [
      .ret (.str "unknown office")] [],
    .ite (.tru (.call 1 [(.var 0), (.var 1)])) [
      .ret (.str "duplicate")] [],
    .ite (.tru (.call 2 [(.var 0), (.var 1)])) [
      .ret (.str "day out of order")] [],
    .ite (.cmp .ge (.bi .len [(.var 3)]) (.con "MOST_PENDING" 12)) [
      .ret (.str "full")] [],
    .ret .non]⟩
def d4 : DDef :=
  ⟨"advanced", ["watermark", "office", "pending", "days", "sequence", "day", "stamp"], 3, [
    .asg (.tp [(.nm 4), (.nm 5)]) (.var 0),
    .asg (.nm 3) (.dcomp (.idx (.var 6) (.int 2)) (.idx (.var 6) (.int 0)) (.nm 6) [("stamp", 6)] .sq [(.var 2)] (some (.cmp .eq (.idx (.var 6) (.int 1)) (.var 1)))),
    .whil (.cmp .isIn (.bin .add (.var 4) (.int 1)) (.var 3)) [
      .aug 4 .add (.int 1),
      .asg (.nm 5) (.idx (.var 3) (.var 4))],
    .ret (.tup [(.var 4), (.var 5)])]⟩
def d5 : DDef :=
  ⟨"submitted", ["queue", "stamp", "reason", "watermarks", "pending", "office", "awaited", "processed", "other"], 2, [
    .asg (.nm 2) (.call 3 [(.var 0), (.var 1)]),
    .ite (.cmp .isnot (.var 2) .non) [
      .ret (.tup [(.var 2), (.tup []), (.var 0)])] [],
    .asg (.nm 3) (.bi .mlist [(.idx (.var 0) (.int 0))]),
    .asg (.nm 4) (.bi .tuple [(.bi .sorted [(.bin .add (.idx (.var 0) (.int 1)) (.tup [(.var 1)]))])]),
    .asg (.nm 5) (.idx (.var 1) (.int 1)),
    .sub (.var 3) (.var 5) (.call 4 [(.idx (.var 3) (.var 5)), (.var 5), (.var 4)]),
    .asg (.nm 6) (.call 7 [(.tup [(.bi .tuple [(.var 3)]), (.var 4)])]),
    .asg (.nm 7) (.bi .tuple [(.comp false (.var 8) (.nm 8) [("other", 8)] .sq [(.var 4)] (some (.cmp .lt (.var 8) (.var 6))))]),
    .ret (.tup [.non, (.var 7), (.tup [(.bi .tuple [(.var 3)]), (.slc (.var 4) (some (.bi .len [(.var 7)])) none)])])]⟩
def d6 : DDef :=
  ⟨"admissible_stamps", ["queue", "watermarks", "office", "sequence", "day"], 1, [
    .asg (.nm 1) (.idx (.var 0) (.int 0)),
    .ret (.bi .tuple [(.comp false (.tup [(.var 4), (.var 2), (.bin .add (.var 3) (.int 1))]) (.tp [(.nm 2), (.tp [(.nm 3), (.nm 4)])]) [("office", 2), ("sequence", 3), ("day", 4)] .en [(.var 1)] none)])]⟩
def d7 : DDef :=
  ⟨"awaited_stamp", ["queue"], 1, [
    .ret (.bi .min [(.call 6 [(.var 0)])])]⟩
def d8 : DDef :=
  ⟨"_law_tape", ["script", "total", "cell"], 1, [
    .asg (.nm 1) (.int 7),
    .forS (.nm 2) .sq [(.var 0)] [
      .asg (.nm 1) (.bin .mod (.bi .int [(.bin .add (.bin .mul (.var 1) (.int 31)) (.bi .abs [(.bi .int [(.var 2)])]))]) (.int 2147483647))],
    .ret (.mls [(.bi .list [(.var 0)]), (.int 0), (.int 0), (.var 1)])]⟩
def d9 : DDef :=
  ⟨"_law_draw", ["tape", "many", "number", "place"], 2, [
    .ite (.cmp .eq (.idx (.var 0) (.int 2)) (.int 0)) [
      .asg (.nm 3) (.idx (.var 0) (.int 1)),
      .asg (.nm 2) (.int 0),
      .ite (.cmp .lt (.var 3) (.bi .len [(.idx (.var 0) (.int 0))])) [
        .asg (.nm 2) (.bi .abs [(.bi .int [(.idx (.idx (.var 0) (.int 0)) (.var 3))])])] [
        .sub (.var 0) (.int 3) (.bin .mod (.bi .int [(.bin .add (.bin .add (.bin .mul (.idx (.var 0) (.int 3)) (.int 48271)) (.var 3)) (.int 1))]) (.int 2147483647)),
        .asg (.nm 2) (.idx (.var 0) (.int 3))],
      .sub (.var 0) (.int 1) (.bin .add (.var 3) (.int 1)),
      .ite (.cmp .lt (.var 2) (.bin .pow (.int 10) (.int 18))) [
        .asg (.nm 2) (.bin .mod (.bi .int [(.bin .add (.bin .add (.bin .mul (.var 2) (.int 48271)) (.bin .mul (.var 3) (.int 69621))) (.int 5))]) (.int 2147483647)),
        .asg (.nm 2) (.bin .mod (.bi .int [(.bin .mul (.var 2) (.int 69621))]) (.int 2147483629)),
        .ret (.bin .mod (.bi .int [(.var 2)]) (.bi .max [(.var 1), (.int 1)]))] [],
      .sub (.var 0) (.int 2) (.var 2)] [],
    .asg (.nm 2) (.idx (.var 0) (.int 2)),
    .sub (.var 0) (.int 2) (.bin .fdiv (.var 2) (.bi .max [(.var 1), (.int 2)])),
    .ret (.bin .mod (.bi .int [(.var 2)]) (.bi .max [(.var 1), (.int 1)]))]⟩
def d10 : DDef :=
  ⟨"_law_same", ["told", "due", "k"], 2, [
    .ite (.cmp .is (.var 1) .non) [
      .ret (.cmp .is (.var 0) .non)] [],
    .ite (.tru (.bi (.isI "tuple") [(.var 1)])) [
      .ite (.orv (.notv (.tru (.bi (.isI "tuple") [(.var 0)]))) (.one (.cmp .ne (.bi .len [(.var 0)]) (.bi .len [(.var 1)])))) [
        .ret (.bl false)] [],
      .ret (.cmp .eq (.bi .len [(.comp false (.var 2) (.nm 2) [("k", 2)] .rg [(.bi .len [(.var 1)])] (some (.notv (.tru (.call 10 [(.idx (.var 0) (.var 2)), (.idx (.var 1) (.var 2))])))))]) (.int 0))] [],
    .ite (.tru (.bi (.isI "str") [(.var 1)])) [
      .ret (.andv (.bi (.isI "str") [(.var 0)]) (.one (.cmp .eq (.var 0) (.var 1))))] [],
    .ret (.andv (.bi (.isI "int") [(.var 0)]) (.andv (.cmp .eq (.bi (.isI "bool") [(.var 0)]) (.bi (.isI "bool") [(.var 1)])) (.one (.cmp .eq (.var 0) (.var 1)))))]⟩
def d11 : DDef :=
  ⟨"_law_next", ["accepted", "office", "day", "number", "pair", "stamp"], 2, [
    .asg (.nm 2) (.int 0),
    .asg (.nm 3) (.int 1),
    .forS (.nm 4) .sq [(.bi .sorted [(.comp false (.tup [(.idx (.var 5) (.int 2)), (.idx (.var 5) (.int 0))]) (.nm 5) [("stamp", 5)] .sq [(.var 0)] (some (.cmp .eq (.idx (.var 5) (.int 1)) (.var 1))))])] [
      .ite (.cmp .ne (.idx (.var 4) (.int 0)) (.var 3)) [
        .brk] [],
      .asg (.nm 2) (.idx (.var 4) (.int 1)),
      .asg (.nm 3) (.bin .add (.var 3) (.int 1))],
    .ret (.tup [(.var 2), (.var 1), (.var 3)])]⟩
def d12 : DDef :=
  ⟨"_law_reason", ["accepted", "waiting", "offices", "stamp", "own", "other"], 4, [
    .ite (.cmp .ge (.idx (.var 3) (.int 1)) (.var 2)) [
      .ret (.str "unknown office")] [],
    .asg (.nm 4) (.comp false (.var 5) (.nm 5) [("other", 5)] .sq [(.var 0)] (some (.cmp .eq (.idx (.var 5) (.int 1)) (.idx (.var 3) (.int 1))))),
    .ite (.cmp .isIn (.idx (.var 3) (.int 2)) (.comp false (.idx (.var 5) (.int 2)) (.nm 5) [("other", 5)] .sq [(.var 4)] none)) [
      .ret (.str "duplicate")] [],
    .forS (.nm 5) .sq [(.var 4)] [
      .ite (.orv (.andv (.cmp .lt (.idx (.var 5) (.int 2)) (.idx (.var 3) (.int 2))) (.one (.cmp .lt (.idx (.var 3) (.int 0)) (.idx (.var 5) (.int 0))))) (.one (.andv (.cmp .gt (.idx (.var 5) (.int 2)) (.idx (.var 3) (.int 2))) (.one (.cmp .gt (.idx (.var 3) (.int 0)) (.idx (.var 5) (.int 0))))))) [
        .ret (.str "day out of order")] []],
    .ite (.cmp .ge (.var 1) (.int 12)) [
      .ret (.str "full")] [],
    .ret .non]⟩
def d13 : DDef :=
  ⟨"_law_ready", ["accepted", "gone", "offices", "first", "ready", "stamp", "office", "other"], 3, [
    .asg (.nm 3) (.comp false (.call 11 [(.var 0), (.var 6)]) (.nm 6) [("office", 6)] .rg [(.var 2)] none),
    .asg (.nm 4) (.mls []),
    .forS (.nm 5) .sq [(.bi .sorted [(.var 0)])] [
      .ite (.andv (.cmp .notIn (.var 5) (.var 1)) (.one (.cmp .eq (.bi .len [(.comp false (.var 7) (.nm 7) [("other", 7)] .sq [(.var 3)] (some (.cmp .lt (.var 7) (.var 5))))]) (.int 0)))) [
        .expr (.meth .append (.var 4) [(.var 5)])] []],
    .ret (.var 4)]⟩
def d14 : DDef :=
  ⟨"_law_day", ["tape", "own", "number", "low", "after", "choice", "stamp"], 3, [
    .asg (.nm 3) (.bi .max [(.bin .add (.ls [(.int 0)]) (.comp false (.idx (.var 6) (.int 0)) (.nm 6) [("stamp", 6)] .sq [(.var 1)] (some (.cmp .lt (.idx (.var 6) (.int 2)) (.var 2)))))]),
    .asg (.nm 4) (.comp false (.idx (.var 6) (.int 0)) (.nm 6) [("stamp", 6)] .sq [(.var 1)] (some (.cmp .gt (.idx (.var 6) (.int 2)) (.var 2)))),
    .asg (.nm 5) (.call 9 [(.var 0), (.int 12)]),
    .ite (.cmp .eq (.var 5) (.int 10)) [
      .ret (.bi .max [(.int 0), (.bin .sub (.var 3) (.int 1))])] [],
    .ite (.cmp .eq (.var 5) (.int 11)) [
      .ret (.bi .min [(.int 400), (.bin .add (.bi .max [(.bin .add (.ls [(.var 3)]) (.var 4))]) (.int 1))])] [],
    .ite (.tru (.var 4)) [
      .ret (.bin .add (.var 3) (.call 9 [(.var 0), (.bi .max [(.int 1), (.bin .add (.bin .sub (.bi .min [(.var 4)]) (.var 3)) (.int 1))])]))] [],
    .ret (.bi .min [(.int 400), (.bin .add (.var 3) (.idx (.ls [(.int 0), (.int 0), (.int 0), (.int 1), (.int 1), (.int 2), (.int 3), (.int 7), (.int 30), (.int 200)]) (.var 5)))])]⟩
def d15 : DDef :=
  ⟨"_law_stamp", ["tape", "stamps", "offices", "held", "office", "choice", "own", "numbers", "number", "k", "stamp"], 4, [
    .asg (.nm 4) (.call 9 [(.var 0), (.var 2)]),
    .asg (.nm 5) (.call 9 [(.var 0), (.idx (.ls [(.int 9), (.int 7)]) (.bi .int [(.var 3)]))]),
    .ite (.cmp .eq (.var 5) (.int 8)) [
      .ret (.tup [(.call 9 [(.var 0), (.int 401)]), (.call 9 [(.var 0), (.int 10)]), (.bin .add (.int 1) (.call 9 [(.var 0), (.int 1000)]))])] [],
    .asg (.nm 6) (.comp false (.var 10) (.nm 10) [("stamp", 10)] .sq [(.var 1)] (some (.cmp .eq (.idx (.var 10) (.int 1)) (.var 4)))),
    .asg (.nm 7) (.comp false (.idx (.var 10) (.int 2)) (.nm 10) [("stamp", 10)] .sq [(.var 6)] none),
    .asg (.nm 8) (.bin .add (.int 1) (.bi .int [(.var 3)])),
    .forS (.nm 9) .rg [(.bi .len [(.var 6)])] [
      .ite (.cmp .isIn (.var 8) (.var 7)) [
        .asg (.nm 8) (.bin .add (.var 8) (.int 1))] []],
    .ite (.cmp .eq (.var 5) (.int 6)) [
      .asg (.nm 8) (.bi .min [(.int 1000), (.bin .add (.bin .add (.var 8) (.int 1)) (.call 9 [(.var 0), (.int 3)]))])] [],
    .ite (.andv (.cmp .eq (.var 5) (.int 7)) (.one (.tru (.var 7)))) [
      .asg (.nm 8) (.idx (.var 7) (.call 9 [(.var 0), (.bi .len [(.var 7)])]))] [],
    .ret (.tup [(.call 14 [(.var 0), (.var 6), (.var 8)]), (.var 4), (.var 8)])]⟩
def d16 : DDef :=
  ⟨"_law_many", ["tape", "most"], 2, [
    .ret (.idx (.ls [(.var 1), (.var 1), (.bin .fdiv (.var 1) (.int 2)), (.call 9 [(.var 0), (.bin .add (.var 1) (.int 1))])]) (.call 9 [(.var 0), (.int 4)]))]⟩
def d17 : DDef :=
  ⟨"_law_queue", ["accepted", "gone", "offices", "first", "pending", "office", "stamp"], 3, [
    .asg (.nm 3) (.comp false (.call 11 [(.var 0), (.var 5)]) (.nm 5) [("office", 5)] .rg [(.var 2)] none),
    .asg (.nm 4) (.comp false (.var 6) (.nm 6) [("stamp", 6)] .sq [(.bi .sorted [(.var 0)])] (some (.cmp .notIn (.var 6) (.var 1)))),
    .ret (.tup [(.bi .tuple [(.comp false (.tup [(.bin .sub (.idx (.var 6) (.int 2)) (.int 1)), (.idx (.var 6) (.int 0))]) (.nm 6) [("stamp", 6)] .sq [(.var 3)] none)]), (.bi .tuple [(.var 4)])])]⟩
def d18 : DDef :=
  ⟨"_law_due", ["accepted", "gone", "offices", "stamp", "reason", "more", "ready"], 4, [
    .asg (.nm 4) (.call 12 [(.var 0), (.bin .sub (.bi .len [(.var 0)]) (.bi .len [(.var 1)])), (.var 2), (.var 3)]),
    .ite (.cmp .isnot (.var 4) .non) [
      .ret (.tup [(.var 4), (.tup []), (.call 17 [(.var 0), (.var 1), (.var 2)])])] [],
    .asg (.nm 5) (.bin .add (.var 0) (.ls [(.var 3)])),
    .asg (.nm 6) (.call 13 [(.var 5), (.var 1), (.var 2)]),
    .ret (.tup [.non, (.bi .tuple [(.var 6)]), (.call 17 [(.var 5), (.bin .add (.var 1) (.var 6)), (.var 2)])])]⟩
def d19 : DDef :=
  ⟨"_law_is_told", ["queue", "stamp", "due"], 3, [
    .ret (.andv (.call 10 [(.call 3 [(.var 0), (.var 1)]), (.idx (.var 2) (.int 0))]) (.one (.call 10 [(.call 5 [(.var 0), (.var 1)]), (.var 2)])))]⟩
def d20 : DDef :=
  ⟨"law", ["script", "tape", "offices", "other", "held", "place", "mark", "queue", "accepted", "gone", "kept", "k", "stamp", "due", "state"], 1, [
    .asg (.nm 1) (.call 8 [(.var 0)]),
    .asg (.nm 2) (.bin .add (.int 1) (.call 9 [(.var 1), (.int 3)])),
    .asg (.nm 3) (.bin .add (.int 1) (.bin .mod (.bi .int [(.bin .add (.var 2) (.call 9 [(.var 1), (.int 2)]))]) (.int 3))),
    .asg (.nm 4) (.cmp .eq (.call 9 [(.var 1), (.int 4)]) (.int 0)),
    .asg (.nm 5) (.call 9 [(.var 1), (.int 24)]),
    .asg (.nm 6) (.call 9 [(.var 1), (.int 24)]),
    .asg (.nm 7) (.call 0 [(.var 2)]),
    .asg (.nm 8) (.ls []),
    .asg (.nm 9) (.ls []),
    .ite (.orv (.notv (.tru (.call 10 [(.var 7), (.call 17 [(.ls []), (.ls []), (.var 2)])]))) (.one (.notv (.tru (.call 10 [(.call 0 [(.var 3)]), (.call 17 [(.ls []), (.ls []), (.var 3)])]))))) [
      .ret (.bl false)] [],
    .asg (.nm 10) (.tup [(.var 7), (.ls []), (.ls [])]),
    .forS (.nm 11) .rg [(.call 16 [(.var 1), (.int 24)])] [
      .asg (.nm 12) (.call 15 [(.var 1), (.var 8), (.var 2), (.var 4)]),
      .ite (.andv (.tru (.var 4)) (.one (.cmp .eq (.var 11) (.var 5)))) [
        .asg (.nm 12) (.tup [(.int 0), (.idx (.var 12) (.int 1)), (.int 1)])] [],
      .ite (.cmp .eq (.var 11) (.var 6)) [
        .asg (.nm 10) (.tup [(.var 7), (.var 8), (.var 9)])] [],
      .asg (.nm 13) (.call 18 [(.var 8), (.var 9), (.var 2), (.var 12)]),
      .ite (.notv (.tru (.call 19 [(.var 7), (.var 12), (.var 13)]))) [
        .ret (.bl false)] [],
      .asg (.nm 7) (.idx (.var 13) (.int 2)),
      .ite (.cmp .is (.idx (.var 13) (.int 0)) .non) [
        .asg (.nm 8) (.bin .add (.var 8) (.ls [(.var 12)])),
        .asg (.nm 9) (.bin .add (.var 9) (.bi .list [(.idx (.var 13) (.int 1))]))] []],
    .forS (.nm 11) .rg [(.int 3)] [
      .asg (.nm 12) (.call 15 [(.var 1), (.var 8), (.var 2), (.bl false)]),
      .forS (.nm 14) .sq [(.ls [(.var 10), (.tup [(.var 7), (.var 8), (.var 9)]), (.var 10)])] [
        .ite (.notv (.tru (.call 19 [(.idx (.var 14) (.int 0)), (.var 12), (.call 18 [(.idx (.var 14) (.int 1)), (.idx (.var 14) (.int 2)), (.var 2), (.var 12)])]))) [
          .ret (.bl false)] []]],
    .ret (.bl true)]⟩
def d21 : DDef := constD ("MOST_PENDING", 12)
def tab : List DDef := [d0, d1, d2, d3, d4, d5, d6, d7, d8, d9, d10, d11, d12, d13, d14, d15, d16, d17, d18, d19, d20, d21]
theorem tab0 : tab[0]? = some d0 := rfl
theorem tab1 : tab[1]? = some d1 := rfl
theorem tab2 : tab[2]? = some d2 := rfl
theorem tab3 : tab[3]? = some d3 := rfl
theorem tab4 : tab[4]? = some d4 := rfl
theorem tab5 : tab[5]? = some d5 := rfl
theorem tab6 : tab[6]? = some d6 := rfl
theorem tab7 : tab[7]? = some d7 := rfl
theorem tab8 : tab[8]? = some d8 := rfl
theorem tab9 : tab[9]? = some d9 := rfl
theorem tab10 : tab[10]? = some d10 := rfl
theorem tab11 : tab[11]? = some d11 := rfl
theorem tab12 : tab[12]? = some d12 := rfl
theorem tab13 : tab[13]? = some d13 := rfl
theorem tab14 : tab[14]? = some d14 := rfl
theorem tab15 : tab[15]? = some d15 := rfl
theorem tab16 : tab[16]? = some d16 := rfl
theorem tab17 : tab[17]? = some d17 := rfl
theorem tab18 : tab[18]? = some d18 := rfl
theorem tab19 : tab[19]? = some d19 := rfl
theorem tab20 : tab[20]? = some d20 := rfl
theorem tab21 : tab[21]? = some d21 := rfl
theorem call_eq (n : Nat) (f : Nat) (d : DDef) (h : tab[f]? = some d) (ds : List D) (S : Sto) (k : WK) (hl : ds.length = d.np)
    (w : wSs (callW tab n) d.body (startD d ds) S { nx := fun _ S1 => k .non S1, rt := k }) : callW tab (n + 1) f ds S k := by
  show (match tab[f]? with
    | some d => ds.length = d.np ∧ wSs (callW tab n) d.body (startD d ds) S { nx := fun _ S1 => k .non S1, rt := k }
    | none => False)
  rw [h]
  exact ⟨hl, w⟩
end Tx
-- K67_head
namespace Tx
open PySem PySem.Spec PyProof.Rows L2 Ov
def top (i : Nat) : Stmt := PySem.Challenge.pw_overturn_k67_queue_step_by_step.main.body.getD i (.Pass ⟨0, 0, 0, 0⟩)
def pl : List Nat := [2, 3, 4, 5, 6, 7, 8, 9, 11, 12, 13, 14, 15, 16, 17, 18, 19, 20, 21, 22, 23]
def st (f : Nat) : Stmt := top (pl.getD f 0)
theorem chk0 : chkD tab d0 (st 0) = true := by decide +kernel
theorem chk1 : chkD tab d1 (st 1) = true := by decide +kernel
theorem chk2 : chkD tab d2 (st 2) = true := by decide +kernel
theorem chk3 : chkD tab d3 (st 3) = true := by decide +kernel
theorem chk4 : chkD tab d4 (st 4) = true := by decide +kernel
theorem chk5 : chkD tab d5 (st 5) = true := by decide +kernel
theorem chk6 : chkD tab d6 (st 6) = true := by decide +kernel
theorem chk7 : chkD tab d7 (st 7) = true := by decide +kernel
theorem chk8 : chkD tab d8 (st 8) = true := by decide +kernel
theorem chk9 : chkD tab d9 (st 9) = true := by decide +kernel
theorem chk10 : chkD tab d10 (st 10) = true := by decide +kernel
theorem chk11 : chkD tab d11 (st 11) = true := by decide +kernel
theorem chk12 : chkD tab d12 (st 12) = true := by decide +kernel
theorem chk13 : chkD tab d13 (st 13) = true := by decide +kernel
theorem chk14 : chkD tab d14 (st 14) = true := by decide +kernel
theorem chk15 : chkD tab d15 (st 15) = true := by decide +kernel
theorem chk16 : chkD tab d16 (st 16) = true := by decide +kernel
theorem chk17 : chkD tab d17 (st 17) = true := by decide +kernel
theorem chk18 : chkD tab d18 (st 18) = true := by decide +kernel
theorem chk19 : chkD tab d19 (st 19) = true := by decide +kernel
theorem chk20 : chkD tab d20 (st 20) = true := by decide +kernel
theorem chk : ∀ (f : Nat) (d : DDef), tab[f]? = some d → isC d = false → chkD tab d (st f) = true
  | 0, d, h, hn => by
    cases h
    exact chk0
  | 1, d, h, hn => by
    cases h
    exact chk1
  | 2, d, h, hn => by
    cases h
    exact chk2
  | 3, d, h, hn => by
    cases h
    exact chk3
  | 4, d, h, hn => by
    cases h
    exact chk4
  | 5, d, h, hn => by
    cases h
    exact chk5
  | 6, d, h, hn => by
    cases h
    exact chk6
  | 7, d, h, hn => by
    cases h
    exact chk7
  | 8, d, h, hn => by
    cases h
    exact chk8
  | 9, d, h, hn => by
    cases h
    exact chk9
  | 10, d, h, hn => by
    cases h
    exact chk10
  | 11, d, h, hn => by
    cases h
    exact chk11
  | 12, d, h, hn => by
    cases h
    exact chk12
  | 13, d, h, hn => by
    cases h
    exact chk13
  | 14, d, h, hn => by
    cases h
    exact chk14
  | 15, d, h, hn => by
    cases h
    exact chk15
  | 16, d, h, hn => by
    cases h
    exact chk16
  | 17, d, h, hn => by
    cases h
    exact chk17
  | 18, d, h, hn => by
    cases h
    exact chk18
  | 19, d, h, hn => by
    cases h
    exact chk19
  | 20, d, h, hn => by
    cases h
    exact chk20
  | 21, d, h, hn => by
    cases h
    cases hn
  | n + 22, d, h, hn => by cases h
def dd (f : Nat) (d : DDef) : He.DefD := ⟨(d.name, none), d.name, d.name, defArgs (st f), defBody (st f), defScope (st f), [], []⟩
def fn : List He.DefD := [dd 0 d0, dd 1 d1, dd 2 d2, dd 3 d3, dd 4 d4, dd 5 d5, dd 6 d6, dd 7 d7, dd 8 d8, dd 9 d9, dd 10 d10, dd 11 d11, dd 12 d12, dd 13 d13, dd 14 d14, dd 15 d15, dd 16 d16, dd 17 d17, dd 18 d18, dd 19 d19, dd 20 d20]
def fa : List He.Fa := [.glo "new_queue", .glo "is_duplicate", .glo "is_out_of_order", .glo "rejection", .glo "advanced", .glo "submitted", .glo "admissible_stamps", .glo "awaited_stamp", .glo "_law_tape", .glo "_law_draw", .glo "_law_same", .glo "_law_next", .glo "_law_reason", .glo "_law_ready", .glo "_law_day", .glo "_law_stamp", .glo "_law_many", .glo "_law_queue", .glo "_law_due", .glo "_law_is_told", .glo "law", .free "len", .free "int", .free "abs", .free "bool", .free "tuple", .free "list", .free "max", .free "min", .free "sum", .free "any", .free "all", .free "str", .free "isinstance", .free "range", .free "sorted", .free "enumerate", .free "zip", .int "MOST_PENDING" 12]
def dps : List (Str × D) := []
def dts : List TabD := []
abbrev R : PySem.W.OpenRow := PySem.W.OpenLaw.row PySem.Challenge.rw_overturn_k67_queue_step_by_step
abbrev hk : PySem.W.Hook := hookV 4 fa fn dps dts
def ob (s : PySem.W.SharedT) : AlV := obsVG 4 fa fn dps dts (HandSHeadRun.getT s)
theorem ob_eq (s : PySem.W.SharedT) : ob s = hk.obs s.abs := obsVG_eq (HandSHeadRun.getT_eq s)
def loose : List Str := (["new_queue", "is_duplicate", "is_out_of_order", "rejection", "advanced", "submitted", "admissible_stamps", "awaited_stamp", "_law_tape", "_law_draw", "_law_same", "_law_next", "_law_reason", "_law_ready", "_law_day", "_law_stamp", "_law_many", "_law_queue", "_law_due", "_law_is_told", "MOST_PENDING"] : List Str)
theorem run (w : World) : HandSHeadRun.RunEq R (PySem.W.view R.prog [23]) hk ob 4000 loose w := by
  intro os
  kernel_rfl
theorem tabOk {w : World} {K : PySem.W.Frag} {h : Heap} {mg : Str → Option Value} (X : K.In h) (G : h.Ns mainGlobals mg) (cv : SaysV fa fn dps dts w K) : TabOk tab st w K mg where
  fns := fun f d hd hn => match f, d, hd, hn with
    | 0, d, hd, hn => by
      cases hd
      obtain ⟨fd, F⟩ := cv.d.def_ 0 (d := dd 0 d0) rfl
      exact ⟨_, fd, F, He.glo_ok X G (cv.d.fact 0 (f := .glo "new_queue") rfl), FunD.bindsN F fun _ _ _ _ _ _ us hl => match us, hl with | [_], _ => rfl⟩
    | 1, d, hd, hn => by
      cases hd
      obtain ⟨fd, F⟩ := cv.d.def_ 1 (d := dd 1 d1) rfl
      exact ⟨_, fd, F, He.glo_ok X G (cv.d.fact 1 (f := .glo "is_duplicate") rfl), FunD.bindsN F fun _ _ _ _ _ _ us hl => match us, hl with | [_, _], _ => rfl⟩
    | 2, d, hd, hn => by
      cases hd
      obtain ⟨fd, F⟩ := cv.d.def_ 2 (d := dd 2 d2) rfl
      exact ⟨_, fd, F, He.glo_ok X G (cv.d.fact 2 (f := .glo "is_out_of_order") rfl), FunD.bindsN F fun _ _ _ _ _ _ us hl => match us, hl with | [_, _], _ => rfl⟩
    | 3, d, hd, hn => by
      cases hd
      obtain ⟨fd, F⟩ := cv.d.def_ 3 (d := dd 3 d3) rfl
      exact ⟨_, fd, F, He.glo_ok X G (cv.d.fact 3 (f := .glo "rejection") rfl), FunD.bindsN F fun _ _ _ _ _ _ us hl => match us, hl with | [_, _], _ => rfl⟩
    | 4, d, hd, hn => by
      cases hd
      obtain ⟨fd, F⟩ := cv.d.def_ 4 (d := dd 4 d4) rfl
      exact ⟨_, fd, F, He.glo_ok X G (cv.d.fact 4 (f := .glo "advanced") rfl), FunD.bindsN F fun _ _ _ _ _ _ us hl => match us, hl with | [_, _, _], _ => rfl⟩
    | 5, d, hd, hn => by
      cases hd
      obtain ⟨fd, F⟩ := cv.d.def_ 5 (d := dd 5 d5) rfl
      exact ⟨_, fd, F, He.glo_ok X G (cv.d.fact 5 (f := .glo "submitted") rfl), FunD.bindsN F fun _ _ _ _ _ _ us hl => match us, hl with | [_, _], _ => rfl⟩
    | 6, d, hd, hn => by
      cases hd
      obtain ⟨fd, F⟩ := cv.d.def_ 6 (d := dd 6 d6) rfl
      exact ⟨_, fd, F, He.glo_ok X G (cv.d.fact 6 (f := .glo "admissible_stamps") rfl), FunD.bindsN F fun _ _ _ _ _ _ us hl => match us, hl with | [_], _ => rfl⟩
    | 7, d, hd, hn => by
      cases hd
      obtain ⟨fd, F⟩ := cv.d.def_ 7 (d := dd 7 d7) rfl
      exact ⟨_, fd, F, He.glo_ok X G (cv.d.fact 7 (f := .glo "awaited_stamp") rfl), FunD.bindsN F fun _ _ _ _ _ _ us hl => match us, hl with | [_], _ => rfl⟩
    | 8, d, hd, hn => by
      cases hd
      obtain ⟨fd, F⟩ := cv.d.def_ 8 (d := dd 8 d8) rfl
      exact ⟨_, fd, F, He.glo_ok X G (cv.d.fact 8 (f := .glo "_law_tape") rfl), FunD.bindsN F fun _ _ _ _ _ _ us hl => match us, hl with | [_], _ => rfl⟩
    | 9, d, hd, hn => by
      cases hd
      obtain ⟨fd, F⟩ := cv.d.def_ 9 (d := dd 9 d9) rfl
      exact ⟨_, fd, F, He.glo_ok X G (cv.d.fact 9 (f := .glo "_law_draw") rfl), FunD.bindsN F fun _ _ _ _ _ _ us hl => match us, hl with | [_, _], _ => rfl⟩
    | 10, d, hd, hn => by
      cases hd
      obtain ⟨fd, F⟩ := cv.d.def_ 10 (d := dd 10 d10) rfl
      exact ⟨_, fd, F, He.glo_ok X G (cv.d.fact 10 (f := .glo "_law_same") rfl), FunD.bindsN F fun _ _ _ _ _ _ us hl => match us, hl with | [_, _], _ => rfl⟩
    | 11, d, hd, hn => by
      cases hd
      obtain ⟨fd, F⟩ := cv.d.def_ 11 (d := dd 11 d11) rfl
      exact ⟨_, fd, F, He.glo_ok X G (cv.d.fact 11 (f := .glo "_law_next") rfl), FunD.bindsN F fun _ _ _ _ _ _ us hl => match us, hl with | [_, _], _ => rfl⟩
    | 12, d, hd, hn => by
      cases hd
      obtain ⟨fd, F⟩ := cv.d.def_ 12 (d := dd 12 d12) rfl
      exact ⟨_, fd, F, He.glo_ok X G (cv.d.fact 12 (f := .glo "_law_reason") rfl), FunD.bindsN F fun _ _ _ _ _ _ us hl => match us, hl with | [_, _, _, _], _ => rfl⟩
    | 13, d, hd, hn => by
      cases hd
      obtain ⟨fd, F⟩ := cv.d.def_ 13 (d := dd 13 d13) rfl
      exact ⟨_, fd, F, He.glo_ok X G (cv.d.fact 13 (f := .glo "_law_ready") rfl), FunD.bindsN F fun _ _ _ _ _ _ us hl => match us, hl with | [_, _, _], _ => rfl⟩
    | 14, d, hd, hn => by
      cases hd
      obtain ⟨fd, F⟩ := cv.d.def_ 14 (d := dd 14 d14) rfl
      exact ⟨_, fd, F, He.glo_ok X G (cv.d.fact 14 (f := .glo "_law_day") rfl), FunD.bindsN F fun _ _ _ _ _ _ us hl => match us, hl with | [_, _, _], _ => rfl⟩
    | 15, d, hd, hn => by
      cases hd
      obtain ⟨fd, F⟩ := cv.d.def_ 15 (d := dd 15 d15) rfl
      exact ⟨_, fd, F, He.glo_ok X G (cv.d.fact 15 (f := .glo "_law_stamp") rfl), FunD.bindsN F fun _ _ _ _ _ _ us hl => match us, hl with | [_, _, _, _], _ => rfl⟩
    | 16, d, hd, hn => by
      cases hd
      obtain ⟨fd, F⟩ := cv.d.def_ 16 (d := dd 16 d16) rfl
      exact ⟨_, fd, F, He.glo_ok X G (cv.d.fact 16 (f := .glo "_law_many") rfl), FunD.bindsN F fun _ _ _ _ _ _ us hl => match us, hl with | [_, _], _ => rfl⟩
    | 17, d, hd, hn => by
      cases hd
      obtain ⟨fd, F⟩ := cv.d.def_ 17 (d := dd 17 d17) rfl
      exact ⟨_, fd, F, He.glo_ok X G (cv.d.fact 17 (f := .glo "_law_queue") rfl), FunD.bindsN F fun _ _ _ _ _ _ us hl => match us, hl with | [_, _, _], _ => rfl⟩
    | 18, d, hd, hn => by
      cases hd
      obtain ⟨fd, F⟩ := cv.d.def_ 18 (d := dd 18 d18) rfl
      exact ⟨_, fd, F, He.glo_ok X G (cv.d.fact 18 (f := .glo "_law_due") rfl), FunD.bindsN F fun _ _ _ _ _ _ us hl => match us, hl with | [_, _, _, _], _ => rfl⟩
    | 19, d, hd, hn => by
      cases hd
      obtain ⟨fd, F⟩ := cv.d.def_ 19 (d := dd 19 d19) rfl
      exact ⟨_, fd, F, He.glo_ok X G (cv.d.fact 19 (f := .glo "_law_is_told") rfl), FunD.bindsN F fun _ _ _ _ _ _ us hl => match us, hl with | [_, _, _], _ => rfl⟩
    | 20, d, hd, hn => by
      cases hd
      obtain ⟨fd, F⟩ := cv.d.def_ 20 (d := dd 20 d20) rfl
      exact ⟨_, fd, F, He.glo_ok X G (cv.d.fact 20 (f := .glo "law") rfl), FunD.bindsN F fun _ _ _ _ _ _ us hl => match us, hl with | [_], _ => rfl⟩
    | 21, d, hd, hn => by
      cases hd
      cases hn
    | n + 22, d, hd, hn => by cases hd
  chk := chk
  con := con_of (A := [d0, d1, d2, d3, d4, d5, d6, d7, d8, d9, d10, d11, d12, d13, d14, d15, d16, d17, d18, d19, d20]) (cs := [("MOST_PENDING", 12)]) (ps := dps) (ts := dts) rfl (by decide +kernel) (fun p hp => by
    simp only [List.mem_cons, List.not_mem_nil, or_false] at hp
    rcases hp with rfl
    · exact He.int_ok X G (cv.d.fact 38 (f := .int "MOST_PENDING" 12) rfl))
  dat := dat_of (A := [d0, d1, d2, d3, d4, d5, d6, d7, d8, d9, d10, d11, d12, d13, d14, d15, d16, d17, d18, d19, d20]) (cs := [("MOST_PENDING", 12)]) (ps := dps) (ts := dts) rfl (by decide +kernel) fun p hp => datB_ok X G (cv.dat hp)
  tab := tab_of (A := [d0, d1, d2, d3, d4, d5, d6, d7, d8, d9, d10, d11, d12, d13, d14, d15, d16, d17, d18, d19, d20]) (cs := [("MOST_PENDING", 12)]) (ps := dps) (ts := dts) rfl (by decide +kernel) (fun p hp => by
    simp only [dts, List.mem_cons, List.not_mem_nil, or_false] at hp)
  enu := He.free_ok X G (cv.d.fact 36 (f := .free "enumerate") rfl)
  blt := fun b => by
    cases b
    · exact He.free_ok X G (cv.d.fact 21 (f := .free "len") rfl)
    · exact He.free_ok X G (cv.d.fact 22 (f := .free "int") rfl)
    · exact He.free_ok X G (cv.d.fact 23 (f := .free "abs") rfl)
    · exact He.free_ok X G (cv.d.fact 24 (f := .free "bool") rfl)
    · exact He.free_ok X G (cv.d.fact 25 (f := .free "tuple") rfl)
    · exact He.free_ok X G (cv.d.fact 26 (f := .free "list") rfl)
    · exact He.free_ok X G (cv.d.fact 26 (f := .free "list") rfl)
    · exact He.free_ok X G (cv.d.fact 27 (f := .free "max") rfl)
    · exact He.free_ok X G (cv.d.fact 28 (f := .free "min") rfl)
    · exact He.free_ok X G (cv.d.fact 29 (f := .free "sum") rfl)
    · exact He.free_ok X G (cv.d.fact 30 (f := .free "any") rfl)
    · exact He.free_ok X G (cv.d.fact 31 (f := .free "all") rfl)
    · exact He.free_ok X G (cv.d.fact 32 (f := .free "str") rfl)
    · exact He.free_ok X G (cv.d.fact 35 (f := .free "sorted") rfl)
    · exact He.free_ok X G (cv.d.fact 35 (f := .free "sorted") rfl)
    · exact He.free_ok X G (cv.d.fact 33 (f := .free "isinstance") rfl)
    · exact He.free_ok X G (cv.d.fact 34 (f := .free "range") rfl)
    · exact He.free_ok X G (cv.d.fact 25 (f := .free "tuple") rfl)
  zip := He.free_ok X G (cv.d.fact 37 (f := .free "zip") rfl)
  rng := He.free_ok X G (cv.d.fact 34 (f := .free "range") rfl)
theorem facts {P : Program} {w : World} {K : PySem.W.Frag} {h : Heap} {mg : Str → Option Value} {f : Addr} (X : K.In h) (G : h.Ns mainGlobals mg) (hfa : mg ("law" : Str) = some (.ref f)) (cv : SaysV fa fn dps dts w K) :
    ∃ fd : FuncData, (∀ (s : Shared) (v : Value), BindsTo s fd ⟨[v], []⟩ [("script", v)]) ∧ ∀ base : Heap, K.In base → base.Ns mainGlobals mg → FnOk P w K mg base CX0 100 f fd ["script"] (spD K (callW tab 100 20)) := by
  have c := cv.d
  have O := tabOk X G cv
  obtain ⟨fd, F⟩ := c.def_ 20 (d := dd 20 d20) rfl
  have e := hfa.symm.trans (He.glo_ok X G (c.fact 20 (f := .glo "law") rfl))
  cases e
  have b := FunD.bindsA (ps := ["script"]) F fun _ _ _ _ _ _ us hl => match us, hl with | [_], _ => rfl
  exact ⟨fd, fun s v => b s [v] rfl, fun base _ _ => tab_ok O 100 20 d20 rfl rfl _ fd F⟩
end Tx
open PySem PySem.W PySem.Calls PyProof.Rows
theorem Tx.law_end (hl : ∀ ns : List Int, ns.length ≤ 63 → Ov.callW Tx.tab 100 20 [.ro (ns.map Ov.D.int)] [] fun d _ => d = .bl true) : PySem.Challenge.rw_overturn_k67_queue_step_by_step.Holds := by
  w_on; o_law
  refine HandSHeadRun.head_any (r := OpenLaw.row PySem.Challenge.rw_overturn_k67_queue_step_by_step) (q := view (OpenLaw.row PySem.Challenge.rw_overturn_k67_queue_step_by_step).prog [23]) (H := Tx.hk) (ob := Tx.ob) (M := 4000) (loose := Tx.loose) (d := HandSHeadRun.topDef (OpenLaw.row PySem.Challenge.rw_overturn_k67_queue_step_by_step).prog 23) (kwd := []) Tx.ob_eq
    (by kernel_rfl) (fun s => by kernel_rfl) Tx.run (by kernel_rfl) (by kernel_rfl) (by kernel_rfl) (by rfl) (by first | assumption | decide +kernel) (by decide +kernel) ⟨rfl, rfl, rfl, rfl, rfl, by decide +kernel⟩ ?hw ?hc
  case hw => w_witness2
  case hc =>
    refine L2.walk_ofE (l := PySem.Challenge.rw_overturn_k67_queue_step_by_step) (n := 63) (k := 100) (x := "script") (CX := L2.CX0) rfl (by decide) (by kernel_rfl) ⟨rfl, by decide, by decide⟩ ?F (fun _ _ _ _ z => z)
    intro w mg fa h Y G hmg0
    obtain ⟨K, KX, c⟩ := Y
    have hmg : mg ("law" : PySem.Str) = some (.ref fa) := by
      have e : (HandSHeadRun.topDef (OpenLaw.row PySem.Challenge.rw_overturn_k67_queue_step_by_step).prog 23).name = ("law" : PySem.Str) := by kernel_rfl
      rw [← e]
      exact hmg0
    obtain ⟨fd, hb, hF⟩ := Tx.facts (P := (PySem.Challenge.rw_overturn_k67_queue_step_by_step).prog) (w := w) KX G hmg c
    exact ⟨K, fd, _, KX, hb, Ov.law_sp hl, hF⟩
-- K67_law
namespace Ov
open PySem L2
local macro_rules | `(tactic| walk_at "w") => `(tactic| conv => whnf)
local macro_rules | `(tactic| walk_at "y") => `(tactic| refine ⟨fun _ => ?_, fun hb => y_end hb⟩)
local macro_rules | `(tactic| walk_at "n") => `(tactic| refine ⟨fun hb => n_end hb, fun _ => ?_⟩)
instance : QuT Tx.tab 0 1 2 3 4 5 6 7 where
  h0 := Tx.tab0
  h1 := Tx.tab1
  h2 := Tx.tab2
  h3 := Tx.tab3
  h4 := Tx.tab4
  h5 := Tx.tab5
  h6 := Tx.tab6
  h7 := Tx.tab7
theorem reason_of {m : Nat} {wm : WM} {pd gone acc : List T3} (I : QI m wm pd gone acc) (J : QW wm pd gone acc) {st : T3} (d0 : 0 ≤ st.1) (o0 : 0 ≤ st.2.1) (s1 : 1 ≤ st.2.2) : reasonF acc ((acc.length : Int) - gone.length) m st = rejD wm pd st := by
  have hl := I.perm.length_eq
  rw [List.length_append] at hl
  unfold reasonF rejD
  rw [I.len]
  by_cases c : (m : Int) ≤ st.2.1
  · rw [if_pos c, if_pos c]
  rw [if_neg c, if_neg c]
  have gw := wq_get (wm := wm) o0 (by rw [I.len]; omega)
  have onat : ((st.2.1.toNat : Nat) : Int) = st.2.1 := Int.toNat_of_nonneg o0
  have accm : ∀ p ∈ acc, p ∈ gone ∨ p ∈ pd := fun p h => List.mem_append.mp (I.perm.mem_iff.mpr h)
  have pdacc : ∀ p ∈ pd, p ∈ acc := fun p h => I.perm.mem_iff.mp (List.mem_append_right _ h)
  have ownm : ∀ p, p ∈ ownQ acc st ↔ p ∈ acc ∧ p.2.1 = st.2.1 := fun p => by
    unfold ownQ
    rw [List.mem_filter]
    exact ⟨fun h => ⟨h.1, eqI_t h.2⟩, fun h => ⟨h.1, by rw [h.2]; exact eqI_refl _⟩⟩
  have ed : (((ownQ acc st).map (·.2.2)).map D.int).any (fun z => eqD z (.int st.2.2)) = dupB (wq wm st) pd st := by
    rw [Bool.eq_iff_iff]
    unfold dupB
    rw [Bool.or_eq_true, decide_eq_true_eq, List.any_eq_true, List.any_eq_true]
    constructor
    · rintro ⟨x, hx, he⟩
      obtain ⟨v, hv, rfl⟩ := List.mem_map.mp hx
      obtain ⟨p, hp, rfl⟩ := List.mem_map.mp hv
      obtain ⟨h1, h2⟩ := (ownm p).mp hp
      have he := eqI_t he
      rcases accm p h1 with h | h
      · left
        have := J.past p h (wq wm st) (by rw [h2]; exact gw)
        omega
      · right
        exact ⟨p, h, by rw [hitQ_eq, decide_eq_true_eq]; exact Prod.ext h2 he⟩
    · have hit : (∃ p ∈ acc, p.2 = st.2) → ∃ x ∈ ((ownQ acc st).map (·.2.2)).map D.int, eqD x (.int st.2.2) = true := by
        rintro ⟨p, h1, h2⟩
        exact ⟨.int p.2.2, List.mem_map.mpr ⟨_, List.mem_map.mpr ⟨p, (ownm p).mpr ⟨h1, by rw [h2]⟩, rfl⟩, rfl⟩, by rw [h2]; exact eqI_refl _⟩
      rintro (h | ⟨p, hp, he⟩)
      · obtain ⟨p, h1, h2⟩ := (J.full _ _ gw).2 st.2.2 s1 h
        exact hit ⟨p, h1, by rw [h2, onat]⟩
      · rw [hitQ_eq, decide_eq_true_eq] at he
        exact hit ⟨p, pdacc p hp, he⟩
  rw [ed]
  cases hd : dupB (wq wm st) pd st with
  | true => rfl
  | false =>
    rw [if_neg Bool.false_ne_true, if_neg Bool.false_ne_true]
    have ws : (wq wm st).1 < st.2.2 := by
      unfold dupB at hd
      rw [Bool.or_eq_false_iff] at hd
      have a := of_decide_eq_false hd.1
      omega
    have eo : (ownQ acc st).any (seqP st) = oooB (wq wm st) pd st := by
      rw [Bool.eq_iff_iff]
      unfold oooB
      rw [Bool.or_eq_true, decide_eq_true_eq, List.any_eq_true, List.any_eq_true]
      constructor
      · rintro ⟨p, hp, he⟩
        obtain ⟨h1, h2⟩ := (ownm p).mp hp
        rcases accm p h1 with h | h
        · left
          have a := J.past p h (wq wm st) (by rw [h2]; exact gw)
          have b := J.down p h1 (wq wm st) (by rw [h2]; exact gw) a
          unfold seqP at he
          rw [Bool.or_eq_true, Bool.and_eq_true, Bool.and_eq_true, decide_eq_true_eq, decide_eq_true_eq, decide_eq_true_eq, decide_eq_true_eq] at he
          omega
        · right
          refine ⟨p, h, ?_⟩
          unfold oooP
          rw [decide_eq_true h2, Bool.true_and]
          exact he
      · rintro (h | ⟨p, hp, he⟩)
        · rcases J.last _ _ gw with h3 | h3
          · rw [h3] at h
            have h : st.1 < 0 := h
            omega
          · refine ⟨_, (ownm _).mpr ⟨h3, onat⟩, ?_⟩
            unfold seqP
            rw [decide_eq_true (show (wq wm st).1 < st.2.2 from ws), decide_eq_true (show st.1 < (wq wm st).2 from h)]
            rfl
        · unfold oooP at he
          rw [Bool.and_eq_true, decide_eq_true_eq] at he
          exact ⟨p, (ownm p).mpr ⟨pdacc p hp, he.1⟩, he.2⟩
    rw [eo]
    cases oooB (wq wm st) pd st with
    | true => rfl
    | false =>
      rw [if_neg Bool.false_ne_true, if_neg Bool.false_ne_true]
      by_cases c2 : 12 ≤ pd.length
      · rw [if_pos c2, if_pos (by omega)]
      · rw [if_neg c2, if_neg (by omega)]
/-! ### the queue, what is due -/
theorem queueQ_spec {n : Nat} (acc gone : List T3) {m : Nat} (hm : m ≤ 1000) (hz : acc.length ≤ 1000) {S : Sto} {k : WK} (h : k (queueF acc gone m) S) : Run Tx.tab (n + 2) 17 [.ro (acc.map tripI), .ro (gone.map tripI), .int m] S k := by
  refine run_of Tx.tab17 rfl ?_
  walk_at "w"
  refine ⟨⟨by omega, by omega⟩, by rw [rangeD_len]; show _ < 16777216; omega, ?_⟩
  refine comp_sel (fun (i : Nat) => D.int (0 + (i : Int))) (fun _ => true) (fun i => tripI (nextQ acc (0 + (i : Int)))) (List.range m) _ (fun i hi kk k1 _ => ?_) ?_
  · walk_at "w"
    refine ⟨fun _ => ?_, fun hb => y_end hb⟩
    refine nextQ_spec (n := n) Tx.tab11 acc _ (by omega) (.inl rfl) ?_
    exact k1 rfl
  have e1 : (List.range m).map (fun (i : Nat) => tripI (nextQ acc (0 + (i : Int)))) = (firsts acc m).map tripI := by
    unfold firsts
    rw [List.map_map]
    refine List.map_congr_left fun i _ => ?_
    rw [Int.zero_add]
    rfl
  rw [List.filter_eq_self.mpr (fun _ _ => rfl), e1]
  walk_at "w"
  refine sortT_W (ts := acc) rfl fun ts hp hs => ?_
  have tl : ts.length ≤ 1000 := by rw [hp.length_eq]; exact hz
  walk_at "w"
  refine ⟨by rw [List.length_map]; show _ < 16777216; omega, ?_⟩
  refine comp_sel tripI (fun t => !decide (t ∈ gone)) tripI ts _ (fun t _ kk k1 k2 => ?_) ?_
  · walk_at "w"
    refine ⟨⟨ints_okEq [t.1, t.2.1, t.2.2], trips_okEq gone⟩, ?_⟩
    rw [show ((gone.map tripI).any fun z => eqD z (.tup [.int t.1, .int t.2.1, .int t.2.2])) = decide (t ∈ gone) from any_trips gone t]
    exact ⟨k1, k2⟩
  rw [srtT_uniq hp hs]
  have fl : (firsts acc m).length ≤ 1000 := by unfold firsts; rw [List.length_map, List.length_range]; exact hm
  unfold queueF marksF restF at h
  generalize firsts acc m = fs at fl h
  walk_at "w"
  refine ⟨by rw [List.length_map]; show _ < 16777216; omega, ?_⟩
  refine comp_sel tripI (fun _ => true) (fun s => pairI (s.2.2 - 1, s.1)) fs _ (fun t _ kk k1 _ => ?_) ?_
  · walk_at "w"
    refine ⟨fun _ => ?_, fun hb => y_end hb⟩
    exact k1 rfl
  rw [List.filter_eq_self.mpr (fun _ _ => rfl)]
  walk_at "w"
  unfold qD at h
  rw [List.map_map] at h
  exact h
def dueF (acc gone : List T3) (m : Nat) (st : T3) : D :=
  match reasonF acc ((acc.length : Int) - gone.length) m st with
  | .non => .tup [.non, .tup ((readyF (acc ++ [st]) gone m).map tripI), queueF (acc ++ [st]) (gone ++ readyF (acc ++ [st]) gone m) m]
  | r => .tup [r, .tup [], queueF acc gone m]
theorem reason_kind (acc : List T3) (w : Int) (m : Nat) (st : T3) : reasonF acc w m st = .non ∨ ∃ z, reasonF acc w m st = .str z := by
  unfold reasonF
  split
  · exact .inr ⟨_, rfl⟩
  · split
    · exact .inr ⟨_, rfl⟩
    · split
      · exact .inr ⟨_, rfl⟩
      · split
        · exact .inr ⟨_, rfl⟩
        · exact .inl rfl
theorem dueQ_spec {n : Nat} (acc gone : List T3) {m : Nat} (st : T3) (hm : m ≤ 1000) (hz : acc.length ≤ 100) (hz2 : gone.length ≤ 100) {S : Sto} {k : WK} (h : ∀ S', Keep S S' → k (dueF acc gone m st) S') : Run Tx.tab (n + 4) 18 [.ro (acc.map tripI), .ro (gone.map tripI), .int m, tripI st] S k := by
  refine run_of Tx.tab18 rfl ?_
  walk_at "w"
  rw [List.length_map, List.length_map]
  refine reasonQ_spec (n := n + 2) Tx.tab12 acc _ m st (by omega) ?_
  unfold dueF at h
  rcases reason_kind acc ((acc.length : Int) - gone.length) m st with e | ⟨z, e⟩
  · rw [e] at h ⊢
    walk_at "w"
    walk_at "n"
    walk_at "w"
    refine ⟨by rw [List.length_map]; show _ + 1 ≤ 16777216; omega, ?_⟩
    have ea : (acc.map tripI) ++ [tripI st] = (acc ++ [st]).map tripI := by rw [List.map_append]; rfl
    rw [ea]
    have h : ∀ S', Keep S S' → k (.tup [.non, .tup ((readyF (acc ++ [st]) gone m).map tripI), queueF (acc ++ [st]) (gone ++ readyF (acc ++ [st]) gone m) m]) S' := h
    have la : (acc ++ [st]).length ≤ 1000 := by rw [List.length_append]; show _ + 1 ≤ 1000; omega
    generalize acc ++ [st] = more at h la
    walk_at "w"
    refine readyQ_spec (n := n + 1) Tx.tab13 Tx.tab11 more gone hm la (firsts more m) rfl (.inl rfl) fun ts hp hs => ?_
    rw [srtT_uniq hp hs]
    have lr : (readyF more gone m).length ≤ 1000 := by
      have := List.length_filter_le (isR gone (firsts more m)) (srtT more)
      rw [(srtT_perm more).length_eq] at this
      exact Nat.le_trans this la
    rw [show (srtT more).filter (isR gone (firsts more m)) = readyF more gone m from rfl]
    generalize readyF more gone m = rd at h lr
    have eS : (S ++ [rd.map tripI])[S.length]? = some (rd.map tripI) := List.getElem?_concat_length ..
    walk_at "w"
    rw [show seqOf (S ++ [rd.map tripI]) (.ptr S.length) = _ from eS]
    walk_at "w"
    rw [show listOf (S ++ [rd.map tripI]) (.ptr S.length) = _ from eS]
    refine ⟨by rw [List.length_map, List.length_map]; show _ ≤ 16777216; omega, ?_⟩
    rw [← List.map_append]
    refine queueQ_spec (n := n + 1) more (gone ++ rd) hm la ?_
    exact h _ (Keep.app _ _)
  · rw [e] at h ⊢
    walk_at "w"
    walk_at "y"
    walk_at "w"
    refine queueQ_spec (n := n + 1) acc gone hm (by omega) ?_
    exact h S (Keep.refl S)
/-! ### told and due -/
theorem adv_ex (ts : List T3) (o : Int) : ∀ (z : Nat) (w : Int × Int), aheadQ ts w.1 ≤ z → ∃ w', Adv ts o w w'
  | z, w, hz => by
    cases hd : dayQ ts o (w.1 + 1) with
    | none => exact ⟨w, .stop hd⟩
    | some d =>
      have hl := ahead_lt hd
      match z, hz with
      | 0, hz => omega
      | z + 1, hz =>
        obtain ⟨w', h⟩ := adv_ex ts o z (w.1 + 1, d) (by show aheadQ ts (w.1 + 1) ≤ z; omega)
        exact ⟨w', .step hd h⟩
theorem sub_ex {wm : WM} {pd : List T3} {st : T3} (h0 : 0 < wm.length) : ∃ pr wm' pd', SubQ wm pd st pr wm' pd' := by
  obtain ⟨w', hA⟩ := adv_ex (srtT (pd ++ [st])) st.2.1 _ (wq wm st) (Nat.le_refl _)
  obtain ⟨a, ha, hl⟩ := least_of (adm_ne (wm := wm.set st.2.1.toNat w') (by rw [List.length_set]; exact h0))
  exact ⟨_, _, _, ⟨_, w', a, srtT_perm _, srtT_sorted _, hA, rfl, ha, hl, rfl, rfl⟩⟩
structure QS (m : Nat) (wm : WM) (pd gone acc : List T3) (i : Nat) : Prop where
  I : QI m wm pd gone acc
  J : QW wm pd gone acc
  d : D4 acc
  l : acc.length ≤ i
def GS (st : T3) : Prop := 0 ≤ st.1 ∧ st.1 ≤ 400 ∧ 0 ≤ st.2.1 ∧ 1 ≤ st.2.2
theorem QS.gl {m : Nat} {wm : WM} {pd gone acc : List T3} {i : Nat} (q : QS m wm pd gone acc i) : gone.length ≤ acc.length := by
  have := q.I.perm.length_eq
  rw [List.length_append] at this
  omega
theorem QS.step {m : Nat} {wm : WM} {pd gone acc : List T3} {i : Nat} (q : QS m wm pd gone acc i) {st : T3} (g : GS st) (hr : isNonD (rejD wm pd st) = true) {pr : List T3} {wm' : WM} {pd' : List T3} (s : SubQ wm pd st pr wm' pd') : QS m wm' pd' (gone ++ pr) (acc ++ [st]) (i + 1) := ⟨q.I.step g.2.2.1 hr s, q.J.step q.I g.2.2.1 hr s, fun p hp => by
  rcases List.mem_append.mp hp with hp | hp
  · exact q.d p hp
  · rw [List.mem_singleton.mp hp]
    exact ⟨g.1, g.2.1⟩, by rw [List.length_append]; exact Nat.succ_le_succ q.l⟩
theorem due_no {m : Nat} {wm : WM} {pd gone acc : List T3} {i : Nat} (q : QS m wm pd gone acc i) {st : T3} (g : GS st) (hr : isNonD (rejD wm pd st) = false) : dueF acc gone m st = .tup [rejD wm pd st, .tup [], qD wm pd] := by
  unfold dueF
  rw [reason_of q.I q.J g.1 g.2.2.1 g.2.2.2, queue_of q.I q.J]
  rcases reason_kind acc ((acc.length : Int) - gone.length) m st with e | ⟨z, e⟩ <;> rw [reason_of q.I q.J g.1 g.2.2.1 g.2.2.2] at e <;> rw [e] at hr ⊢
  cases hr
theorem due_sub {m : Nat} (m1 : 1 ≤ m) {wm : WM} {pd gone acc : List T3} {i : Nat} (q : QS m wm pd gone acc i) {st : T3} (g : GS st) (hr : isNonD (rejD wm pd st) = true) {pr : List T3} {wm' : WM} {pd' : List T3} (s : SubQ wm pd st pr wm' pd') : dueF acc gone m st = .tup [.non, .tup (pr.map tripI), qD wm' pd'] := by
  have q' := q.step g hr s
  unfold dueF
  rw [reason_of q.I q.J g.1 g.2.2.1 g.2.2.2, ready_of m1 q'.I q'.J, queue_of q'.I q'.J]
  rcases reason_kind acc ((acc.length : Int) - gone.length) m st with e | ⟨z, e⟩ <;> rw [reason_of q.I q.J g.1 g.2.2.1 g.2.2.2] at e <;> rw [e] at hr ⊢
  cases hr
theorem rej_dat (wm : WM) (pd : List T3) (st : T3) : rejD wm pd st = .non ∨ ∃ z, rejD wm pd st = .str z := by
  unfold rejD
  split
  · exact .inr ⟨_, rfl⟩
  · split
    · exact .inr ⟨_, rfl⟩
    · split
      · exact .inr ⟨_, rfl⟩
      · split
        · exact .inr ⟨_, rfl⟩
        · exact .inl rfl
theorem trips_good' {m : Nat} : ∀ ts : List T3, goods (m + 1) (ts.map tripI)
  | [] => trivial
  | t :: ts => ⟨⟨by show (3 : Nat) < 1000000; decide, (by cases m <;> trivial), (by cases m <;> trivial), (by cases m <;> trivial), (by cases m <;> trivial)⟩, trips_good' ts⟩
theorem told_spec {n m : Nat} (m1 : 1 ≤ m) (m2 : m ≤ 3) {wm : WM} {pd gone acc : List T3} {i : Nat} (i1 : i ≤ 100) (q : QS m wm pd gone acc i) {st : T3} (g : GS st) {S : Sto} {k : WK} (h : ∀ S', Keep S S' → k (.bl true) S') : Run Tx.tab (n + 8) 19 [qD wm pd, tripI st, dueF acc gone m st] S k := by
  refine run_of Tx.tab19 rfl ?_
  have few := q.I.few
  have hl := q.I.len
  rcases rej_dat wm pd st with e | ⟨z, e⟩
  · have hr : isNonD (rejD wm pd st) = true := by rw [e]; rfl
    obtain ⟨pr, wm', pd', s⟩ := sub_ex (wm := wm) (pd := pd) (st := st) (by omega)
    have q' := q.step g hr s
    have few' := q'.I.few
    have gl' := q'.gl
    have al' := q'.l
    have nl := List.length_append (as := acc) (bs := [st])
    have n1 : [st].length = 1 := rfl
    rw [List.length_append] at gl'
    have prl : pr.length < 1000000 := by omega
    rw [due_sub m1 q g hr s]
    walk_at "w"
    refine rejQ_spec (n := n + 5) wm pd st g.2.2.1 (by omega) ?_
    rw [e]
    walk_at "w"
    refine same_spec Tx.tab10 0 (n + 6) _ S _ trivial ?_
    walk_at "w"
    refine subQ_spec (n := n + 4) wm pd st g.2.2.1 ⟨by omega, q.I.nd⟩ (by omega) (fun hn => by rw [hr] at hn; cases hn) (fun _ pr2 wm2 pd2 S2 s2 kp => ?_)
    have ee := (due_sub m1 q g hr s2).symm.trans (due_sub m1 q g hr s)
    rw [ee]
    walk_at "w"
    refine same_spec Tx.tab10 4 (n + 2) _ S2 _ ⟨by show (3 : Nat) < 1000000; decide, trivial, ⟨by rw [List.length_map]; exact prl, trips_good' _⟩, ?_, trivial⟩ (h S2 kp)
    exact q_good (by rw [q'.I.len]; omega) (by omega)
  · have hr : isNonD (rejD wm pd st) = false := by rw [e]; rfl
    rw [due_no q g hr, e]
    walk_at "w"
    refine rejQ_spec (n := n + 5) wm pd st g.2.2.1 (by omega) ?_
    rw [e]
    walk_at "w"
    refine same_spec Tx.tab10 0 (n + 6) _ S _ trivial ?_
    walk_at "w"
    refine subQ_spec (n := n + 4) wm pd st g.2.2.1 ⟨by omega, q.I.nd⟩ (by omega) (fun _ => ?_) (fun hn pr2 wm2 pd2 S2 s2 kp => by rw [hr] at hn; cases hn)
    rw [e]
    walk_at "w"
    refine same_spec Tx.tab10 4 (n + 2) _ S _ ⟨by show (3 : Nat) < 1000000; decide, trivial, ⟨by show (0 : Nat) < 1000000; decide, trivial⟩, ?_, trivial⟩ (h S (Keep.refl S))
    exact q_good (by omega) (by omega)
def lpBody : List PSt := match Tx.d20.body with
  | [_, _, _, _, _, _, _, _, _, _, _, .forS _ _ _ bb, _, _] => bb
  | _ => []
def stD (wm : WM) (pd gone acc : List T3) : D := .tup [qD wm pd, .ro (acc.map tripI), .ro (gone.map tripI)]
def LInv (ns : List Int) (t m : Nat) (ot pl mk : Int) (held : Bool) (i : Nat) : DEnv → Sto → Prop := fun σ S => Tape S t ∧ ∃ (wm : WM) (pd gone acc : List T3) (wm2 : WM) (pd2 gone2 acc2 : List T3) (v11 v12 v13 v14 : Option D),
  σ = [some (.ro (ns.map .int)), some (.ptr t), some (.int m), some (.int ot), some (.bl held), some (.int pl), some (.int mk), some (qD wm pd), some (.ro (acc.map tripI)), some (.ro (gone.map tripI)), some (stD wm2 pd2 gone2 acc2), v11, v12, v13, v14] ∧ QS m wm pd gone acc i ∧ QS m wm2 pd2 gone2 acc2 i
theorem QS.mono {m : Nat} {wm : WM} {pd gone acc : List T3} {i j : Nat} (q : QS m wm pd gone acc i) (h : i ≤ j) : QS m wm pd gone acc j := ⟨q.I, q.J, q.d, Nat.le_trans q.l h⟩
theorem QS.new (m : Nat) : QS m (List.replicate m (0, 0)) [] [] [] 0 := ⟨QI.new m, QW.new m, (fun p h => nomatch h), Nat.le_refl _⟩
theorem Tape.keep {S S' : Sto} {t : Nat} (h : Tape S t) (k : Keep S S') : Tape S' t := let ⟨xs, e, r⟩ := h; ⟨xs, k.2 _ _ e, r⟩
theorem law_spec (ns : List Int) : Run Tx.tab 100 20 [.ro (ns.map .int)] [] fun d _ => d = .bl true := by
  refine run_of Tx.tab20 rfl ?_
  walk_at "w"
  refine tape_spec Tx.tab8 fun S1 ht1 hl1 kb1 => ?_
  generalize ([] : Sto).length = t at ht1
  walk_at "w"
  refine draw_spec (many := 3) Tx.tab9 ht1 (by decide) fun a S2 a0 a1 ht2 _ _ => ?_
  have a1 : a < 3 := a1
  obtain ⟨m, hma, m1, m3⟩ : ∃ m : Nat, 1 + a = m ∧ 1 ≤ m ∧ m ≤ 3 := ⟨(1 + a).toNat, by omega, by omega, by omega⟩
  walk_at "w"
  rw [hma]
  refine draw_spec (many := 2) Tx.tab9 ht2 (by decide) fun b S3 b0 b1 ht3 _ _ => ?_
  have b1 : b < 2 := b1
  walk_at "w"
  refine ⟨by decide, ?_⟩
  obtain ⟨o, hob, o1, o3⟩ : ∃ o : Nat, 1 + (m + b) % 3 = o ∧ 1 ≤ o ∧ o ≤ 3 := ⟨(1 + (m + b) % 3).toNat, by omega, by omega, by omega⟩
  walk_at "w"
  rw [hob]
  refine draw_spec (many := 4) Tx.tab9 ht3 (by decide) fun c S4 c0 c1 ht4 _ _ => ?_
  walk_at "w"
  refine ⟨rfl, ?_⟩
  generalize eqD (.int c) (.int 0) = held
  refine draw_spec (many := 24) Tx.tab9 ht4 (by decide) fun pl S5 _ _ ht5 _ _ => ?_
  walk_at "w"
  refine draw_spec (many := 24) Tx.tab9 ht5 (by decide) fun mk S6 _ _ ht6 _ _ => ?_
  walk_at "w"
  refine newQ_spec (n := 98) (m := m) (by omega) ?_
  walk_at "w"
  refine queueQ_spec (n := 97) [] [] (m := m) (by omega) (by decide) ?_
  rw [queue_of (QI.new m) (QW.new m)]
  walk_at "w"
  refine same_spec Tx.tab10 3 95 _ S6 _ (q_good (by rw [List.length_replicate]; omega) (by decide)) ?_
  walk_at "w"
  walk_at "n"
  walk_at "w"
  refine newQ_spec (n := 98) (m := o) (by omega) ?_
  walk_at "w"
  refine queueQ_spec (n := 97) [] [] (m := o) (by omega) (by decide) ?_
  rw [queue_of (QI.new o) (QW.new o)]
  walk_at "w"
  refine same_spec Tx.tab10 3 95 _ S6 _ (q_good (by rw [List.length_replicate]; omega) (by decide)) ?_
  walk_at "w"
  walk_at "n"
  walk_at "w"
  refine manyQ_spec (n := 97) Tx.tab16 Tx.tab9 ht6 fun w S7 w24 ht7 kb7 => ?_
  walk_at "w"
  refine ⟨⟨by omega, by omega⟩, trivial, ?_⟩
  refine for_inv (Run_mono Tx.tab 99) (LInv ns t m o pl mk held) ⟨ht7, _, [], [], [], _, [], [], [], none, none, none, none, rfl, QS.new m, QS.new m⟩ ?_ ?_
  · rintro i x σ S hx ⟨ht, wm, pd, gone, acc, wm2, pd2, gone2, acc2, v11, v12, v13, v14, rfl, q, q2⟩
    obtain ⟨il, rfl⟩ := range_at hx
    have i24 : i < 24 := by omega
    have al := q.l
    walk_at "w"
    refine stampQ_spec (n := 96) Tx.tab15 Tx.tab14 Tx.tab9 held ht (.inl rfl) q.d (fun p h => (q.J.pos p h).1) (by omega) (by omega) (by omega) fun st S1 d0 d1 o0 s1 ht1 kb1 => ?_
    have fin : ∀ (st : T3), GS st → ∀ (wm2 : WM) (pd2 gone2 acc2 : List T3), QS m wm2 pd2 gone2 acc2 i → wSs (Run Tx.tab 99) (lpBody.drop 3) [some (.ro (ns.map .int)), some (.ptr t), some (.int m), some (.int o), some (.bl held), some (.int pl), some (.int mk), some (qD wm pd), some (.ro (acc.map tripI)), some (.ro (gone.map tripI)), some (stD wm2 pd2 gone2 acc2), some (.int (0 + (i : Int))), some (tripI st), v13, v14] S1 { nx := LInv ns t m o pl mk held (i + 1), rt := fun d _ => d = .bl true, bk := fun _ _ => False, ct := LInv ns t m o pl mk held (i + 1) } := by
      intro st g wm2 pd2 gone2 acc2 q2
      have gl := q.gl
      walk_at "w"
      refine dueQ_spec (n := 95) acc gone st (by omega) (by omega) (by omega) fun S2 kp2 => ?_
      walk_at "w"
      refine told_spec (n := 91) m1 m3 (by omega) q g fun S3 kp3 => ?_
      walk_at "w"
      walk_at "n"
      have ht3 := (ht1.keep kp2).keep kp3
      rcases rej_dat wm pd st with e | ⟨z, e⟩
      · have hr : isNonD (rejD wm pd st) = true := by rw [e]; rfl
        obtain ⟨pr, wm', pd', s⟩ := sub_ex (wm := wm) (pd := pd) (st := st) (by rw [q.I.len]; omega)
        have q' := q.step g hr s
        have few' := q'.I.few
        have gl' := q'.gl
        have al' := q'.l
        rw [List.length_append] at gl'
        have nl := List.length_append (as := acc) (bs := [st])
        have n1 : [st].length = 1 := rfl
        rw [due_sub m1 q g hr s]
        walk_at "w"
        walk_at "y"
        walk_at "w"
        refine ⟨by rw [List.length_map]; show _ + 1 ≤ 16777216; omega, ?_⟩
        rw [show acc.map tripI ++ [tripI st] = (acc ++ [st]).map tripI by rw [List.map_append]; rfl]
        walk_at "w"
        refine ⟨by rw [List.length_map, List.length_map]; show _ ≤ 16777216; omega, ?_⟩
        rw [← List.map_append]
        exact ⟨ht3, wm', pd', gone ++ pr, acc ++ [st], wm2, pd2, gone2, acc2, _, _, _, _, rfl, q', q2.mono (by omega)⟩
      · have hr : isNonD (rejD wm pd st) = false := by rw [e]; rfl
        rw [due_no q g hr, e]
        walk_at "w"
        walk_at "n"
        exact ⟨ht3, wm, pd, gone, acc, wm2, pd2, gone2, acc2, _, _, _, _, rfl, q.mono (by omega), q2.mono (by omega)⟩
    have mid : ∀ (st : T3), GS st → wSs (Run Tx.tab 99) (lpBody.drop 2) [some (.ro (ns.map .int)), some (.ptr t), some (.int m), some (.int o), some (.bl held), some (.int pl), some (.int mk), some (qD wm pd), some (.ro (acc.map tripI)), some (.ro (gone.map tripI)), some (stD wm2 pd2 gone2 acc2), some (.int (0 + (i : Int))), some (tripI st), v13, v14] S1 { nx := LInv ns t m o pl mk held (i + 1), rt := fun d _ => d = .bl true, bk := fun _ _ => False, ct := LInv ns t m o pl mk held (i + 1) } := by
      intro st g
      walk_at "w"
      refine ⟨rfl, fun _ => ?_, fun _ => fin st g wm2 pd2 gone2 acc2 q2⟩
      exact fin st g wm pd gone acc q
    cases held with
    | true =>
      walk_at "w"
      walk_at "y"
      walk_at "w"
      refine ⟨rfl, fun _ => ?_, fun _ => mid st ⟨d0, d1, o0, s1⟩⟩
      exact mid (0, st.2.1, 1) ⟨by show (0 : Int) ≤ 0; decide, by show (0 : Int) ≤ 400; decide, o0, by show (1 : Int) ≤ 1; decide⟩
    | false =>
      walk_at "w"
      walk_at "n"
      exact ⟨(fun hb => nomatch hb), fun _ => mid st ⟨d0, d1, o0, s1⟩⟩
  · rintro σ S ⟨ht, wm, pd, gone, acc, wm2, pd2, gone2, acc2, v11, v12, v13, v14, rfl, q, q2⟩
    rw [rangeD_len] at q q2
    have q := q.mono (j := 24) (by omega)
    have q2 := q2.mono (j := 24) (by omega)
    have al := q.l
    have gl := q.gl
    walk_at "w"
    refine ⟨⟨by decide, by decide⟩, trivial, ?_⟩
    refine for_inv (Run_mono Tx.tab 99) (fun i σ S => Tape S t ∧ ∃ (v11 v12 v13 v14 : Option D), σ = [some (.ro (ns.map .int)), some (.ptr t), some (.int m), some (.int o), some (.bl held), some (.int pl), some (.int mk), some (qD wm pd), some (.ro (acc.map tripI)), some (.ro (gone.map tripI)), some (stD wm2 pd2 gone2 acc2), v11, v12, v13, v14]) ⟨ht, _, _, _, _, rfl⟩ ?_ ?_
    · rintro i x σ S hx ⟨ht, v11, v12, v13, v14, rfl⟩
      obtain ⟨il, rfl⟩ := range_at hx
      walk_at "w"
      refine stampQ_spec (n := 96) Tx.tab15 Tx.tab14 Tx.tab9 false ht (.inl rfl) q.d (fun p h => (q.J.pos p h).1) (by omega) (by omega) (by omega) fun st S1 d0 d1 o0 s1 ht1 kb1 => ?_
      have g : GS st := ⟨d0, d1, o0, s1⟩
      walk_at "w"
      refine ⟨trivial, ?_⟩
      refine for_inv (Run_mono Tx.tab 99) (fun _ σ S => Tape S t ∧ ∃ (v14 : Option D), σ = [some (.ro (ns.map .int)), some (.ptr t), some (.int m), some (.int o), some (.bl held), some (.int pl), some (.int mk), some (qD wm pd), some (.ro (acc.map tripI)), some (.ro (gone.map tripI)), some (stD wm2 pd2 gone2 acc2), some (.int (0 + (i : Int))), some (tripI st), v13, v14]) ⟨ht1, _, rfl⟩ ?_ ?_
      · rintro j x σ S hx ⟨ht, v14, rfl⟩
        have hx1 : ∃ (wm1 : WM) (pd1 gone1 acc1 : List T3), x = stD wm1 pd1 gone1 acc1 ∧ QS m wm1 pd1 gone1 acc1 24 := by
          have := List.mem_of_getElem? hx
          simp only [List.mem_cons, List.not_mem_nil, or_false] at this
          rcases this with rfl | rfl | rfl
          · exact ⟨_, _, _, _, rfl, q2⟩
          · exact ⟨_, _, _, _, rfl, q⟩
          · exact ⟨_, _, _, _, rfl, q2⟩
        obtain ⟨wm1, pd1, gone1, acc1, rfl, q1⟩ := hx1
        have gl1 := q1.gl
        have al1 := q1.l
        walk_at "w"
        refine dueQ_spec (n := 95) acc1 gone1 st (by omega) (by omega) (by omega) fun S2 kp2 => ?_
        walk_at "w"
        refine told_spec (n := 91) m1 m3 (by omega) q1 g fun S3 kp3 => ?_
        walk_at "w"
        walk_at "n"
        exact ⟨(ht.keep kp2).keep kp3, _, rfl⟩
      · rintro σ S ⟨ht, v14, rfl⟩
        exact ⟨ht, _, _, _, _, rfl⟩
    · rintro σ S ⟨ht, v11, v12, v13, v14, rfl⟩
      exact rfl
end Ov
theorem PySem.Challenge.cw_overturn_k67_queue_step_by_step_holds : PySem.Challenge.rw_overturn_k67_queue_step_by_step.Holds := by
  exact Tx.law_end fun ns _ => (Ov.Run_eq Tx.tab 100) ▸ Ov.law_spec ns
