import PyProof.Rows.All
import Wide.All
import OpenK.AllK
import Wide.FinOn
import HandS.Iter
import KE.GoesEnum
import HandS.SortOrd
import HandS.SortRule
import HandS.SortInts
import HandS.TupMul
import HandS.Strs
import HandS.List
import PyProof.StrLawsIn
import KE.DataMinMax
import HandS.SortKw
import HandS.ForMost
import HandS.TupAny
import HandS.IsInst
import HandS.Style
import HandS.TupLe
import HandS.Flow
import HandS.Zip
import HandS.Deep
import HandS.Conv
import KE.KStateDown
import HandS.More
import HandS.WordsExc
import HandS.Defaults
import HandS.Head0
import HandS.Head1
import HandS.Head2
import HandS.HeadEnd
import HandS.HeadHook1
import HandS.HeadHook2
import PySem.Challenge.RW_overturn_k32_whole_cheapest_rulings
set_option Elab.async false
set_option linter.all false
set_option maxRecDepth 100000
set_option maxHeartbeats 4000000
-- OvEn
/-! enumerate over a list or a tuple; sorted over either. -/
namespace Ov
open PySem PySem.Spec PyProof.Rows L2

theorem meets_enum1 {v : Value} {o : Obj} {H : Heap → Prop} (B : Begins v o H) :
    Meets (Builtin.«enumerate.__new__» ⟨[.type "enumerate", v], []⟩) (fun _ R s => H s.heap ∧
      R (.ok (.ret (.ref (s.heap.push o).objs.size))) { s with heap := (s.heap.push o).push { cls := .type "enumerate", data := .fields #[.none, .bool false, .ref s.heap.objs.size, rawInt 0, .none, .none] } }) :=
  .of_wp fun prog w A R s h => by
    obtain ⟨hp, g, d, tk, os⟩ := s
    obtain ⟨h1, h⟩ := h
    have hsub := sub_enumerate
    have q1 : ∀ {A' : Around} {E : Value → Shared → Prop} {Q : Value → Shared → Prop}, Q (.ref hp.objs.size) ⟨hp.push o, g, d, tk, os⟩ → wpAny (model prog w) A' (pyIter v) Q E ⟨hp, g, d, tk, os⟩ :=
      fun q => B.iter prog w _ _ ⟨hp, g, d, tk, os⟩ _ h1 q
    wp_walk using q1
    refine wpAny_stack_any fun st => wpAny_pure ?_
    split
    · rename_i c _ _ _ _ _
      cases (c == Value.type "enumerate")
      · wp_walk using q1
        exact ⟨_, rfl, h⟩
      · wp_walk using q1
        exact ⟨_, rfl, h⟩
    · wp_walk using q1
      exact ⟨_, rfl, h⟩
section
variable {prog : Program} {w : World} {A : Around} {E : Value → Shared → Prop} {s : Shared}
theorem enum_begins1 {v : Value} {o : Obj} {H : Heap → Prop} {Q : Value → Shared → Prop} (B : Begins v o H) (h1 : H s.heap) (hF : checkTypeCall "enumerate" ⟨[v], []⟩ = pure ()) (hG : checkBuiltinCall "enumerate.__new__" ⟨[.type "enumerate", v], []⟩ = pure ())
    (h : ∀ h', IsEnum h' (s.heap.objs.size + 1) s.heap.objs.size 0 .none → h'.get? s.heap.objs.size = some o → h'.objs.size = s.heap.objs.size + 2 →
      (∀ b o, s.heap.get? b = some o → h'.get? b = some o) → Q (.ref (s.heap.objs.size + 1)) { s with heap := h' }) :
    wpAny (model prog w) A (call (.type "enumerate") [v]) Q E s := by
  refine callType_new F.called_enumerate (by decide) hF hG (fun obj => F.args_object_init_2 obj _) F.entry_enumerate_new (meets_enum1 B) ⟨h1, ?_⟩
  have hz : (s.heap.push o).objs.size = s.heap.objs.size + 1 := Heap.size_push ..
  show _ ∧ _
  rw [hz]
  have he : IsEnum ((s.heap.push o).push { cls := .type "enumerate", data := .fields #[.none, .bool false, .ref s.heap.objs.size, rawInt 0, .none, .none] }) (s.heap.objs.size + 1) s.heap.objs.size 0 .none := by
    have := Heap.get?_push_size (s.heap.push o) (o := { cls := .type "enumerate", data := .fields #[.none, .bool false, .ref s.heap.objs.size, rawInt 0, .none, .none] }) rfl
    rw [hz] at this
    exact this
  refine ⟨⟨_, he, rfl⟩, h _ he (Heap.get?_push_of_some _ (Heap.get?_push_size _ B.free)) (by rw [Heap.size_push, hz]) fun b o x => Heap.get?_push_of_some _ (Heap.get?_push_of_some _ x)⟩
end
/-- the tuple at a, each item in a new pair -/
def IteT (K : PySem.W.Frag) (a : Addr) : It :=
  ⟨fun i H => ∃ (xs : List V) (x : V), SqT K H a xs ∧ xs[i]? = some x, fun i H v H' => ∃ T x, v = .ref T ∧ H T = none ∧ H' = upd H T (.tup [.int (i : Nat), x]) ∧ ∀ xs, SqT K H a xs → xs[i]? = some x, fun i H => ∃ xs : List V, SqT K H a xs ∧ xs.length ≤ i⟩
theorem turn_enumT {P : Program} {w : World} {K : PySem.W.Frag} {elts : List Expr} {kk : Nat} {tpos : Pos} (a e it : Addr) (hat : a ≠ it) :
    Turn P w K (.Tuple elts kk tpos) (IteT K a) [e, it] e (fun i h => (∃ old, IsEnum h e it ((i : Nat) : Int) old) ∧ h.IsTupleIter it a i ∧ e ≠ it ∧ e ≠ a) where
  mem := by simp
  obj := fun i h st b hb => by
    obtain ⟨⟨old, he⟩, ⟨o, ho, hc, hd⟩, _⟩ := st
    have e' : b = e ∨ b = it := by simpa using hb
    rcases e' with z | z
    · rw [z]; exact ⟨_, he, fun v q => nomatch q⟩
    · rw [z]; exact ⟨o, ho, fun v q => by rw [hd] at q; cases q⟩
  keep := fun i h h' st k => let ⟨⟨old, he⟩, hi, hne⟩ := st; ⟨⟨old, k e (by simp) _ he⟩, hi.at fun o q => k it (by simp) o q, hne⟩
  item := by
    intro X hP hw hK hc i pins s σ H E I hf st hg
    subst hP hw hK
    obtain ⟨⟨old, he⟩, hit, hne, hea⟩ := st
    obtain ⟨xs, x, hq, hx⟩ := hg
    obtain ⟨its, rv, p, hz⟩ := I.tuple hq
    obtain ⟨u, hu, ru⟩ := rv.get hx
    have hel : e < s.heap.objs.size := Heap.lt_size he
    have hil : it < s.heap.objs.size := by obtain ⟨_, q, _⟩ := hit; exact Heap.lt_size q
    have hlt : i < its.toArray.size := by
      have := (List.getElem?_eq_some_iff.mp hu).1
      simpa using this
    refine wpAny_pyNext_enum_itemD (Draws.tuple (A := X.A.in1) (I.ok.hd hc) it a hat its.toArray) he ⟨hit, (show s.heap.IsTuple a its.toArray from p)⟩ hlt hne (by simp [hne, hea]) fun x' h' tk hP ho hs' hT hsz hk => ?_
    have hx' : x' = u := by
      have hP : its.toArray[i]? = some x' := hP
      rw [List.getElem?_toArray, hu] at hP
      exact (Option.some.inj hP).symm
    subst hx'
    refine ⟨_, rfl, wpAny_letOwnedTupleGo_enum (s := { s with heap := h', toks := tk + 1 }) ho fun h'' he' sb => ?_⟩
    have hT2 : h''.get? s.heap.objs.size = some { cls := .type "tuple", data := .seq #[.int i tk, x'] } := (sb.2 _ (Nat.ne_of_gt hel)).trans hT
    have new : ObjOk X.prog X.w (upd H s.heap.objs.size (.tup [.int (i : Nat), x])) h'' s.heap.objs.size (.tup [.int (i : Nat), x]) :=
      ⟨by show 2 ≤ sizeLine; decide, [.int i tk, x'], .cons ⟨_, rfl⟩ (.cons ru .nil), ⟨_, hT2, rfl, _, rfl⟩⟩
    have I1 : Inv X pins σ (upd H s.heap.objs.size (.tup [.int (i : Nat), x])) { s with heap := h'', toks := tk + 1 } :=
      I.turnedNew (ch := [e, it]) (fun b ob hb q => (sb.2 b (fun z => hb (by simp [z]))).trans (hk b ob (fun z => hb (by simp [z])) (fun z => hb (by simp [z])) q)) hf (Nat.le_refl _) new
    refine ⟨.ref s.heap.objs.size, _, I1, rfl, ⟨_, x, rfl, I.hok.fresh (Nat.le_refl _), rfl, fun ys hy => by rw [I.tuple_inj hy hq]; exact hx⟩, ⟨⟨x', ?_⟩, hs'.1.at fun o q => (sb.2 it (Ne.symm hne)).trans q, hne, hea⟩, fun b hb => ?_⟩
    · have e1 : ((i + 1 : Nat) : Int) = (i : Int) + 1 := by omega
      rw [e1]; exact he'
    · have hb' : b < s.heap.objs.size := by
        have e' : b = e ∨ b = it := by simpa using hb
        rcases e' with z | z
        · rw [z]; exact hel
        · rw [z]; exact hil
      rw [upd_ne (Nat.ne_of_lt hb')]
      exact (hf b hb).1
  done := by
    intro X hP hw hK hc i pins s σ H E I hf st hg
    subst hP hw hK
    obtain ⟨⟨old, he⟩, hit, hne, hea⟩ := st
    obtain ⟨xs, hq, hx⟩ := hg
    obtain ⟨its, rv, p, hz⟩ := I.tuple hq
    obtain ⟨f0, f1, f2, f3, f4, f5⟩ := hf it (by simp)
    have hl := rv.length
    have hh := I.ok.hd hc
    have hT : s.TypeIs (.ref e) "enumerate" := ⟨_, he, rfl⟩
    have hnone : its.toArray[i]? = none := by simp; omega
    unfold pyNext
    refine wpAny_bind (wpAny_attempt (wpAny_callSpecial?_slot (name := Str.ofString "__next__") hT F.slot_enumerate_next
      (wpAny_call_entry F.slot_enumerate_next hT F.entry_enumerate_next ?_ (F.args_enumerate_next_1 _))))
    show wpAny _ _ (field (.ref e) 2 >>= _) _ _ _
    refine wpAny_bind (wpAny_field he rfl (x := .ref it) rfl ?_)
    refine wpAny_bind (wpAny_nextOf_tuple_end hh hit (show s.heap.IsTuple a its.toArray from p) hnone fun h' x he' hx' => ?_)
    obtain ⟨o, ho, hc⟩ := hx'
    refine wpAny_bind (wpAny_isInstance (T := "StopIteration") (b := true) ⟨o, ho, hc⟩ isSubtype_stop ?_)
    exact wpAny_pure ⟨rfl, I.turned (t' := s.toks) (fun b o hb q => he' b o hb q) f0 f1 f3 f4 f5⟩
  self := fun A i s Q E st h => let ⟨⟨_, he⟩, _⟩ := st; wpAny_pyIter_enum he h
def iEnumA (K : PySem.W.Frag) (ta : TA) : TI := fun σ H R => ta σ H fun vs H1 => ∃ a, vs = [.ref a] ∧ ((∃ xs, SqL K H1 a xs ∧ R (Ite K a) H1) ∨ (∃ xs, SqT K H1 a xs ∧ R (IteT K a) H1))
theorem pi_enumA {X : Cx} {e : Expr} {ta : TA} {p pos tpos : Pos} {elts : List Expr} {kk : Nat} (hg : Gl X "enumerate") (hm : X.mg "enumerate" = none) (ha : PA X [e] ta) (hs : starEach [e] X.env = [(false, eval e X.env)] := by rfl) :
    PI X (.Tuple elts kk tpos) (.Call (.Name "enumerate" p) [e] [] pos) (iEnumA X.K ta) := by
  refine ⟨fun pins s σ H R I h => ?_⟩
  refine Call_ (ld_blt I hg hm boot_enumerate (PyProof.Rows.callWith_type1 (thn (ha.run pos pins s σ H _ I h) fun us s1 ⟨vs, H1, I1, r1, q1⟩ => ?_) hs rfl))
  obtain ⟨a, ex, q1⟩ := q1
  subst ex
  cases r1 with
  | cons r rr =>
    cases rr
    cases r
    have fp : ∀ b ∈ [s1.heap.objs.size + 1, s1.heap.objs.size], FpOk X pins H1 b := fun b hb => by
      have e' : b = s1.heap.objs.size + 1 ∨ b = s1.heap.objs.size := by simpa using hb
      have hle : s1.heap.objs.size ≤ b := by
        rcases e' with z | z
        · rw [z]; exact Nat.le_add_right _ _
        · rw [z]; exact Nat.le_refl _
      exact I1.fpOk hle (I1.hok.fresh hle)
    rcases q1 with ⟨xs, hq, q⟩ | ⟨xs, hq, q⟩
    · obtain ⟨its, rv, p', hz⟩ := I1.list hq
      refine call_enumerate_list p'.isList fun h' he hit hsz hk => wpAny_pyIter_enum he ?_
      have I2 : Inv X pins σ H1 { s1 with heap := h' } := I1.kept (t' := s1.toks) hk
      exact ⟨s1.heap.objs.size + 1, [s1.heap.objs.size + 1, s1.heap.objs.size], _, _, H1, rfl, I2, turn_enum a (s1.heap.objs.size + 1) s1.heap.objs.size, ⟨⟨.none, he⟩, hit, Nat.succ_ne_self _⟩, fp, q⟩
    · obtain ⟨its, rv, p', hz⟩ := I1.tuple hq
      obtain ⟨o1, ho1, _⟩ := id p'
      have la : a < s1.heap.objs.size := Heap.lt_size ho1
      refine enum_begins1 (begins_tuple a its.toArray) (show s1.heap.IsTuple a its.toArray from p') (F.typeCall_enumerate_1 _) (F.newCall_enumerate_1 _) fun h' he hit hsz hk => wpAny_pyIter_enum he ?_
      have I2 : Inv X pins σ H1 { s1 with heap := h' } := I1.kept (t' := s1.toks) hk
      exact ⟨s1.heap.objs.size + 1, [s1.heap.objs.size + 1, s1.heap.objs.size], _, _, H1, rfl, I2, turn_enumT a (s1.heap.objs.size + 1) s1.heap.objs.size (Nat.ne_of_lt la), ⟨⟨.none, he⟩, ⟨_, hit, rfl, rfl⟩, Nat.succ_ne_self _, Nat.ne_of_gt (Nat.lt_succ_of_lt la)⟩, fp, q⟩
end Ov

/-! ### sorted, over a list or a tuple -/
namespace Ov
open PySem PySem.Spec PyProof.Rows L2 SrtO
section
variable {prog : Program} {w : World} {A : Around} {E : Value → Shared → Prop} {s : Shared}
theorem collect_tuple {l : Addr} {vs : List Value} {Q : List Value → Shared → Prop} (hl : s.heap.IsTuple l vs.toArray) (hsz : vs.length ≤ sizeLine)
    (h : Q vs { s with heap := (s.heap.push (seqObj "list" #[] 0)).update s.heap.objs.size (Obj.mapSeq (· ++ vs.toArray)) }) :
    wpAny (model prog w) A (collect (.ref l)) Q E s := by
  obtain ⟨o, ho, hc, n, hd⟩ := id hl
  unfold collect
  refine wpAny_bind (wpAny_runValue (codeAny_builtin entry_proto_collect' ?_))
  show wpAny _ _ (do again (.builtin "list.__iadd__" ⟨[← newList [], .ref l], []⟩)) _ _ s
  refine wpAny_bind (wpAny_newList (wpAny_pure ⟨Code.quiet_builtin _ (by decide +kernel), codeAny_builtin entry_list_iadd' ?_⟩))
  show wpAny _ _ (Builtin.List.listExtendWith (.ref s.heap.objs.size) (.ref l) (.ref s.heap.objs.size)) _ _ { s with heap := s.heap.push (seqObj "list" #[] 0) }
  unfold Builtin.List.listExtendWith
  have ho' : (s.heap.push (seqObj "list" #[] 0)).get? l = some o := Heap.get?_push_of_some _ ho
  refine wpAny_bind (wpAny_typeOf (T := "tuple") ⟨o, ho', hc⟩ ?_)
  have ht : (Value.type "tuple" == Value.type "tuple") = true := by rfl
  rw [if_pos (by rw [ht]; simp)]
  refine wpAny_bind (listItems_at ho' hd ?_)
  refine wpAny_bind (listItems_at (xs := #[]) (n := 0) (Heap.get?_push_size _ rfl) rfl ?_)
  rw [if_neg (by simp)]
  refine wpAny_bind (listUpdate_at (xs := #[]) (n := 0) (Heap.get?_push_size _ rfl) rfl ?_ (Nat.zero_le _) (by show (#[] ++ vs.toArray).size ≤ sizeLine + 1; simp only [Array.size_append, List.size_toArray, List.length_nil]; omega))
  refine wpAny_pure ?_
  show wpAny (model prog w) A (do
      let o ← load s.heap.objs.size
      match o.data with
      | .seq xs _ => pure xs.toList
      | _ => unsupported "internal:collect") Q E { s with heap := (s.heap.push (seqObj "list" #[] 0)).update s.heap.objs.size (Obj.mapSeq (· ++ vs.toArray)) }
  refine wpAny_bind (wpAny_load (get?_update_seq (Heap.get?_push_size _ rfl) _) ?_)
  show wpAny _ _ (pure ((#[] : Array Value) ++ vs.toArray).toList) Q E _
  rw [show ((#[] : Array Value) ++ vs.toArray).toList = vs by simp]
  exact wpAny_pure h
/-- sorted(l), l a list or a tuple -/
theorem sorted_ordA {l : Addr} {vs : List Value} {ltv : Value → Value → Bool} {Q : Value → Shared → Prop} (O : Swo ltv) (hl : s.heap.IsList l vs.toArray ∨ s.heap.IsTuple l vs.toArray) (hz : vs.length ≤ sizeLine)
    (hS : 2 ≤ vs.length → ∀ (h₁ : Heap) (a : Addr), h₁.get? a = some (seqObj "list" vs.toArray 0) → (∀ b o, s.heap.get? b = some o → b ≠ a ∧ h₁.get? b = some o) → SortableO prog w A.in1.in1 { s with heap := h₁ } a vs ltv)
    (h : ∀ out : List Value, Srtd ltv out → Stb ltv out vs → Q (.ref (s.heap.objs.size + 1)) { s with heap := sortedAll s.heap vs out.toArray }) :
    wpAny (model prog w) A (call (.builtin "sorted") [.ref l]) Q E s := by
  rcases hl with hl | hl
  · exact sorted_ord O hl hz hS h
  refine Calls.call_function_entry kind_sorted plain_sorted entry_sorted (args_sorted1 _) ?_
  unfold Builtin.«sorted»
  refine wpAny_bind (m := checkCount "sorted" 1 1 _) (wpAny_pure ?_)
  refine wpAny_bind (collect_tuple hl hz ?_)
  refine wpAny_bind (wpAny_newList ?_ hz)
  have hsz : ((s.heap.push (seqObj "list" #[] 0)).update s.heap.objs.size (Obj.mapSeq (· ++ vs.toArray))).objs.size = s.heap.objs.size + 1 := by
    rw [Heap.size_update, size_push']
  have hoL : (((s.heap.push (seqObj "list" #[] 0)).update s.heap.objs.size (Obj.mapSeq (· ++ vs.toArray))).push (seqObj "list" vs.toArray 0)).get? (s.heap.objs.size + 1) = some (seqObj "list" vs.toArray 0) := by
    rw [← hsz]; exact Heap.get?_push_size _ rfl
  have keep : ∀ b o, s.heap.get? b = some o → b ≠ s.heap.objs.size + 1 ∧ (((s.heap.push (seqObj "list" #[] 0)).update s.heap.objs.size (Obj.mapSeq (· ++ vs.toArray))).push (seqObj "list" vs.toArray 0)).get? b = some o := fun b o q => by
    have hlt : b < s.heap.objs.size := Heap.lt_size q
    refine ⟨Nat.ne_of_lt (Nat.lt_succ_of_lt hlt), Heap.get?_push_of_some _ ?_⟩
    rw [Heap.get?_update_ne _ _ _ _ (Nat.ne_of_lt hlt)]
    exact Heap.get?_push_of_some _ q
  show wpAny _ _ _ _ _ { s with heap := ((s.heap.push (seqObj "list" #[] 0)).update s.heap.objs.size (Obj.mapSeq (· ++ vs.toArray))).push (seqObj "list" vs.toArray 0) }
  rw [hsz]
  refine wpAny_bind (wpAny_holding (wpAny_call_entry slot_list_sort ⟨_, hoL, rfl⟩ entry_list_sort (list_sort_ord O hoL hz (fun h2 => hS h2 _ _ hoL keep) fun out hs hb => ⟨_, rfl, ?_⟩) (args_list_sort _)))
  exact wpAny_pure ⟨_, rfl, h out hs hb⟩
end
/-- a before b, or equal, by their first, then by their second -/
def leP (a b : Int × Int) : Prop := a.1 < b.1 ∨ (a.1 = b.1 ∧ a.2 ≤ b.2)
def rSortIA (K : PySem.W.Frag) : List V → Hp → VK → Prop := fun vs H Q => ∃ (a : Addr) (ns : List Int), vs = [V.ref a] ∧ (SqL K H a (ns.map V.int) ∨ SqT K H a (ns.map V.int)) ∧
  ∀ (ns' : List Int) (p : Addr), ns'.Perm ns → ns'.Pairwise (· ≤ ·) → H p = none → Q (.ref p) (upd H p (.lst (ns'.map V.int)))
def rSortPA (K : PySem.W.Frag) : List V → Hp → VK → Prop := fun vs H Q => ∃ (a : Addr) (xs : List V) (ps : List (Int × Int)), vs = [V.ref a] ∧ (SqL K H a xs ∨ SqT K H a xs) ∧ xs.length = ps.length ∧
  (∀ z ∈ xs.zip ps, ∃ t, z.1 = V.ref t ∧ SqT K H t [.int z.2.1, .int z.2.2]) ∧
  ∀ (zs : List (V × (Int × Int))) (p : Addr), zs.Perm (xs.zip ps) → (zs.map (·.2)).Pairwise leP → H p = none → Q (.ref p) (upd H p (.lst (zs.map (·.1))))
section
variable {X : Cx}
theorem seqA {pins : List (Addr × Obj)} {σ : L2.St} {H : Hp} {s : Shared} {a : Addr} {xs : List V} (I : Inv X pins σ H s) (h : SqL X.K H a xs ∨ SqT X.K H a xs) :
    ∃ its : List Value, Vals xs its ∧ (s.heap.IsList a its.toArray ∨ s.heap.IsTuple a its.toArray) ∧ xs.length ≤ sizeLine := by
  rcases h with h | h
  · obtain ⟨its, rv, p, hz⟩ := I.list h
    exact ⟨its, rv, .inl p.isList, hz⟩
  · obtain ⟨its, rv, p, hz⟩ := I.tuple h
    exact ⟨its, rv, .inr (show s.heap.IsTuple a its.toArray from p), hz⟩
theorem cr_sortIA : CallR X (.builtin "sorted") (rSortIA X.K) := by
  intro pins s σ H vs us Q I r h
  obtain ⟨a, ns, rfl, hs, q⟩ := h
  obtain ⟨its, rv, hl, hz⟩ := seqA I hs
  rw [Vals.ref1 r]
  have hi := rv.ints
  refine sorted_ordA SrtO.swo_int hl (by rw [← rv.length]; exact hz) (fun h2 h₁ a' _ _ => SrtO.ints_sortable hi h2) fun out h1 h2 => ?_
  obtain ⟨k1, k2, k3⟩ := SrtO.ints_out hi h1 h2
  obtain ⟨ep, he'⟩ := PyProof.Rows.sortedAll_at s.heap its out.toArray
  have hlen : ((out.map SrtO.iv).map V.int).length ≤ sizeLine := by
    rw [List.length_map, k2.length_eq]
    rw [List.length_map] at hz
    exact hz
  exact ⟨.ref _, upd H (s.heap.objs.size + 1) (.lst ((out.map SrtO.iv).map V.int)), I.laid (t' := s.toks) (fun _ _ => PyProof.Rows.sortedAll_old) (Nat.le_succ _) ⟨hlen, out, ep, vals_of_ints k1, he'⟩, rfl, q _ _ k2 k3 (I.hok.fresh (Nat.le_succ _))⟩
theorem zip_of_map {α β γ : Type} {f : γ → α} {k : γ → β} {ps : List β} : ∀ {its : List γ}, its.length = ps.length → (∀ (i : Nat) (u : γ) (p : β), its[i]? = some u → ps[i]? = some p → k u = p) → (its.map f).zip ps = its.map fun u => (f u, k u) := by
  induction ps with
  | nil =>
    intro its hl h
    cases its with
    | nil => rfl
    | cons => simp at hl
  | cons p ps ih =>
    intro its hl h
    cases its with
    | nil => simp at hl
    | cons u its =>
      have e := h 0 u p rfl rfl
      rw [List.map_cons, List.zip_cons_cons, ih (by simpa using hl) (fun i u p a b => h (i + 1) u p a b), List.map_cons, e]
theorem cr_sortPA : CallR X (.builtin "sorted") (rSortPA X.K) := by
  intro pins s σ H vs us Q I r h
  obtain ⟨a, xs, ps, rfl, hs, hlp, hx, q⟩ := h
  obtain ⟨its, rv, hl, hz⟩ := seqA I hs
  obtain ⟨u, rfl, ru⟩ := vals1 r
  obtain rfl : u = Value.ref a := ru
  have mem : ∀ x ∈ xs, ∃ p, (x, p) ∈ xs.zip ps := fun x hm => by
    obtain ⟨i, hi, rfl⟩ := List.mem_iff_getElem.mp hm
    exact ⟨ps[i]'(by omega), List.mem_iff_getElem.mpr ⟨i, by rw [List.length_zip]; omega, by rw [List.getElem_zip]⟩⟩
  obtain ⟨e1, e2⟩ := refs_back rv fun x m => by
    obtain ⟨p, hp⟩ := mem x m
    obtain ⟨t, e, _⟩ := hx _ hp
    exact ⟨t, e⟩
  have hli : its.length = ps.length := by rw [← rv.length, hlp]
  -- the pair of each
  have un : ∀ t x y x' y', SqT X.K H t [.int x, .int y] → SqT X.K H t [.int x', .int y'] → (x, y) = (x', y') := fun t x y x' y' h1 h2 => by
    have := I.tuple_inj h1 h2
    injection this with a b
    injection b with b _
    injection a with a
    injection b with b
    rw [a, b]
  classical
  let k : Value → Int × Int := fun u => if h : ∃ p : Int × Int, ∃ t, u = .ref t ∧ SqT X.K H t [.int p.1, .int p.2] then h.choose else (0, 0)
  have ks : ∀ u (p : Int × Int) t, u = Value.ref t → SqT X.K H t [.int p.1, .int p.2] → k u = p := fun u p t e hq => by
    have hex : ∃ p : Int × Int, ∃ t, u = .ref t ∧ SqT X.K H t [.int p.1, .int p.2] := ⟨p, t, e, hq⟩
    show (if h : ∃ p : Int × Int, ∃ t, u = .ref t ∧ SqT X.K H t [.int p.1, .int p.2] then h.choose else (0, 0)) = p
    rw [dif_pos hex]
    obtain ⟨t', e', hq'⟩ := hex.choose_spec
    have e3 : t' = t := by
      have := e'.symm.trans e
      exact Value.ref.inj this
    subst e3
    exact un _ _ _ _ _ hq' hq
  have at_ : ∀ (i : Nat) (u : Value) (p : Int × Int), its[i]? = some u → ps[i]? = some p → ∃ t, u = Value.ref t ∧ SqT X.K H t [.int p.1, .int p.2] := fun i u p h1 h2 => by
    have h3 : (backV u, p) ∈ xs.zip ps := by
      rw [e1]
      refine List.mem_iff_getElem?.mpr ⟨i, ?_⟩
      rw [List.getElem?_zip_eq_some, List.getElem?_map, h1]
      exact ⟨rfl, h2⟩
    obtain ⟨t, e, hq⟩ := hx _ h3
    obtain ⟨b, rfl⟩ := e2 u (List.mem_of_getElem? h1)
    have e : V.ref b = V.ref t := e
    obtain rfl : b = t := V.ref.inj e
    exact ⟨b, rfl, hq⟩
  have ez : xs.zip ps = its.map fun u => (backV u, k u) := by
    rw [e1]
    exact zip_of_map hli fun i u p h1 h2 => by
      obtain ⟨t, e, hq⟩ := at_ i u p h1 h2
      exact ks u p t e hq
  have hp : ∀ v ∈ its, Srt.IsPair s.heap v (k v).1 (k v).2 := fun v hv => by
    obtain ⟨i, hi, rfl⟩ := List.mem_iff_getElem.mp hv
    obtain ⟨t, e, hq⟩ := at_ i _ _ (List.getElem?_eq_getElem hi) (List.getElem?_eq_getElem (by omega : i < ps.length))
    rw [ks _ _ t e hq]
    obtain ⟨its2, r2, ⟨o, ho, hc, n, hd⟩, _⟩ := I.tuple hq
    obtain ⟨u1, u2, rfl, ri, rj⟩ := vals2 r2
    obtain ⟨t1, rfl⟩ := ri
    obtain ⟨t2, rfl⟩ := rj
    exact ⟨t, o, t1, t2, n, e, ho, hc, hd⟩
  refine sorted_ordA (swo_lex k) hl (by rw [← rv.length]; exact hz) (fun h2 h₁ a ha kk => ?_) fun out h1 h2 => ?_
  · refine pairs_sortableO (s := { s with heap := h₁ }) (by omega) (fun v hm => (hp v hm).keeps fun b o e _ => (kk b o e).2) fun o e => ?_
    have e' : some o = some (seqObj "list" its.toArray 0) := e.symm.trans ha
    cases e'
    intro c
    exact absurd (Value.type.inj c) (by decide)
  · have h3 : ∀ u ∈ out, ∃ a, u = Value.ref a := fun u hu => e2 u (h2.perm.mem_iff.mp hu)
    obtain ⟨ep, he'⟩ := PyProof.Rows.sortedAll_at s.heap its out.toArray
    refine ⟨.ref _, upd H (s.heap.objs.size + 1) (.lst (out.map backV)), I.laid (t' := s.toks) (fun _ _ => PyProof.Rows.sortedAll_old) (Nat.le_succ _) ⟨?_, out, ep, vals_back h3, he'⟩, rfl, ?_⟩
    · rw [List.length_map, h2.perm.length_eq, ← rv.length]
      exact hz
    · have := q (out.map fun u => (backV u, k u)) (s.heap.objs.size + 1) (by rw [ez]; exact h2.perm.map _) (by
        rw [List.map_map]
        refine List.pairwise_map.mpr (List.Pairwise.imp (R := fun x y => lexB (k y) (k x) = false) (fun {x y} hh => ?_) h1)
        have := lexB_no.mp hh
        show leP (k x) (k y)
        unfold leP
        omega) (I.hok.fresh (Nat.le_succ _))
      rw [List.map_map] at this
      exact this
end
end Ov

/-! ### sum, max, min, over a list or a tuple; a tuple again and again -/
namespace Ov
open PySem PySem.Spec PyProof.Rows L2
section
variable {prog : Program} {w : World} {A : Around} {E : Value → Shared → Prop} {s : Shared} {l : Addr}
theorem iter_intTup {xs : Array (Int × Tok)} {Q : Value → Shared → Prop} (hl : s.heap.IsTuple l (intItems xs))
    (h : ∀ s₂ : Shared, s₂ = { s with heap := s.heap.push { cls := .type "tuple_iterator", data := .fields #[.ref l, .int 0 0] } } →
      (s₂.heap.IsTupleIter s.heap.objs.size l 0 ∧ s₂.heap.IsTuple l (intItems xs)) → (∀ b ∈ [s.heap.objs.size, l], b < s₂.heap.objs.size) → l ≠ s.heap.objs.size → Q (.ref s.heap.objs.size) s₂) :
    wpAny (model prog w) A (pyIter (.ref l)) Q E s := by
  have hlt : l < s.heap.objs.size := by obtain ⟨_, e, _⟩ := hl; exact Heap.lt_size e
  refine wpAny_pyIter_tuple hl (h _ rfl ⟨⟨_, Heap.get?_push_size _ rfl, rfl, rfl⟩, Heap.IsTuple.push hl _⟩ (fun b hb => ?_) (Nat.ne_of_lt hlt))
  show b < (s.heap.push _).objs.size
  rw [Heap.size_push]
  rcases List.mem_cons.mp hb with rfl | hb
  · exact Nat.lt_succ_self _
  · rcases List.mem_cons.mp hb with rfl | hb
    · exact Nat.lt_succ_of_lt hlt
    · cases hb
theorem old_keptT {h' : Heap} {o' : Obj} (hk : ∀ b o, b ∉ [s.heap.objs.size] → (s.heap.push o').get? b = some o → h'.get? b = some o) :
    ∀ b o, s.heap.get? b = some o → h'.get? b = some o := fun b o e => by
  refine hk b o (fun hm => ?_) (Heap.get?_push_of_some _ e)
  rcases List.mem_cons.mp hm with e1 | hm
  · exact absurd (e1 ▸ Heap.lt_size e) (Nat.lt_irrefl _)
  · cases hm
variable {its : List Value} {ns : List Int} {Q : Value → Shared → Prop}
theorem sum_rawT (hh : A.handled = none) (hl : s.heap.IsTuple l its.toArray) (hi : IntsAre its ns)
    (h : ∀ h' tk t', (∀ b o, s.heap.get? b = some o → h'.get? b = some o) → Q (.int ns.sum t') { s with heap := h', toks := tk }) : wpAny (model prog w) A (call (.builtin "sum") [.ref l]) Q E s := by
  obtain ⟨xs, e⟩ := hi.allInts.items
  have hn : numsOf (intItems xs).toList = ns := by rw [← e]; exact hi.numsOf
  rw [nums_intItems] at hn
  rw [e] at hl
  refine call_sum_walkG (iter_intTup hl fun s₂ e st hfp hlI => ?_)
  subst e
  refine ⟨_, _, _, _, _, _, numAt xs, rfl, Walks.tuple (A := A.in1) hh _ l hlI (intItems xs), st, hfp, (fun _ _ => intItems_at), fun h' tk t' hk => ?_⟩
  have := h h' tk t' (old_keptT hk)
  have e2 : preSum (numAt xs) (intItems xs).size = ns.sum := by
    rw [show (intItems xs).size = xs.size by simp [intItems], preSum_eq, List.take_of_length_le (by simp), hn]
  rw [e2]
  exact this
theorem max_rawT (hh : A.handled = none) (hl : s.heap.IsTuple l its.toArray) (hi : IntsAre its ns) (hne : 0 < ns.length)
    (h : ∀ h' tk M t', (∀ b o, s.heap.get? b = some o → h'.get? b = some o) → M ∈ ns → (∀ a, a ∈ ns → a ≤ M) → Q (.int M t') { s with heap := h', toks := tk }) : wpAny (model prog w) A (call (.builtin "max") [.ref l]) Q E s := by
  obtain ⟨xs, e⟩ := hi.allInts.items
  have hn : numsOf (intItems xs).toList = ns := by rw [← e]; exact hi.numsOf
  rw [nums_intItems] at hn
  subst hn
  rw [e] at hl
  have hsz : 0 < xs.size := by simpa using hne
  refine call_max_walk (iter_intTup hl fun s₂ e st hfp hlI => ?_)
  subst e
  refine ⟨_, _, _, _, _, _, _, rfl, Walks.tuple (A := A.in1) hh _ l hlI (intItems xs), st, hfp, by simpa [intItems] using hsz, CmpOf.ints_gt (numAt xs) (fun _ _ => intItems_at), fun v h' tk hP hk => ?_⟩
  have hv : (intItems xs)[argBest (fun i j => decide (numAt xs i > numAt xs j)) (xs.size - 1)]? = some v := by simpa [intItems] using hP
  obtain ⟨t, rfl⟩ := intItems_at hv
  obtain ⟨h1, h2⟩ := argBest_gt (numAt xs) (xs.size - 1)
  refine h h' tk _ t (old_keptT hk) ?_ fun a ha => ?_
  · rw [numAt_eq]; exact PySem.getD_mem (by rw [List.length_map, Array.length_toList]; omega)
  · obtain ⟨j, hj, rfl⟩ := mem_getD ha
    rw [List.length_map, Array.length_toList] at hj
    rw [← numAt_eq]; exact h2 j (by omega)
theorem min_rawT (hh : A.handled = none) (hl : s.heap.IsTuple l its.toArray) (hi : IntsAre its ns) (hne : 0 < ns.length)
    (h : ∀ h' tk M t', (∀ b o, s.heap.get? b = some o → h'.get? b = some o) → M ∈ ns → (∀ a, a ∈ ns → M ≤ a) → Q (.int M t') { s with heap := h', toks := tk }) : wpAny (model prog w) A (call (.builtin "min") [.ref l]) Q E s := by
  obtain ⟨xs, e⟩ := hi.allInts.items
  have hn : numsOf (intItems xs).toList = ns := by rw [← e]; exact hi.numsOf
  rw [nums_intItems] at hn
  subst hn
  rw [e] at hl
  have hsz : 0 < xs.size := by simpa using hne
  refine call_min_walk (iter_intTup hl fun s₂ e st hfp hlI => ?_)
  subst e
  refine ⟨_, _, _, _, _, _, _, rfl, Walks.tuple (A := A.in1) hh _ l hlI (intItems xs), st, hfp, by simpa [intItems] using hsz, CmpOf.ints_lt (numAt xs) (fun _ _ => intItems_at), fun v h' tk hP hk => ?_⟩
  have hv : (intItems xs)[argBest (fun i j => decide (numAt xs i < numAt xs j)) (xs.size - 1)]? = some v := by simpa [intItems] using hP
  obtain ⟨t, rfl⟩ := intItems_at hv
  obtain ⟨h1, h2⟩ := argBest_lt (numAt xs) (xs.size - 1)
  refine h h' tk _ t (old_keptT hk) ?_ fun a ha => ?_
  · rw [numAt_eq]; exact PySem.getD_mem (by rw [List.length_map, Array.length_toList]; omega)
  · obtain ⟨j, hj, rfl⟩ := mem_getD ha
    rw [List.length_map, Array.length_toList] at hj
    rw [← numAt_eq]; exact h2 j (by omega)
end
def rSumA (K : PySem.W.Frag) : List V → Hp → VK → Prop := fun vs H Q => ∃ (a : Addr) (ns : List Int), vs = [V.ref a] ∧ (SqL K H a (ns.map V.int) ∨ SqT K H a (ns.map V.int)) ∧ Q (.int ns.sum) H
def rMaxA (K : PySem.W.Frag) : List V → Hp → VK → Prop := fun vs H Q => ∃ (a : Addr) (ns : List Int), vs = [V.ref a] ∧ (SqL K H a (ns.map V.int) ∨ SqT K H a (ns.map V.int)) ∧ 0 < ns.length ∧ ∀ m, m ∈ ns → (∀ y, y ∈ ns → y ≤ m) → Q (.int m) H
def rMinA (K : PySem.W.Frag) : List V → Hp → VK → Prop := fun vs H Q => ∃ (a : Addr) (ns : List Int), vs = [V.ref a] ∧ (SqL K H a (ns.map V.int) ∨ SqT K H a (ns.map V.int)) ∧ 0 < ns.length ∧ ∀ m, m ∈ ns → (∀ y, y ∈ ns → m ≤ y) → Q (.int m) H
section
variable {X : Cx}
theorem cr_sumA (hc : X.calm = true) : CallR X (.builtin "sum") (rSumA X.K) := by
  intro pins s σ H vs us Q I r h
  obtain ⟨a, ns, rfl, hs, q⟩ := h
  obtain ⟨its, rv, hl, hz⟩ := seqA I hs
  rw [Vals.ref1 r]
  rcases hl with hl | hl
  · exact sum_raw (I.ok.hd hc) hl rv.ints fun h' tk t' hk => ⟨.int _, H, I.kept hk, ⟨_, rfl⟩, q⟩
  · exact sum_rawT (I.ok.hd hc) hl rv.ints fun h' tk t' hk => ⟨.int _, H, I.kept hk, ⟨_, rfl⟩, q⟩
theorem cr_maxA (hc : X.calm = true) : CallR X (.builtin "max") (rMaxA X.K) := by
  intro pins s σ H vs us Q I r h
  obtain ⟨a, ns, rfl, hs, hne, q⟩ := h
  obtain ⟨its, rv, hl, hz⟩ := seqA I hs
  rw [Vals.ref1 r]
  rcases hl with hl | hl
  · exact max_raw (I.ok.hd hc) hl rv.ints hne fun h' tk m t' hk h1 h2 => ⟨.int _, H, I.kept hk, ⟨_, rfl⟩, q m h1 h2⟩
  · exact max_rawT (I.ok.hd hc) hl rv.ints hne fun h' tk m t' hk h1 h2 => ⟨.int _, H, I.kept hk, ⟨_, rfl⟩, q m h1 h2⟩
theorem cr_minA (hc : X.calm = true) : CallR X (.builtin "min") (rMinA X.K) := by
  intro pins s σ H vs us Q I r h
  obtain ⟨a, ns, rfl, hs, hne, q⟩ := h
  obtain ⟨its, rv, hl, hz⟩ := seqA I hs
  rw [Vals.ref1 r]
  rcases hl with hl | hl
  · exact min_raw (I.ok.hd hc) hl rv.ints hne fun h' tk m t' hk h1 h2 => ⟨.int _, H, I.kept hk, ⟨_, rfl⟩, q m h1 h2⟩
  · exact min_rawT (I.ok.hd hc) hl rv.ints hne fun h' tk m t' hk h1 h2 => ⟨.int _, H, I.kept hk, ⟨_, rfl⟩, q m h1 h2⟩
end
end Ov

namespace Ov
open PySem PySem.Spec PyProof.Rows L2
open AutoSeq1 (wpAny_loadPart')
theorem tuple_mulE (l : Addr) (items : Array Value) (n : Nat) (dd : Option Addr) (sl : Array (Option Value)) (x : Int) (u : Tok) (c0 : (decide (x < -(2 ^ 63)) || decide (x ≥ 2 ^ 63)) = false) (c1 : (items.isEmpty || x == 1) = false) (c2 : (decide (x ≤ 0) || items.isEmpty) = true) :
    Meets (Builtin.«tuple.__mul__» ⟨[.ref l, .int x u], []⟩) (fun _ R s => s.heap.get? l = some { cls := .type "tuple", dict := dd, data := .seq items n, slots := sl } ∧
      R (.ok (.ret (Value.ref s.heap.objs.size))) { s with heap := s.heap.push { cls := Value.type "tuple", data := Data.seq #[] }, toks := s.toks }) :=
  .of_wp fun prog w A R s h => by
    obtain ⟨hp, g, d, tk, os⟩ := s
    obtain ⟨hl, h⟩ := h
    have f1 := AutoSeq1.idx_int
    wp_walk using wpAny_loadPart' hl
    repeat (first
      | (refine wpAny_ite_false (decide_eq_false (by rw [c0]; exact Bool.false_ne_true)) ?_; wp_walk using wpAny_loadPart' hl)
      | (refine wpAny_ite_false (decide_eq_false (by rw [c1]; exact Bool.false_ne_true)) ?_; wp_walk using wpAny_loadPart' hl)
      | (refine wpAny_ite_true (decide_eq_true c2) ?_; wp_walk using wpAny_loadPart' hl))
    exact ⟨_, rfl, h⟩
theorem tuple_mulS (l : Addr) (items : Array Value) (n : Nat) (dd : Option Addr) (sl : Array (Option Value)) (x : Int) (u : Tok) (c0 : (decide (x < -(2 ^ 63)) || decide (x ≥ 2 ^ 63)) = false) (c1 : (items.isEmpty || x == 1) = true) :
    Meets (Builtin.«tuple.__mul__» ⟨[.ref l, .int x u], []⟩) (fun _ R s => s.heap.get? l = some { cls := .type "tuple", dict := dd, data := .seq items n, slots := sl } ∧
      R (.ok (.ret (Value.ref l))) s) :=
  .of_wp fun prog w A R s h => by
    obtain ⟨hp, g, d, tk, os⟩ := s
    obtain ⟨hl, h⟩ := h
    have f1 := AutoSeq1.idx_int
    wp_walk using wpAny_loadPart' hl
    repeat (first
      | (refine wpAny_ite_false (decide_eq_false (by rw [c0]; exact Bool.false_ne_true)) ?_; wp_walk using wpAny_loadPart' hl)
      | (refine wpAny_ite_true (decide_eq_true c1) ?_; wp_walk using wpAny_loadPart' hl))
    exact ⟨_, rfl, h⟩
def rRepA (K : PySem.W.Frag) : R2 := fun x y H Q => ∃ l k xs, x = .ref l ∧ y = .int k ∧ SqT K H l xs ∧ xs ≠ [] ∧ -1000 ≤ k ∧ k ≤ 1000 ∧ xs.length ≤ 1000 ∧ (k = 1 → Q x H) ∧ (k ≠ 1 → ∀ p, H p = none → Q (.ref p) (upd H p (.tup (List.replicate k.toNat xs).flatten)))
theorem op_repA {X : Cx} : OpR X (binaryOp .Mult) (rRepA X.K) := by
  intro pins s σ H x y v u Q I rx ry h
  obtain ⟨l, k, xs, rfl, rfl, hT, hne, h1, h2, hz, q1, q2⟩ := h
  by_cases h3 : 2 ≤ k
  · exact op_repT pins s σ H _ _ v u Q I rx ry ⟨l, k, xs, rfl, rfl, hT, hne, h3, h2, hz, q2 (by omega)⟩
  cases rx
  obtain ⟨t, rfl⟩ := ry
  obtain ⟨its, r, ⟨⟨cls, dd, data, sl⟩, ho, hc, n, hd⟩, hs⟩ := I.tuple hT
  simp only at hc hd
  subst hc hd
  have hle : its.length = xs.length := r.length.symm
  have hn : its ≠ [] := fun e => hne (by
    rw [e] at hle
    exact List.eq_nil_of_length_eq_zero hle.symm)
  have hi : its.toArray.isEmpty = false := by
    cases its with
    | nil => exact absurd rfl hn
    | cons a b => rfl
  have c0 : (decide (k < -(2 ^ 63)) || decide (k ≥ 2 ^ 63)) = false := by
    rw [decide_eq_false (by omega), decide_eq_false (by omega)] <;> rfl
  by_cases h4 : k = 1
  · have c1 : (its.toArray.isEmpty || k == 1) = true := by
      rw [h4]
      simp
    refine wpAny_binaryOp_repeat_ref (T := "tuple") (U := "int") (by decide) ⟨_, ho, rfl⟩ (fun s' => typeIs_int s' k t) noFill_tuple_mul F.fills_int_mul F.slot_int_rmul repeat_tuple F.slot_int_index.lookup
      (call_meets F.slot_int_rmul (typeIs_int s k t) F.entry_int_rmul (F.args_int_rmul_2 _ _) (int_rmul_tuple k t l its.toArray n dd sl)
        ⟨ho, rfl, ⟨_, ho, rfl⟩, call_meets F.slot_tuple_mul ⟨_, ho, rfl⟩ F.entry_tuple_mul (F.args_tuple_mul_2 _ _) (tuple_mulS l its.toArray n dd sl k t c0 c1) ⟨ho, ?_⟩⟩)
    exact ⟨.ref l, H, I, rfl, q1 h4⟩
  · have c1 : (its.toArray.isEmpty || k == 1) = false := by
      rw [hi, Bool.false_or]
      exact beq_eq_false_iff_ne.mpr h4
    have c2 : (decide (k ≤ 0) || its.toArray.isEmpty) = true := by
      rw [decide_eq_true (by omega), Bool.true_or]
    refine wpAny_binaryOp_repeat_ref (T := "tuple") (U := "int") (by decide) ⟨_, ho, rfl⟩ (fun s' => typeIs_int s' k t) noFill_tuple_mul F.fills_int_mul F.slot_int_rmul repeat_tuple F.slot_int_index.lookup
      (call_meets F.slot_int_rmul (typeIs_int s k t) F.entry_int_rmul (F.args_int_rmul_2 _ _) (int_rmul_tuple k t l its.toArray n dd sl)
        ⟨ho, rfl, ⟨_, ho, rfl⟩, call_meets F.slot_tuple_mul ⟨_, ho, rfl⟩ F.entry_tuple_mul (F.args_tuple_mul_2 _ _) (tuple_mulE l its.toArray n dd sl k t c0 c1 c2) ⟨ho, ?_⟩⟩)
    have e : (List.replicate k.toNat xs).flatten = [] := by
      rw [show k.toNat = 0 by omega]
      rfl
    have q := q2 h4
    rw [e] at q
    refine ⟨.ref s.heap.objs.size, _, I.laid (t' := s.toks) (o := .tup []) (fun b ob q => Heap.get?_push_of_some _ q) (Nat.le_refl _) ?_, rfl, q _ (I.hok.fresh (Nat.le_refl _))⟩
    exact ⟨Nat.zero_le _, [], .nil, IsTup.new _ _⟩
end Ov

namespace Ov
open PySem PySem.Spec PyProof.Rows L2
def rGetL (K : PySem.W.Frag) : V → V → Hp → VK → Prop := fun x y H Q => ∃ p xs i v, x = .ref p ∧ y = .int i ∧ 0 ≤ i ∧ SqL K H p xs ∧ atI xs i = some v ∧ Q v H
theorem get_list {X : Cx} : PGet X (rGetL X.K) := by
  intro pins s σ H x y v u Q I rx ry h
  obtain ⟨p, xs, i, z, rfl, rfl, h0, hq, he, q⟩ := h
  cases rx
  obtain ⟨t, rfl⟩ := ry
  obtain ⟨its, r, pl, hz⟩ := I.list hq
  obtain ⟨j, h1, h2, h3, h4, h5⟩ := atI_get he
  obtain ⟨w, ew, rw'⟩ := r.get h2
  have hl := r.length
  have hn := line63
  have hj : i.toNat = j := by
    rw [seqIndex_of h0 h5] at h1
    exact Option.some.inj h1
  exact wpAny_getItem_list pl.isList h0 (by omega) (by rw [hj]; simpa using ew) ⟨z, H, I, rw', q⟩
/-- t.index(x) over flat items -/
theorem mt_tupIx {X : Cx} : MtR X "tuple.index" (fun x xs H Q => ∃ (a : Addr) (ys : List V) (y : V) (j : Nat) (z : V), x = V.ref a ∧ xs = [y] ∧ SqT X.K H a ys ∧ flatV y = true ∧ ys.all flatV = true ∧ ys[j]? = some z ∧ eqV z y = true ∧
  (∀ (m : Nat) (z' : V), m < j → ys[m]? = some z' → eqV z' y = false) ∧ Q (.int (j : Nat)) H) := by
  intro pins s σ H x xs v us Q I rx rxs h
  obtain ⟨a, ys, y, j, z, rfl, rfl, hs, fy, fys, hz, hzj, hno, q⟩ := h
  cases rx
  cases rxs with
  | cons ry rt =>
    rename_i uy ut
    cases rt
    obtain ⟨its, rv, pl, hlen⟩ := I.tuple hs
    obtain ⟨⟨cls, dd, data, sl⟩, ho, hc, n, hd⟩ := pl
    simp only at hc hd
    subst hc hd
    obtain ⟨u, hu, ru⟩ := rv.get hz
    obtain ⟨hjl, hje⟩ := List.getElem?_eq_some_iff.mp hu
    have hvl := rv.length
    have hj : j < its.toArray.size := by simpa using hjl
    refine call_meets PySem.F.slot_tuple_index ⟨_, ho, rfl⟩ PySem.F.entry_tuple_index (PySem.F.args_tuple_index_2 _ _)
      (TI.tuple_indexAt a its.toArray n dd sl uy (eqU y) j hj ?_ ?_) ⟨ho, fun u' hu' => mem_eqAt ry fy rv fys u' (by simpa using hu'), ?_⟩
    · have e1 : its.toArray[j] = u := by simpa using hje
      rw [e1, eqU_of ru (flat_at fys hz)]
      exact hzj
    · intro m hm hmj
      have hml : m < its.length := by simpa using hm
      have hmy : m < ys.length := by omega
      have hy' : ys[m]? = some ys[m] := List.getElem?_eq_getElem hmy
      obtain ⟨u2, hu2, ru2⟩ := rv.get hy'
      obtain ⟨_, hme⟩ := List.getElem?_eq_some_iff.mp hu2
      have e1 : its.toArray[m] = u2 := by simpa using hme
      rw [e1, eqU_of ru2 (flat_at fys hy')]
      exact hno m _ hmj hy'
    · exact ⟨.int (j : Nat), H, I.tok _, ⟨_, rfl⟩, q⟩
end Ov

namespace Ov
open PySem PySem.Spec PyProof.Rows L2
open PySem.StrLaws PySem.Builtin.Str
theorem occ_count (x : Str) (c : Nat) : ∀ (m a : Nat) (st : Array Nat × Nat), a + m = x.length + 1 → st.snd ≤ a → st.fst.size ≤ a →
    (forIn (List.range' a m) st (occBody x ⟨#[c]⟩ x.length (x.length + 1))).run.fst.size = st.fst.size + (x.cps.toList.drop a).count c
  | 0, a, st, h, _, _ => by
    have : x.cps.toList.drop a = [] := List.drop_eq_nil_of_le (by simp [Str.length] at h ⊢; omega)
    rw [this]
    rfl
  | m + 1, a, st, h, h1, h2 => by
    rw [List.range'_succ, List.forIn_cons]
    unfold occBody
    split
    · rename_i hc
      have hx := (subAt_one x c a).mp ⟨hc.1.2, hc.2⟩
      obtain ⟨hlt, he⟩ := List.getElem?_eq_some_iff.mp hx
      refine (occ_count x c m (a + 1) (st.fst.push a, a + 1) (by omega) (Nat.le_refl _) (by simp; exact h2)).trans ?_
      rw [List.drop_eq_getElem_cons hlt, he, List.count_cons_self]
      simp
      omega
    · rename_i hc
      refine (occ_count x c m (a + 1) (st.fst, st.snd) (by omega) (by show st.snd ≤ a + 1; omega) (by show st.fst.size ≤ a + 1; omega)).trans ?_
      by_cases hlt : a < x.cps.toList.length
      · rw [List.drop_eq_getElem_cons hlt, List.count_cons_of_ne]
        intro e
        have hx : x.cps.toList[a]? = some c := by rw [List.getElem?_eq_getElem hlt, e]
        have := (subAt_one x c a).mpr hx
        exact hc ⟨⟨⟨by omega, h1⟩, this.1⟩, this.2⟩
      · rw [List.drop_eq_nil_of_le (by omega), List.drop_eq_nil_of_le (by omega)]
theorem count_one (x : Str) (c : Nat) : Txt.count x ⟨#[c]⟩ = (x.cps.toList.count c : Nat) := by
  unfold Txt.count
  rw [occ_eq]
  have := occ_count x c (x.length + 1) 0 (#[], 0) (by omega) (Nat.le_refl _) (Nat.le_refl _)
  rw [Array.length_toList]
  rw [show x.length + 1 - 0 = x.length + 1 by omega, this]
  simp
/-- a text, n times -/
def strRep (a : Str) (n : Nat) : Str := ⟨(List.replicate n a.cps).foldl (· ++ ·) #[]⟩
theorem foldl_size : ∀ (l : List (Array Nat)) (b : Array Nat), (l.foldl (· ++ ·) b).size = b.size + (l.map Array.size).sum
  | [], b => rfl
  | a :: l, b => by
    rw [List.foldl_cons, foldl_size l, Array.size_append, List.map_cons, List.sum_cons]
    omega
theorem strRep_len (a : Str) (n : Nat) : (strRep a n).length = n * a.length := by
  show ((List.replicate n a.cps).foldl (· ++ ·) #[]).size = _
  rw [foldl_size, List.map_replicate, List.sum_replicate_nat]
  simp [Str.length]
theorem op_mulS {X : Cx} : OpR X (binaryOp .Mult) (fun x y H Q => ∃ a k, x = .str a ∧ y = .int k ∧ 0 ≤ k ∧ k ≤ 1000 ∧ a.length ≤ 1000 ∧ Q (.str (strRep a k.toNat)) H) := by
  intro pins s σ H x y v u Q I rx ry h
  obtain ⟨a, k, rfl, rfl, h0, h1, h2, q⟩ := h
  obtain ⟨t, rfl⟩ := rx
  obtain ⟨t2, rfl⟩ := ry
  have hk : k.toNat * a.length ≤ 1000 * 1000 := Nat.mul_le_mul (by omega) h2
  have c0 : (decide (k < -(2 ^ 63)) || decide (k ≥ 2 ^ 63)) = false := by
    rw [decide_eq_false (by omega), decide_eq_false (by omega)] <;> rfl
  refine PySem.P.mul_str c0 (fun h3 _ => ?_) (fun _ _ => ?_) ?_
  · have : (a.length : Int) ≤ (2 ^ 63 - 1) / k := (Int.le_ediv_iff_mul_le (by omega)).mpr (by
      have h5 : (a.length : Int) * k ≤ 1000 * 1000 := Int.mul_le_mul (by omega) h1 h0 (by decide)
      omega)
    omega
  · show decide (_ > sizeLine) = false
    refine decide_eq_false ?_
    rw [Nat.mul_comm]
    show ¬ _ > 16777216
    omega
  · split
    · rename_i h3
      have e : strRep a k.toNat = Str.empty := by
        rw [show k.toNat = 0 by omega]
        rfl
      rw [e] at q
      exact ⟨Nat.zero_le _, .str Str.empty, H, I.tok _, ⟨_, rfl⟩, q⟩
    · split
      · rename_i h3 h4
        have e : strRep a k.toNat = a := by
          rw [Bool.or_eq_true, beq_iff_eq, beq_iff_eq] at h4
          rcases h4 with h4 | h4
          · subst h4
            show (⟨#[] ++ a.cps⟩ : Str) = a
            rw [Array.empty_append]
          · have : a = ⟨#[]⟩ := by
              obtain ⟨⟨l⟩⟩ := a
              cases l with
              | nil => rfl
              | cons _ _ => cases h4
            have h5 := strRep_len a k.toNat
            rw [h4, Nat.mul_zero] at h5
            rw [this]
            rw [this] at h5
            generalize strRep ⟨#[]⟩ k.toNat = z at h5
            obtain ⟨⟨l⟩⟩ := z
            cases l with
            | nil => rfl
            | cons _ _ => cases h5
        rw [e] at q
        exact ⟨.str a, H, I, ⟨_, rfl⟩, q⟩
      · have hl := strRep_len a k.toNat
        refine ⟨?_, .str (strRep a k.toNat), H, I.tok _, ⟨_, rfl⟩, q⟩
        show (strRep a k.toNat).length ≤ 16777216
        omega
end Ov
-- OvMd
/-! min(x, default=d) of ints. -/
namespace Ov
open PySem PySem.Spec PyProof.Rows L2
section
variable {prog : Program} {w : World} {A : Around} {E : Value → Shared → Prop} {s : Shared} {l : Addr} {its : List Value} {ns : List Int} {Q : Value → Shared → Prop} {d : Value}
theorem cmpIn_of {op : CmpOp} {P : Nat → Value → Prop} {bt : Nat → Nat → Bool} {H : Heap} (h : CmpOf prog w A op P bt) : CmpIn prog w A op H P bt := fun i j vi vj s Q E _ hi hj q => h i j vi vj s Q E hi hj q
theorem min_rawD (hh : A.handled = none) (hl : s.heap.IsList l its.toArray ∨ s.heap.IsTuple l its.toArray) (hi : IntsAre its ns)
    (h0 : ns = [] → ∀ h' tk, (∀ b o, s.heap.get? b = some o → h'.get? b = some o) → Q d { s with heap := h', toks := tk })
    (h : ∀ h' tk M t', (∀ b o, s.heap.get? b = some o → h'.get? b = some o) → M ∈ ns → (∀ a, a ∈ ns → M ≤ a) → Q (.int M t') { s with heap := h', toks := tk }) :
    wpAny (model prog w) A (call (.builtin "min") [.ref l] [(Str.ofString "default", d)]) Q E s := by
  obtain ⟨xs, e⟩ := hi.allInts.items
  have hn : numsOf (intItems xs).toList = ns := by rw [← e]; exact hi.numsOf
  rw [nums_intItems] at hn
  subst hn
  rw [e] at hl
  have fin : ∀ v (h' : Heap) tk, 0 < xs.size → (intItems xs)[argBest (fun i j => decide (numAt xs i < numAt xs j)) (xs.size - 1)]? = some v → (∀ b o, s.heap.get? b = some o → h'.get? b = some o) → Q v { s with heap := h', toks := tk } := by
    intro v h' tk hsz hv hk
    obtain ⟨t, rfl⟩ := intItems_at hv
    obtain ⟨h1, h2⟩ := argBest_lt (numAt xs) (xs.size - 1)
    refine h h' tk _ t hk ?_ fun a ha => ?_
    · rw [numAt_eq]; exact PySem.getD_mem (by rw [List.length_map, Array.length_toList]; omega)
    · obtain ⟨j, hj, rfl⟩ := mem_getD ha
      rw [List.length_map, Array.length_toList] at hj
      rw [← numAt_eq]; exact h2 j (by omega)
  have hs : (intItems xs).size = xs.size := by simp [intItems]
  have non : (intItems xs).size = 0 → xs.toList.map (·.1) = [] := fun hz => by
    rw [hs] at hz
    rw [List.map_eq_nil_iff]
    exact List.eq_nil_of_length_eq_zero (by rw [Array.length_toList]; exact hz)
  rcases hl with hl | hl
  · refine call_min_walkD (PySem.W.iter_listW (A := A.in1) hh hl fun s₂ e W st hfp hw hk => ?_)
    refine ⟨_, _, _, _, _, _, _, s.heap, _, rfl, W, st, hfp, hw, hk, fun hz s' m => ?_, fun hp => ⟨cmpIn_of (CmpOf.ints_lt (numAt xs) (fun _ _ => intItems_at)), fun v s' hP m => ?_⟩⟩
    · obtain ⟨h', tk, rfl, hk'⟩ := PySem.W.moved_old e rfl m
      exact h0 (non hz) h' tk hk'
    · obtain ⟨h', tk, rfl, hk'⟩ := PySem.W.moved_old e rfl m
      rw [hs] at hP hp
      exact fin v h' tk hp hP hk'
  · refine call_min_walkD (PySem.W.iter_tupleW (A := A.in1) hh hl fun s₂ e W st hfp hw hk => ?_)
    refine ⟨_, _, _, _, _, _, _, s.heap, _, rfl, W, st, hfp, hw, hk, fun hz s' m => ?_, fun hp => ⟨cmpIn_of (CmpOf.ints_lt (numAt xs) (fun _ _ => intItems_at)), fun v s' hP m => ?_⟩⟩
    · obtain ⟨h', tk, rfl, hk'⟩ := PySem.W.moved_old e rfl m
      exact h0 (non hz) h' tk hk'
    · obtain ⟨h', tk, rfl, hk'⟩ := PySem.W.moved_old e rfl m
      rw [hs] at hP hp
      exact fin v h' tk hp hP hk'
end
def rMinD (K : PySem.W.Frag) : List V → List V → Hp → VK → Prop := fun vs zs H Q => ∃ (a : Addr) (ns : List Int), vs = [V.ref a] ∧ zs = [.non] ∧ (SqL K H a (ns.map V.int) ∨ SqT K H a (ns.map V.int)) ∧ (ns = [] → Q .non H) ∧ ∀ m, m ∈ ns → (∀ y, y ∈ ns → m ≤ y) → Q (.int m) H
theorem cr_minD {X : Cx} (hc : X.calm = true) : CallRK X (.builtin "min") [Str.ofString "default"] (rMinD X.K) := by
  intro pins s σ H vs zs us ws Q I r rz h
  obtain ⟨a, ns, rfl, rfl, hs, q0, q⟩ := h
  obtain ⟨its, rv, hl, hz⟩ := seqA I hs
  obtain rfl := Vals.ref1 r
  obtain ⟨w1, rfl, e1⟩ := vals1 rz
  obtain rfl : w1 = Value.none := e1
  exact min_rawD (I.ok.hd hc) hl rv.ints (fun e h' tk hk => ⟨.non, H, I.kept hk, rfl, q0 e⟩) fun h' tk m t' hk h1 h2 => ⟨.int _, H, I.kept hk, ⟨_, rfl⟩, q m h1 h2⟩
end Ov
-- OvA
/-! Data without a heap, programs over it (PX, PSt), what such a program wants (wE, wS: weakest preconditions). -/
namespace Ov
open PySem L2

inductive D where
  | non | bl (b : Bool) | int (i : Int) | str (s : Str)
  | tup (xs : List D) | ro (xs : List D) | ptr (n : Nat)
  | dic (ks : List Key) (vs : List D)
  | rng (lo hi : Int)
abbrev DEnv := List (Option D)
/-- the lists that may change, in the order of their making -/
abbrev Sto := List (List D)
abbrev WK := D → Sto → Prop

mutual
def toPy : D → PyData
  | .non => .none
  | .bl b => .bool b
  | .int i => .int i
  | .str s => .str s
  | .tup xs => .tuple (toPys xs)
  | .ro xs => .list (toPys xs)
  | .ptr _ => .none
  | .dic _ _ => .none
  | .rng _ _ => .none
def toPys : List D → List PyData
  | [] => []
  | x :: xs => toPy x :: toPys xs
end
mutual
def noPtr : D → Bool
  | .tup xs => noPtrs xs
  | .ro xs => noPtrs xs
  | .ptr _ => false
  | .dic _ _ => false
  | .rng _ _ => false
  | _ => true
def noPtrs : List D → Bool
  | [] => true
  | x :: xs => noPtr x && noPtrs xs
end
/-- == -/
def eqD (x y : D) : Bool := PyData.eqv (toPy x) (toPy y)
def flatD : D → Bool
  | .non => true
  | .bl _ => true
  | .int _ => true
  | .str _ => true
  | _ => false
def okEq (x : D) : Bool := noPtr x && SeqAt.shaped (toPy x)
def kindD : D → Nat
  | .non => 0
  | .bl _ => 1
  | .int _ => 2
  | .str _ => 3
  | _ => 9
/-- plain kinds, and not a bool beside an int -/
def scalD (x y : D) : Bool := decide (kindD x < 4) && decide (kindD y < 4) && !(kindD x + kindD y == 3 && kindD x * kindD y == 2)
def eqOk (x y : D) : Bool := scalD x y || (okEq x && okEq y)

/-- lists that are read: a read-only one, one that may change -/
def listOf (S : Sto) : D → Option (List D)
  | .ro xs => some xs
  | .ptr n => S[n]?
  | _ => none
def seqOf (S : Sto) : D → Option (List D)
  | .ro xs => some xs
  | .tup xs => some xs
  | .ptr n => S[n]?
  | _ => none

def cutD (xs : List D) (lo hi : Option Int) : List D := (xs.drop (HT.sIx xs.length 0 lo)).take (HT.sIx xs.length xs.length hi - HT.sIx xs.length 0 lo)

inductive BOp | add | sub | mul | fdiv | mod | pow
inductive COp | eq | ne | lt | le | gt | ge | is | isnot | isIn | notIn
inductive BI | len | int | abs | bool | tuple | list | mlist | max | min | sum | any | all | str | sorted | msorted
  | isI (t : String) | rngv
inductive Mth | append | pop | join | count | indexL
  deriving DecidableEq

def smallI (i : Int) : Prop := -(2 ^ 64) < i ∧ i < 2 ^ 64

def catW (x y : D) (S : Sto) (k : WK) : Prop :=
  match listOf S x, listOf S y with
  | some xs, some ys => xs.length + ys.length ≤ sizeLine ∧ k (.ro (xs ++ ys)) S
  | _, _ => False
def binW (op : BOp) (x y : D) (S : Sto) (k : WK) : Prop :=
  match op, x, y with
  | .add, .int i, .int j => k (.int (i + j)) S
  | .add, .str a, .str b => a.length + b.length ≤ sizeLine ∧ k (.str (a ++ b)) S
  | .add, .tup xs, .tup ys => xs.length + ys.length ≤ sizeLine ∧ k (.tup (xs ++ ys)) S
  | .add, .ro xs, y => catW (.ro xs) y S k
  | .add, .ptr n, y => catW (.ptr n) y S k
  | .sub, .int i, .int j => k (.int (i - j)) S
  | .mul, .int i, .int j => (smallI i ∨ smallI j) ∧ k (.int (i * j)) S
  | .mul, .tup xs, .int j => (xs.isEmpty = false ∧ xs.length ≤ 1000 ∧ -1000 ≤ j ∧ j ≤ 1000) ∧ k (.tup (List.replicate j.toNat xs).flatten) S
  | .mul, .str a, .int j => (0 ≤ j ∧ j ≤ 1000 ∧ a.length ≤ 1000) ∧ k (.str (strRep a j.toNat)) S
  | .fdiv, .int i, .int j => (0 < j ∧ j < 1073741824) ∧ k (.int (i / j)) S
  | .mod, .int i, .int j => 0 < j ∧ k (.int (i % j)) S
  | .pow, .int i, .int j => (0 ≤ j ∧ j ≤ 1000000 ∧ i.natAbs < 2 ^ 64) ∧ k (.int (i ^ j.toNat)) S
  | _, _, _ => False

/-- tuples of ints -/
def intsOf : List D → Option (List Int)
  | [] => some []
  | .int i :: r => (intsOf r).map (i :: ·)
  | _ => none

def ordW (op : COp) (i j : Int) : Bool :=
  match op with
  | .lt => decide (i < j)
  | .le => decide (i ≤ j)
  | .gt => decide (j < i)
  | .ge => decide (j ≤ i)
  | _ => false
def isNonD : D → Bool
  | .non => true
  | _ => false
def ordC (op : COp) (x y : D) (S : Sto) (k : WK) : Prop :=
  match x, y with
  | .int i, .int j => k (.bl (ordW op i j)) S
  | .tup xs, .tup ys => match op, intsOf xs, intsOf ys with
    | .lt, some a, some b => k (.bl (HT.lexLt a b)) S
    | _, _, _ => False
  | _, _ => False
def cmpW (op : COp) (x y : D) (S : Sto) (k : WK) : Prop :=
  match op with
  | .eq => eqOk x y = true ∧ k (.bl (eqD x y)) S
  | .ne => eqOk x y = true ∧ k (.bl (!eqD x y)) S
  | .is => match y with
    | .non => k (.bl (isNonD x)) S
    | .bl b => match x with
      | .bl c => k (.bl (c == b)) S
      | .non => k (.bl false) S
      | _ => False
    | _ => False
  | .isnot => match y with
    | .non => k (.bl (!isNonD x)) S
    | .bl b => match x with
      | .bl c => k (.bl (!(c == b))) S
      | _ => False
    | _ => False
  | .isIn => match x, y with
    | .str a, .str z => a.length = 1 ∧ k (.bl (decide (a.cps.getD 0 0 ∈ z.cps.toList))) S
    | _, _ => match seqOf S y with
      | some ys => flatD x = true ∧ ys.all flatD = true ∧ k (.bl (ys.any fun z => eqD z x)) S
      | none => False
  | .notIn => match x, y with
    | .str a, .str z => a.length = 1 ∧ k (.bl (!decide (a.cps.getD 0 0 ∈ z.cps.toList))) S
    | _, _ => match seqOf S y with
      | some ys => flatD x = true ∧ ys.all flatD = true ∧ k (.bl (!ys.any fun z => eqD z x)) S
      | none => False
  | .lt => ordC .lt x y S k
  | .le => ordC .le x y S k
  | .gt => ordC .gt x y S k
  | .ge => ordC .ge x y S k

def truthW (x : D) (S : Sto) (k : Bool → Sto → Prop) : Prop :=
  match x with
  | .non => k false S
  | .bl b => k b S
  | .int i => k (i != 0) S
  | .str s => s.length ≤ sizeLine ∧ k ((s.length : Int) != 0) S
  | .tup xs => k (!xs.isEmpty) S
  | .ro xs => k (!xs.isEmpty) S
  | .ptr n => match S[n]? with
    | some xs => k (!xs.isEmpty) S
    | none => False
  | .dic _ _ => False
  | .rng _ _ => False

def isiB (t : String) (x : D) : Option Bool :=
  match x with
  | .non => if t = "int" ∨ t = "bool" ∨ t = "str" ∨ t = "tuple" ∨ t = "list" then some false else none
  | .bl _ => if t = "int" ∨ t = "bool" then some true else if t = "str" ∨ t = "tuple" ∨ t = "list" then some false else none
  | .int _ => if t = "int" then some true else if t = "bool" ∨ t = "str" ∨ t = "tuple" ∨ t = "list" then some false else none
  | .str _ => if t = "str" then some true else if t = "bool" ∨ t = "int" ∨ t = "tuple" ∨ t = "list" then some false else none
  | .tup _ => if t = "tuple" then some true else if t = "bool" ∨ t = "str" ∨ t = "int" ∨ t = "list" then some false else none
  | .ro _ => if t = "list" then some true else if t = "bool" ∨ t = "str" ∨ t = "tuple" ∨ t = "int" then some false else none
  | .ptr _ => if t = "list" then some true else if t = "bool" ∨ t = "str" ∨ t = "tuple" ∨ t = "int" then some false else none
  | .dic _ _ => none
  | .rng _ _ => none

/-- tuples of two ints -/
def pairsOf : List D → Option (List (Int × Int))
  | [] => some []
  | .tup [.int a, .int b] :: r => (pairsOf r).map ((a, b) :: ·)
  | _ => none
def pairI (p : Int × Int) : D := .tup [.int p.1, .int p.2]
@[irreducible] def sortW (x : D) (S : Sto) (k : List D → Prop) : Prop :=
  match seqOf S x with
  | some xs => match intsOf xs with
    | some ns => ∀ ns' : List Int, ns'.Perm ns → ns'.Pairwise (· ≤ ·) → k (ns'.map .int)
    | none => match pairsOf xs with
      | some ps => ∀ ps' : List (Int × Int), ps'.Perm ps → ps'.Pairwise leP → k (ps'.map pairI)
      | none => False
  | none => False
def boolsOf : List D → Option (List Bool)
  | [] => some []
  | .bl b :: r => (boolsOf r).map (b :: ·)
  | _ => none
def strsOf : List D → Option (List Str)
  | [] => some []
  | .str b :: r => (strsOf r).map (b :: ·)
  | _ => none

/-- the signs of a text -/
def charsD (z : Str) : List D := z.cps.toList.map fun c => D.str ⟨#[c]⟩
def biW (b : BI) (ds : List D) (S : Sto) (k : WK) : Prop :=
  match b, ds with
  | .len, [x] => match x with
    | .str s => s.length ≤ sizeLine ∧ k (.int s.length) S
    | x => match seqOf S x with
      | some xs => k (.int xs.length) S
      | none => False
  | .int, [x] => match x with
    | .int i => k (.int i) S
    | .bl b => k (.int (if b = true then 1 else 0)) S
    | _ => False
  | .abs, [.int i] => k (.int (if i < 0 then -i else i)) S
  | .bool, [x] => match x with
    | .int i => k (.bl (i != 0)) S
    | .bl b => k (.bl b) S
    | _ => False
  | .tuple, [x] => match seqOf S x with
    | some xs => k (.tup xs) S
    | none => False
  | .list, [.str z] => z.length ≤ sizeLine ∧ k (.ro (charsD z)) S
  | .list, [x] => match seqOf S x with
    | some xs => k (.ro xs) S
    | none => False
  | .mlist, [.str z] => z.length ≤ sizeLine ∧ k (.ptr S.length) (S ++ [charsD z])
  | .mlist, [x] => match seqOf S x with
    | some xs => k (.ptr S.length) (S ++ [xs])
    | none => False
  | .max, [.int i, .int j] => k (.int (if j > i then j else i)) S
  | .min, [.int i, .int j] => k (.int (if j < i then j else i)) S
  | .max, [x] => match (seqOf S x).bind intsOf with
    | some ns => 0 < ns.length ∧ ∀ m, m ∈ ns → (∀ y, y ∈ ns → y ≤ m) → k (.int m) S
    | none => False
  | .min, [x] => match (seqOf S x).bind intsOf with
    | some ns => 0 < ns.length ∧ ∀ m, m ∈ ns → (∀ y, y ∈ ns → m ≤ y) → k (.int m) S
    | none => False
  | .sum, [x] => match (seqOf S x).bind intsOf with
    | some ns => k (.int ns.sum) S
    | none => False
  | .any, [x] => match (listOf S x).bind boolsOf with
    | some bs => k (.bl (bs.any id)) S
    | none => False
  | .all, [x] => match (listOf S x).bind boolsOf with
    | some bs => k (.bl (bs.all id)) S
    | none => False
  | .sorted, [x] => sortW x S fun ys => k (.ro ys) S
  | .msorted, [x] => sortW x S fun ys => k (.ptr S.length) (S ++ [ys])
  | .str, [.int i] => Nat.log2 i.natAbs < 1920 ∧ k (.str (Str.ofString (toString i))) S
  | .isI t, [x] => match isiB t x with
    | some b => k (.bl b) S
    | none => False
  | .rngv, [.int a, .int b] => ((-(2 ^ 62) ≤ a ∧ a < 2 ^ 62) ∧ -(2 ^ 62) ≤ b ∧ b < 2 ^ 62) ∧ k (.rng a b) S
  | _, _ => False

def appendW (o d : D) (S : Sto) (k : WK) : Prop :=
  match o with
  | .ptr n => match S[n]? with
    | some xs => xs.length < sizeLine ∧ k .non (S.set n (xs ++ [d]))
    | none => False
  | _ => False
def popW (o : D) (S : Sto) (k : WK) : Prop :=
  match o with
  | .ptr n => match S[n]? with
    | some xs => match xs[xs.length - 1]? with
      | some y => k y (S.set n xs.dropLast)
      | none => False
    | none => False
  | _ => False
def popAtW (o d : D) (S : Sto) (k : WK) : Prop :=
  match o, d with
  | .ptr n, .int i => match S[n]? with
    | some xs => match seqIndex? i xs.length with
      | some j => match xs[j]? with
        | some y => (-(2 ^ 63) ≤ i ∧ i < 2 ^ 63) ∧ k y (S.set n (xs.eraseIdx j))
        | none => False
      | none => False
    | none => False
  | _, _ => False
def joinW (o x : D) (S : Sto) (k : WK) : Prop :=
  match o with
  | .str s => match (seqOf S x).bind strsOf with
    | some ys => (ys.map (·.length)).sum + ys.length * s.length ≤ 16777216 ∧ k (.str (Txt.join s ys)) S
    | none => False
  | _ => False
def countW (o x : D) (S : Sto) (k : WK) : Prop :=
  match o, x with
  | .str a, .str b => k (.int (Txt.count a b)) S
  | _, _ => False
def indexW (o : Option (List D)) (x : D) (S : Sto) (k : WK) : Prop :=
  match o with
  | some xs => flatD x = true ∧ xs.all flatD = true ∧ match xs.findIdx? (fun z => eqD z x) with
    | some j => k (.int (j : Nat)) S
    | none => False
  | none => False
def methW (m : Mth) (o : D) (ds : List D) (S : Sto) (k : WK) : Prop :=
  match m with
  | .append => match ds with
    | [d] => appendW o d S k
    | _ => False
  | .pop => match ds with
    | [] => popW o S k
    | [d] => popAtW o d S k
    | _ => False
  | .join => match ds with
    | [d] => joinW o d S k
    | _ => False
  | .count => match ds with
    | [d] => countW o d S k
    | _ => False
  | .indexL => match ds with
    | [d] => indexW (listOf S o) d S k
    | _ => False

def mthTy : Mth → D → Prop
  | .append, .ptr _ => True
  | .pop, .ptr _ => True
  | .join, .str _ => True
  | .count, .str _ => True
  | .indexL, .ptr _ => True
  | .indexL, .ro _ => True
  | _, _ => False
/-- what a written dict holds -/
def keyEq : Key → Key → Bool
  | .inl i, .inl j => i == j
  | .inr a, .inr b => a == b
  | _, _ => false
def lookD : List Key → List D → Key → Option D
  | k :: ks, d :: ds, y => if keyEq k y = true then some d else lookD ks ds y
  | _, _, _ => none
def idxW (x y : D) (S : Sto) (k : WK) : Prop :=
  match y with
  | .int i => match x with
    | .str z => z.length ≤ sizeLine ∧ match atI z.cps.toList i with
      | some c => k (.str ⟨#[c]⟩) S
      | none => False
    | .dic ks ds => match lookD ks ds (.inl i) with
      | some d => k d S
      | none => False
    | x => match seqOf S x with
      | some xs => match atI xs i with
        | some d => k d S
        | none => False
      | none => False
  | .str s => match x with
    | .dic ks ds => match lookD ks ds (.inr s) with
      | some d => k d S
      | none => False
    | _ => False
  | _ => False
/-- min(x, default=None) -/
def minNW (x : D) (S : Sto) (k : WK) : Prop :=
  match (seqOf S x).bind intsOf with
  | some ns => (ns = [] → k .non S) ∧ ∀ m, m ∈ ns → (∀ y, y ∈ ns → m ≤ y) → k (.int m) S
  | none => False

def slcW (x : D) (lo hi : Option Int) (S : Sto) (k : WK) : Prop :=
  match x with
  | .tup xs => k (.tup (cutD xs lo hi)) S
  | .str z => z.length ≤ sizeLine ∧ k (.str (cutS z lo hi)) S
  | x => match listOf S x with
    | some xs => k (.ro (cutD xs lo hi)) S
    | none => False

/-- programs -/
inductive PP where
  | nm (i : Nat)
  | tp (ps : List PP)
inductive IK | sq | rg | en deriving DecidableEq
inductive PX where
  | var (i : Nat)
  | con (x : Str) (d : Int)
  | non | bl (b : Bool) | int (i : Int) | str (s : Str)
  | tup (es : List PX) | ls (es : List PX) | mls (es : List PX)
  | bin (op : BOp) (a b : PX)
  | neg (a : PX) | notv (a : PX)
  | cmp (op : COp) (a b : PX)
  | chain (op op' : COp) (a b c : PX)
  | andv (a r : PX) | orv (a r : PX) | one (a : PX)
  | tru (a : PX)
  | ite (c a b : PX)
  | call (f : Nat) (es : List PX)
  | bi (b : BI) (es : List PX)
  | minN (a : PX)
  | dct (ks : List Key) (es : List PX)
  | meth (m : Mth) (o : PX) (es : List PX)
  | lrg (mu : Bool) (a : PX)
  | idx (a i : PX)
  | slc (a : PX) (lo hi : Option PX)
  | comp (mu : Bool) (elt : PX) (p : PP) (own : List (Str × Nat)) (rng : IK) (src : List PX) (cond : Option PX)
inductive PSt where
  | asg (p : PP) (e : PX)
  | sub (o i e : PX)
  | augS (o i : PX) (op : BOp) (e : PX)
  | par (i j : Nat) (a b : PX)
  | aug (i : Nat) (op : BOp) (e : PX)
  | expr (e : PX)
  | ret (e : PX) | retN
  | ite (c : PX) (t e : List PSt)
  | forS (p : PP) (rng : IK) (src : List PX) (b : List PSt)
  | whil (c : PX) (b : List PSt)
  | pass | brk | cont

structure DEnds where
  nx : DEnv → Sto → Prop
  rt : WK
  bk : DEnv → Sto → Prop := fun _ _ => False
  ct : DEnv → Sto → Prop := fun _ _ => False

abbrev Calls := Nat → List D → Sto → WK → Prop

mutual
def bindW : PP → D → DEnv → (DEnv → Prop) → Prop
  | .nm i, d, σ, k => k (σ.set i (some d))
  | .tp ps, d, σ, k => match d with
    | .tup ds => ds.length = ps.length ∧ bindWs ps ds σ k
    | _ => False
def bindWs : List PP → List D → DEnv → (DEnv → Prop) → Prop
  | [], ds, σ, k => match ds with
    | [] => k σ
    | _ :: _ => False
  | p :: ps, ds, σ, k => match ds with
    | [] => False
    | d :: ds => bindW p d σ fun σ1 => bindWs ps ds σ1 k
end

def rangeD (lo : Int) (n : Nat) : List D := (List.range n).map fun (i : Nat) => D.int (lo + i)
def downD (lo : Int) (n : Nat) : List D := (List.range n).map fun (i : Nat) => D.int (lo - i)
def enumD (xs : List D) : List D := xs.zipIdx.map fun p => D.tup [.int (p.2 : Nat), p.1]
def big62 (i : Int) : Prop := -(2 ^ 62) ≤ i ∧ i < 2 ^ 62
/-- what a loop goes over: its items, and the number of the list if it may change -/
def itW (rng : IK) (ds : List D) (S : Sto) (k : List D → Option Nat → Prop) : Prop :=
  match rng, ds with
  | .rg, [.int n] => big62 n ∧ k (rangeD 0 n.toNat) none
  | .rg, [.int lo, .int hi] => (big62 lo ∧ big62 hi) ∧ k (rangeD lo (hi - lo).toNat) none
  | .rg, [.int lo, .int hi, .int c] => c = -1 ∧ (big62 lo ∧ big62 hi) ∧ k (downD lo (lo - hi).toNat) none
  | .sq, [.tup xs] => k xs none
  | .sq, [.ro xs] => k xs none
  | .sq, [.rng a b] => k (rangeD a (b - a).toNat) none
  | .sq, [.ptr n] => match S[n]? with
    | some xs => k xs (some n)
    | none => False
  | .en, [.tup xs] => k (enumD xs) none
  | .en, [.ro xs] => k (enumD xs) none
  | _, _ => False
/-- the list that is gone over stands still -/
def still (src : Option Nat) (xs : List D) (S : Sto) : Prop :=
  match src with
  | none => True
  | some n => S[n]? = some xs

def compW (body : D → Sto → (Bool → D → Sto → Prop) → Prop) (src : Option Nat) (all : List D) : List D → Sto → (List D → Sto → Prop) → Prop
  | [], S, k => still src all S ∧ k [] S
  | x :: xs, S, k => still src all S ∧ body x S fun b d S1 => compW body src all xs S1 fun ds S2 => k (if b = true then d :: ds else ds) S2

def forW (body : D → DEnv → Sto → DEnds → Prop) (src : Option Nat) (all : List D) : List D → DEnv → Sto → DEnds → Prop
  | [], σ, S, e => still src all S ∧ e.nx σ S
  | x :: xs, σ, S, e => still src all S ∧ body x σ S { nx := fun σ1 S1 => forW body src all xs σ1 S1 e, rt := e.rt, bk := e.nx, ct := fun σ1 S1 => forW body src all xs σ1 S1 e }

def wipeD (σ : DEnv) : List Nat → DEnv
  | [] => σ
  | v :: vs => (wipeD σ vs).set v none

mutual
def wE (C : Calls) : PX → DEnv → Sto → WK → Prop
  | .var i, σ, S, k => match σ[i]? with
    | some (some d) => k d S
    | _ => False
  | .con _ d, _, S, k => k (.int d) S
  | .non, _, S, k => k .non S
  | .bl b, _, S, k => k (.bl b) S
  | .int i, _, S, k => k (.int i) S
  | .str s, _, S, k => k (.str s) S
  | .tup es, σ, S, k => wEs C es σ S fun ds S1 => k (.tup ds) S1
  | .ls es, σ, S, k => wEs C es σ S fun ds S1 => k (.ro ds) S1
  | .mls es, σ, S, k => wEs C es σ S fun ds S1 => k (.ptr S1.length) (S1 ++ [ds])
  | .bin op a b, σ, S, k => wE C a σ S fun x S1 => wE C b σ S1 fun y S2 => binW op x y S2 k
  | .neg a, σ, S, k => wE C a σ S fun x S1 => match x with
    | .int i => k (.int (-i)) S1
    | _ => False
  | .notv a, σ, S, k => wE C a σ S fun x S1 => truthW x S1 fun b S2 => k (.bl (!b)) S2
  | .cmp op a b, σ, S, k => wE C a σ S fun x S1 => wE C b σ S1 fun y S2 => cmpW op x y S2 k
  | .chain op op' a b c, σ, S, k => wE C a σ S fun x S1 => wE C b σ S1 fun y S2 => cmpW op x y S2 fun d S3 => match d with
    | .bl true => wE C c σ S3 fun z S4 => cmpW op' y z S4 k
    | .bl false => k (.bl false) S3
    | _ => False
  | .andv a r, σ, S, k => wE C a σ S fun x S1 => match x with
    | .bl true => wE C r σ S1 k
    | .bl false => k (.bl false) S1
    | _ => False
  | .orv a r, σ, S, k => wE C a σ S fun x S1 => match x with
    | .bl true => k (.bl true) S1
    | .bl false => wE C r σ S1 k
    | _ => False
  | .one a, σ, S, k => wE C a σ S k
  | .tru a, σ, S, k => wE C a σ S k
  | .ite c a b, σ, S, k => wT C c σ S fun t S1 => (t = true → wE C a σ S1 k) ∧ (t = false → wE C b σ S1 k)
  | .call f es, σ, S, k => wEs C es σ S fun ds S1 => C f ds S1 k
  | .bi b es, σ, S, k => wEs C es σ S fun ds S1 => biW b ds S1 k
  | .minN a, σ, S, k => wE C a σ S fun x S1 => minNW x S1 k
  | .dct ks es, σ, S, k => wEs C es σ S fun ds S1 => k (.dic ks ds) S1
  | .meth m o es, σ, S, k => wE C o σ S fun x S1 => mthTy m x ∧ wEs C es σ S1 fun ds S2 => methW m x ds S2 k
  | .lrg mu a, σ, S, k => wE C a σ S fun x S1 => match x with
    | .int n => (-(2 ^ 62) ≤ n ∧ n ≤ 16777216) ∧ if mu = true then k (.ptr S1.length) (S1 ++ [rangeD 0 n.toNat]) else k (.ro (rangeD 0 n.toNat)) S1
    | _ => False
  | .idx a i, σ, S, k => wE C a σ S fun x S1 => wE C i σ S1 fun y S2 => idxW x y S2 k
  | .slc a lo hi, σ, S, k => wE C a σ S fun x S1 => wO C lo σ S1 fun l S2 => wO C hi σ S2 fun h S3 => slcW x l h S3 k
  | .comp mu elt p own rng src cond, σ, S, k => wEs C src σ S fun ds S1 => itW rng ds S1 fun xs sr => xs.length < sizeLine ∧
      compW (fun x S2 kk => bindW p x (wipeD σ (own.map (·.2))) fun σ1 => wC C cond σ1 S2 fun b S3 => (b = true → wE C elt σ1 S3 fun d S4 => kk true d S4) ∧ (b = false → kk false .non S3)) sr xs xs S1
        fun out S2 => if mu = true then k (.ptr S2.length) (S2 ++ [out]) else k (.ro out) S2
def wEs (C : Calls) : List PX → DEnv → Sto → (List D → Sto → Prop) → Prop
  | [], _, S, k => k [] S
  | e :: es, σ, S, k => wE C e σ S fun d S1 => wEs C es σ S1 fun ds S2 => k (d :: ds) S2
def wO (C : Calls) : Option PX → DEnv → Sto → (Option Int → Sto → Prop) → Prop
  | none, _, S, k => k none S
  | some e, σ, S, k => wE C e σ S fun d S1 => match d with
    | .int i => k (some i) S1
    | _ => False
def wC (C : Calls) : Option PX → DEnv → Sto → (Bool → Sto → Prop) → Prop
  | none, _, S, k => k true S
  | some e, σ, S, k => wT C e σ S k
def wT (C : Calls) : PX → DEnv → Sto → (Bool → Sto → Prop) → Prop
  | .andv a r, σ, S, k => wT C a σ S fun b S1 => (b = true → wT C r σ S1 k) ∧ (b = false → k false S1)
  | .orv a r, σ, S, k => wT C a σ S fun b S1 => (b = true → k true S1) ∧ (b = false → wT C r σ S1 k)
  | .one a, σ, S, k => wT C a σ S k
  | .notv a, σ, S, k => wT C a σ S fun b S1 => k (!b) S1
  | .tru e, σ, S, k => wE C e σ S fun d S1 => truthW d S1 k
  | .cmp op a b, σ, S, k => wE C a σ S fun x S1 => wE C b σ S1 fun y S2 => cmpW op x y S2 fun d S3 => match d with
    | .bl t => k t S3
    | _ => False
  | .chain op op' a b c, σ, S, k => wE C a σ S fun x S1 => wE C b σ S1 fun y S2 => cmpW op x y S2 fun d S3 => match d with
    | .bl true => wE C c σ S3 fun z S4 => cmpW op' y z S4 fun d S5 => match d with
      | .bl t => k t S5
      | _ => False
    | .bl false => k false S3
    | _ => False
  | _, _, _, _ => False
termination_by structural p => p
end
end Ov

namespace Ov
open PySem L2
def augW (op : BOp) (x y : D) (k : D → Prop) : Prop :=
  match op, x, y with
  | .add, .int a, .int b => k (.int (a + b))
  | .sub, .int a, .int b => k (.int (a - b))
  | _, _, _ => False
def subW (x y d : D) (S : Sto) (k : Sto → Prop) : Prop :=
  match x, y with
  | .ptr n, .int j => match S[n]? with
    | some xs => match ixN xs.length j with
      | some m => k (S.set n (xs.set m d))
      | none => False
    | none => False
  | _, _ => False
def getW (x y : D) (S : Sto) (k : D → Prop) : Prop :=
  match x, y with
  | .ptr n, .int j => match S[n]? with
    | some xs => match atI xs j with
      | some d => 0 ≤ j ∧ k d
      | none => False
    | none => False
  | _, _ => False
mutual
def wS (C : Calls) : PSt → DEnv → Sto → DEnds → Prop
  | .asg p e, σ, S, E => wE C e σ S fun d S1 => bindW p d σ fun σ1 => E.nx σ1 S1
  | .sub o i e, σ, S, E => wE C e σ S fun d S1 => wE C o σ S1 fun x S2 => wE C i σ S2 fun y S3 => subW x y d S3 fun S4 => E.nx σ S4
  | .augS o i op e, σ, S, E => wE C o σ S fun x S1 => wE C i σ S1 fun y S2 => getW x y S2 fun d => wE C e σ S2 fun z S3 => augW op d z fun v => subW x y v S3 fun S4 => E.nx σ S4
  | .par i j a b, σ, S, E => wE C a σ S fun x S1 => wE C b σ S1 fun y S2 => E.nx ((σ.set i (some x)).set j (some y)) S2
  | .aug i op e, σ, S, E => match σ[i]? with
    | some (some x) => wE C e σ S fun y S1 => augW op x y fun z => E.nx (σ.set i (some z)) S1
    | _ => False
  | .expr e, σ, S, E => wE C e σ S fun _ S1 => E.nx σ S1
  | .ret e, σ, S, E => wE C e σ S E.rt
  | .retN, _, S, E => E.rt .non S
  | .ite c t e, σ, S, E => wT C c σ S fun b S1 => (b = true → wSs C t σ S1 E) ∧ (b = false → wSs C e σ S1 E)
  | .forS p rng src b, σ, S, E => wEs C src σ S fun ds S1 => itW rng ds S1 fun xs sr => True ∧
      forW (fun x σ1 S2 E2 => bindW p x σ1 fun σ2 => wSs C b σ2 S2 E2) sr xs xs σ S1 E
  | .whil c b, σ, S, E => ∃ W : Nat → DEnv → Sto → Prop, (∃ m, W m σ S) ∧ ∀ m σ S, W m σ S → wT C c σ S fun t S1 =>
      (t = true → wSs C b σ S1 { nx := fun σ' S' => ∃ m', m' < m ∧ W m' σ' S', rt := E.rt, bk := E.nx, ct := fun σ' S' => ∃ m', m' < m ∧ W m' σ' S' }) ∧ (t = false → E.nx σ S1)
  | .pass, σ, S, E => E.nx σ S
  | .brk, σ, S, E => E.bk σ S
  | .cont, σ, S, E => E.ct σ S
termination_by structural p => p
def wSs (C : Calls) : List PSt → DEnv → Sto → DEnds → Prop
  | [], σ, S, E => E.nx σ S
  | s :: r, σ, S, E => wS C s σ S { E with nx := fun σ1 S1 => wSs C r σ1 S1 E }
termination_by structural p => p
end

/-- a def: its name, its slots (parameters first), how many parameters, its body -/
structure DDef where
  name : Str
  names : List Str
  np : Nat
  body : List PSt
def startD (d : DDef) (ds : List D) : DEnv := ds.map some ++ List.replicate (d.names.length - ds.length) none
def callW (T : List DDef) : Nat → Calls
  | 0 => fun _ _ _ _ => False
  | n + 1 => fun f ds S k => match T[f]? with
    | some d => ds.length = d.np ∧ wSs (callW T n) d.body (startD d ds) S { nx := fun _ S1 => k .non S1, rt := k }
    | none => False
end Ov
-- OvM
/-! What is wanted may be weakened. -/
namespace Ov
open PySem L2
section
variable {k k' : WK}
theorem catW_mono {x y : D} {S : Sto} (i : ∀ d S, k d S → k' d S) : catW x y S k → catW x y S k' := by
  unfold catW
  split
  · exact fun h => ⟨h.1, i _ _ h.2⟩
  · exact fun h => h
theorem binW_mono {op : BOp} {x y : D} {S : Sto} (i : ∀ d S, k d S → k' d S) : binW op x y S k → binW op x y S k' := by
  unfold binW
  split <;> (first | exact fun h => catW_mono i h | exact fun h => i _ _ h | exact fun h => ⟨h.1, i _ _ h.2⟩ | exact fun h => h)
theorem ordC_mono {op : COp} {x y : D} {S : Sto} (i : ∀ d S, k d S → k' d S) : ordC op x y S k → ordC op x y S k' := by
  unfold ordC
  split
  · (first | exact fun h => i _ _ h | exact fun h => ⟨h.1, i _ _ h.2⟩ | exact fun h => h)
  · split <;> (first | exact fun h => i _ _ h | exact fun h => ⟨h.1, i _ _ h.2⟩ | exact fun h => h)
  · (first | exact fun h => i _ _ h | exact fun h => ⟨h.1, i _ _ h.2⟩ | exact fun h => h)
theorem cmpW_mono {op : COp} {x y : D} {S : Sto} (i : ∀ d S, k d S → k' d S) : cmpW op x y S k → cmpW op x y S k' := by
  cases op
  · exact fun h => ⟨h.1, i _ _ h.2⟩
  · exact fun h => ⟨h.1, i _ _ h.2⟩
  · exact ordC_mono i
  · exact ordC_mono i
  · exact ordC_mono i
  · exact ordC_mono i
  · simp only [cmpW]
    split
    · (first | exact fun h => i _ _ h | exact fun h => ⟨h.1, i _ _ h.2⟩ | exact fun h => h)
    · split <;> (first | exact fun h => i _ _ h | exact fun h => ⟨h.1, i _ _ h.2⟩ | exact fun h => h)
    · (first | exact fun h => i _ _ h | exact fun h => ⟨h.1, i _ _ h.2⟩ | exact fun h => h)
  · simp only [cmpW]
    split
    · (first | exact fun h => i _ _ h | exact fun h => ⟨h.1, i _ _ h.2⟩ | exact fun h => h)
    · split <;> (first | exact fun h => i _ _ h | exact fun h => ⟨h.1, i _ _ h.2⟩ | exact fun h => h)
    · (first | exact fun h => i _ _ h | exact fun h => ⟨h.1, i _ _ h.2⟩ | exact fun h => h)
  · simp only [cmpW]
    split
    · (first | exact fun h => i _ _ h | exact fun h => ⟨h.1, i _ _ h.2⟩ | exact fun h => h)
    · split
      · exact fun h => ⟨h.1, h.2.1, i _ _ h.2.2⟩
      · (first | exact fun h => i _ _ h | exact fun h => ⟨h.1, i _ _ h.2⟩ | exact fun h => h)
  · simp only [cmpW]
    split
    · (first | exact fun h => i _ _ h | exact fun h => ⟨h.1, i _ _ h.2⟩ | exact fun h => h)
    · split
      · exact fun h => ⟨h.1, h.2.1, i _ _ h.2.2⟩
      · (first | exact fun h => i _ _ h | exact fun h => ⟨h.1, i _ _ h.2⟩ | exact fun h => h)
theorem truthW_mono {x : D} {S : Sto} {k k' : Bool → Sto → Prop} (i : ∀ d S, k d S → k' d S) : truthW x S k → truthW x S k' := by
  unfold truthW
  split
  · (first | exact fun h => i _ _ h | exact fun h => ⟨h.1, i _ _ h.2⟩ | exact fun h => h)
  · (first | exact fun h => i _ _ h | exact fun h => ⟨h.1, i _ _ h.2⟩ | exact fun h => h)
  · (first | exact fun h => i _ _ h | exact fun h => ⟨h.1, i _ _ h.2⟩ | exact fun h => h)
  · (first | exact fun h => i _ _ h | exact fun h => ⟨h.1, i _ _ h.2⟩ | exact fun h => h)
  · (first | exact fun h => i _ _ h | exact fun h => ⟨h.1, i _ _ h.2⟩ | exact fun h => h)
  · (first | exact fun h => i _ _ h | exact fun h => ⟨h.1, i _ _ h.2⟩ | exact fun h => h)
  · split <;> (first | exact fun h => i _ _ h | exact fun h => ⟨h.1, i _ _ h.2⟩ | exact fun h => h)
  · exact fun h => h
  · exact fun h => h
theorem sortW_mono {x : D} {S : Sto} {k k' : List D → Prop} (i : ∀ d, k d → k' d) : sortW x S k → sortW x S k' := by
  unfold sortW
  split
  · split
    · exact fun h ns' a b => i _ (h ns' a b)
    · split
      · exact fun h ns' a b => i _ (h ns' a b)
      · exact fun h => h
  · exact fun h => h
theorem biW_mono {b : BI} {ds : List D} {S : Sto} (i : ∀ d S, k d S → k' d S) : biW b ds S k → biW b ds S k' := by
  unfold biW
  split <;> first
    | (first | exact fun h => i _ _ h | exact fun h => ⟨h.1, i _ _ h.2⟩ | exact fun h => h)
    | exact sortW_mono (fun d hd => i _ _ hd)
    | (split <;> first
        | (first | exact fun h => i _ _ h | exact fun h => ⟨h.1, i _ _ h.2⟩ | exact fun h => h)
        | exact fun h => ⟨h.1, fun m a b => i _ _ (h.2 m a b)⟩
        | (split <;> (first | exact fun h => i _ _ h | exact fun h => ⟨h.1, i _ _ h.2⟩ | exact fun h => h)))
theorem countW_mono {o d : D} {S : Sto} (i : ∀ d S, k d S → k' d S) : countW o d S k → countW o d S k' := by
  unfold countW
  split
  · exact fun h => i _ _ h
  · exact fun h => h
theorem indexW_mono {o : Option (List D)} {d : D} {S : Sto} (i : ∀ d S, k d S → k' d S) : indexW o d S k → indexW o d S k' := by
  unfold indexW
  split
  · rintro ⟨h1, h2, h⟩
    refine ⟨h1, h2, ?_⟩
    split at h
    · exact i _ _ h
    · exact h
  · exact fun h => h
theorem methW_mono {m : Mth} {o : D} {ds : List D} {S : Sto} (i : ∀ d S, k d S → k' d S) : methW m o ds S k → methW m o ds S k' := by
  unfold methW
  split
  · split
    · unfold appendW
      split
      · split <;> (first | exact fun h => i _ _ h | exact fun h => ⟨h.1, i _ _ h.2⟩ | exact fun h => h)
      · (first | exact fun h => i _ _ h | exact fun h => ⟨h.1, i _ _ h.2⟩ | exact fun h => h)
    · (first | exact fun h => i _ _ h | exact fun h => ⟨h.1, i _ _ h.2⟩ | exact fun h => h)
  · split
    · unfold popW
      split
      · split
        · split <;> (first | exact fun h => i _ _ h | exact fun h => ⟨h.1, i _ _ h.2⟩ | exact fun h => h)
        · (first | exact fun h => i _ _ h | exact fun h => ⟨h.1, i _ _ h.2⟩ | exact fun h => h)
      · (first | exact fun h => i _ _ h | exact fun h => ⟨h.1, i _ _ h.2⟩ | exact fun h => h)
    · unfold popAtW
      split
      · split
        · split
          · split <;> (first | exact fun h => i _ _ h | exact fun h => ⟨h.1, i _ _ h.2⟩ | exact fun h => h)
          · (first | exact fun h => i _ _ h | exact fun h => ⟨h.1, i _ _ h.2⟩ | exact fun h => h)
        · (first | exact fun h => i _ _ h | exact fun h => ⟨h.1, i _ _ h.2⟩ | exact fun h => h)
      · (first | exact fun h => i _ _ h | exact fun h => ⟨h.1, i _ _ h.2⟩ | exact fun h => h)
    · (first | exact fun h => i _ _ h | exact fun h => ⟨h.1, i _ _ h.2⟩ | exact fun h => h)
  · split
    · unfold joinW
      split
      · split <;> (first | exact fun h => i _ _ h | exact fun h => ⟨h.1, i _ _ h.2⟩ | exact fun h => h)
      · (first | exact fun h => i _ _ h | exact fun h => ⟨h.1, i _ _ h.2⟩ | exact fun h => h)
    · (first | exact fun h => i _ _ h | exact fun h => ⟨h.1, i _ _ h.2⟩ | exact fun h => h)
  · split
    · exact countW_mono i
    · exact fun h => h
  · split
    · exact indexW_mono i
    · exact fun h => h
theorem idxW_mono {x y : D} {S : Sto} (i : ∀ d S, k d S → k' d S) : idxW x y S k → idxW x y S k' := by
  unfold idxW
  split
  · split
    · intro h
      refine ⟨h.1, ?_⟩
      have h := h.2
      revert h
      split <;> (first | exact fun h => i _ _ h | exact fun h => ⟨h.1, i _ _ h.2⟩ | exact fun h => h)
    · split <;> (first | exact fun h => i _ _ h | exact fun h => h)
    · split
      · split <;> (first | exact fun h => i _ _ h | exact fun h => ⟨h.1, i _ _ h.2⟩ | exact fun h => h)
      · (first | exact fun h => i _ _ h | exact fun h => ⟨h.1, i _ _ h.2⟩ | exact fun h => h)
  · split
    · split <;> (first | exact fun h => i _ _ h | exact fun h => h)
    · exact fun h => h
  · (first | exact fun h => i _ _ h | exact fun h => ⟨h.1, i _ _ h.2⟩ | exact fun h => h)
theorem minNW_mono {x : D} {S : Sto} (i : ∀ d S, k d S → k' d S) : minNW x S k → minNW x S k' := by
  unfold minNW
  split
  · exact fun h => ⟨fun e => i _ _ (h.1 e), fun m h1 h2 => i _ _ (h.2 m h1 h2)⟩
  · exact fun h => h
theorem slcW_mono {x : D} {lo hi : Option Int} {S : Sto} (i : ∀ d S, k d S → k' d S) : slcW x lo hi S k → slcW x lo hi S k' := by
  unfold slcW
  split
  · (first | exact fun h => i _ _ h | exact fun h => ⟨h.1, i _ _ h.2⟩ | exact fun h => h)
  · (first | exact fun h => i _ _ h | exact fun h => ⟨h.1, i _ _ h.2⟩ | exact fun h => h)
  · split <;> (first | exact fun h => i _ _ h | exact fun h => ⟨h.1, i _ _ h.2⟩ | exact fun h => h)
end
mutual
theorem bindW_mono {k k' : DEnv → Prop} (i : ∀ σ, k σ → k' σ) : ∀ (p : PP) (d : D) (σ : DEnv), bindW p d σ k → bindW p d σ k'
  | .nm j, d, σ, h => i _ h
  | .tp ps, d, σ, h => by
    cases d with
    | tup ds =>
      have h : ds.length = ps.length ∧ bindWs ps ds σ k := h
      exact ⟨h.1, bindWs_mono i ps ds σ h.2⟩
    | _ => exact (show False from h).elim
theorem bindWs_mono {k k' : DEnv → Prop} (i : ∀ σ, k σ → k' σ) : ∀ (ps : List PP) (ds : List D) (σ : DEnv), bindWs ps ds σ k → bindWs ps ds σ k'
  | [], ds, σ, h => by
    cases ds with
    | nil => exact i _ h
    | cons _ _ => exact (show False from h).elim
  | p :: ps, ds, σ, h => by
    cases ds with
    | nil => exact (show False from h).elim
    | cons d ds =>
      have h : bindW p d σ fun σ1 => bindWs ps ds σ1 k := h
      exact bindW_mono (fun σ1 h1 => bindWs_mono i ps ds σ1 h1) p d σ h
end
theorem augW_mono {op : BOp} {x y : D} {k k' : D → Prop} (i : ∀ d, k d → k' d) : augW op x y k → augW op x y k' := by
  unfold augW
  split
  · exact fun h => i _ h
  · exact fun h => i _ h
  · exact fun h => h
theorem subW_mono {x y d : D} {S : Sto} {k k' : Sto → Prop} (i : ∀ d, k d → k' d) : subW x y d S k → subW x y d S k' := by
  unfold subW
  split
  · split
    · split
      · exact fun h => i _ h
      · exact fun h => h
    · exact fun h => h
  · exact fun h => h
theorem getW_mono {x y : D} {S : Sto} {k k' : D → Prop} (i : ∀ d, k d → k' d) : getW x y S k → getW x y S k' := by
  unfold getW
  split
  · split
    · split
      · exact fun h => ⟨h.1, i _ h.2⟩
      · exact fun h => h
    · exact fun h => h
  · exact fun h => h
theorem itW_mono {rng : IK} {ds : List D} {S : Sto} {k k' : List D → Option Nat → Prop} (i : ∀ xs sr, k xs sr → k' xs sr) : itW rng ds S k → itW rng ds S k' := by
  unfold itW
  split
  · exact fun h => ⟨h.1, i _ _ h.2⟩
  · exact fun h => ⟨h.1, i _ _ h.2⟩
  · exact fun h => ⟨h.1, h.2.1, i _ _ h.2.2⟩
  · exact fun h => i _ _ h
  · exact fun h => i _ _ h
  · exact fun h => i _ _ h
  · split
    · exact fun h => i _ _ h
    · exact fun h => h
  · exact fun h => i _ _ h
  · exact fun h => i _ _ h
  · exact fun h => h
theorem compW_mono {body : D → Sto → (Bool → D → Sto → Prop) → Prop} {src : Option Nat} {all : List D} (hb : ∀ x S (k k' : Bool → D → Sto → Prop), (∀ b d S, k b d S → k' b d S) → body x S k → body x S k') :
    ∀ (xs : List D) (S : Sto) (k k' : List D → Sto → Prop), (∀ d S, k d S → k' d S) → compW body src all xs S k → compW body src all xs S k'
  | [], S, k, k', i, h => ⟨h.1, i _ _ h.2⟩
  | x :: xs, S, k, k', i, h => ⟨h.1, hb x S _ _ (fun b d S1 h1 => compW_mono hb xs S1 _ _ (fun ds S2 h2 => i _ _ h2) h1) h.2⟩

/-- weaker ends -/
structure DEnds.Le (E E' : DEnds) : Prop where
  nx : ∀ σ S, E.nx σ S → E'.nx σ S
  rt : ∀ d S, E.rt d S → E'.rt d S
  bk : ∀ σ S, E.bk σ S → E'.bk σ S
  ct : ∀ σ S, E.ct σ S → E'.ct σ S
theorem forW_mono {body : D → DEnv → Sto → DEnds → Prop} {src : Option Nat} {all : List D} (hb : ∀ x σ S (E E' : DEnds), E.Le E' → body x σ S E → body x σ S E') :
    ∀ (xs : List D) (σ : DEnv) (S : Sto) (E E' : DEnds), E.Le E' → forW body src all xs σ S E → forW body src all xs σ S E'
  | [], σ, S, E, E', i, h => ⟨h.1, i.nx _ _ h.2⟩
  | x :: xs, σ, S, E, E', i, h => by
    refine ⟨h.1, hb x σ S _ _ ?_ h.2⟩
    exact ⟨fun σ1 S1 h1 => forW_mono hb xs σ1 S1 E E' i h1, i.rt, i.nx, fun σ1 S1 h1 => forW_mono hb xs σ1 S1 E E' i h1⟩

def MonoC (C : Calls) : Prop := ∀ f ds S (k k' : WK), (∀ d S, k d S → k' d S) → C f ds S k → C f ds S k'
section
variable {C : Calls} (hC : MonoC C)
include hC
mutual
theorem wE_mono : ∀ (p : PX) (σ : DEnv) (S : Sto) (k k' : WK), (∀ d S, k d S → k' d S) → wE C p σ S k → wE C p σ S k'
  | .var j, σ, S, k, k', i, h => by
    have h : (match σ[j]? with
      | some (some d) => k d S
      | _ => False) := h
    show (match σ[j]? with
      | some (some d) => k' d S
      | _ => False)
    split at h
    · exact i _ _ h
    · exact h.elim
  | .con _ _, σ, S, k, k', i, h => i _ _ h
  | .non, σ, S, k, k', i, h => i _ _ h
  | .bl _, σ, S, k, k', i, h => i _ _ h
  | .int _, σ, S, k, k', i, h => i _ _ h
  | .str _, σ, S, k, k', i, h => i _ _ h
  | .tup es, σ, S, k, k', i, h => wEs_mono es σ S _ _ (fun ds S1 h1 => i _ _ h1) h
  | .ls es, σ, S, k, k', i, h => wEs_mono es σ S _ _ (fun ds S1 h1 => i _ _ h1) h
  | .mls es, σ, S, k, k', i, h => wEs_mono es σ S _ _ (fun ds S1 h1 => i _ _ h1) h
  | .bin op a b, σ, S, k, k', i, h => wE_mono a σ S _ _ (fun x S1 h1 => wE_mono b σ S1 _ _ (fun y S2 h2 => binW_mono i h2) h1) h
  | .neg a, σ, S, k, k', i, h => wE_mono a σ S _ _ (fun x S1 h1 => by
    cases x with
    | int j => exact i _ _ h1
    | _ => exact (show False from h1).elim) h
  | .notv a, σ, S, k, k', i, h => wE_mono a σ S _ _ (fun x S1 h1 => truthW_mono (fun b S2 h2 => i _ _ h2) h1) h
  | .cmp op a b, σ, S, k, k', i, h => wE_mono a σ S _ _ (fun x S1 h1 => wE_mono b σ S1 _ _ (fun y S2 h2 => cmpW_mono i h2) h1) h
  | .chain op op' a b c, σ, S, k, k', i, h => wE_mono a σ S _ _ (fun x S1 h1 => wE_mono b σ S1 _ _ (fun y S2 h2 => cmpW_mono (fun d S3 h3 => by
    cases d with
    | bl t =>
      cases t with
      | true => exact wE_mono c σ S3 _ _ (fun z S4 h4 => cmpW_mono i h4) h3
      | false => exact i _ _ h3
    | _ => exact (show False from h3).elim) h2) h1) h
  | .andv a r, σ, S, k, k', i, h => wE_mono a σ S _ _ (fun x S1 h1 => by
    cases x with
    | bl t =>
      cases t with
      | true => exact wE_mono r σ S1 _ _ i h1
      | false => exact i _ _ h1
    | _ => exact (show False from h1).elim) h
  | .orv a r, σ, S, k, k', i, h => wE_mono a σ S _ _ (fun x S1 h1 => by
    cases x with
    | bl t =>
      cases t with
      | false => exact wE_mono r σ S1 _ _ i h1
      | true => exact i _ _ h1
    | _ => exact (show False from h1).elim) h
  | .one a, σ, S, k, k', i, h => wE_mono a σ S k k' i h
  | .tru a, σ, S, k, k', i, h => wE_mono a σ S k k' i h
  | .ite c a b, σ, S, k, k', i, h => wT_mono c σ S _ _ (fun t S1 h1 => ⟨fun e => wE_mono a σ S1 k k' i (h1.1 e), fun e => wE_mono b σ S1 k k' i (h1.2 e)⟩) h
  | .call f es, σ, S, k, k', i, h => wEs_mono es σ S _ _ (fun ds S1 h1 => hC f ds S1 k k' i h1) h
  | .bi b es, σ, S, k, k', i, h => wEs_mono es σ S _ _ (fun ds S1 h1 => biW_mono i h1) h
  | .minN a, σ, S, k, k', i, h => wE_mono a σ S _ _ (fun x S1 h1 => minNW_mono i h1) h
  | .dct ks es, σ, S, k, k', i, h => wEs_mono es σ S _ _ (fun ds S1 h1 => i _ _ h1) h
  | .meth m o es, σ, S, k, k', i, h => wE_mono o σ S _ _ (fun x S1 h1 => ⟨h1.1, wEs_mono es σ S1 _ _ (fun ds S2 h2 => methW_mono i h2) h1.2⟩) h
  | .lrg mu a, σ, S, k, k', i, h => wE_mono a σ S _ _ (fun x S1 h1 => by
    cases x with
    | int n =>
      refine ⟨h1.1, ?_⟩
      have h2 := h1.2
      by_cases hm : mu = true
      · rw [if_pos hm] at h2 ⊢
        exact i _ _ h2
      · rw [if_neg hm] at h2 ⊢
        exact i _ _ h2
    | _ => exact (show False from h1).elim) h
  | .idx a b, σ, S, k, k', i, h => wE_mono a σ S _ _ (fun x S1 h1 => wE_mono b σ S1 _ _ (fun y S2 h2 => idxW_mono i h2) h1) h
  | .slc a lo hi, σ, S, k, k', i, h => wE_mono a σ S _ _ (fun x S1 h1 => wO_mono lo σ S1 _ _ (fun l S2 h2 => wO_mono hi σ S2 _ _ (fun u S3 h3 => slcW_mono i h3) h2) h1) h
  | .comp mu elt p own rng src cond, σ, S, k, k', i, h => wEs_mono src σ S _ _ (fun ds S1 h1 => itW_mono (fun xs sr h2 => ⟨h2.1, compW_mono (fun x S k k' i hb =>
      bindW_mono (fun σ1 h3 => wC_mono cond σ1 S _ _ (fun b S3 h4 => ⟨fun e => wE_mono elt σ1 S3 _ _ (fun d S4 h5 => i _ _ _ h5) (h4.1 e), fun e => i _ _ _ (h4.2 e)⟩) h3) p x _ hb) xs S1 _ _ (fun out S2 h3 => by
        by_cases hm : mu = true
        · simp only [hm, if_true] at h3 ⊢
          exact i _ _ h3
        · simp only [hm, if_false] at h3 ⊢
          exact i _ _ h3) h2.2⟩) h1) h
theorem wEs_mono : ∀ (ps : List PX) (σ : DEnv) (S : Sto) (k k' : List D → Sto → Prop), (∀ d S, k d S → k' d S) → wEs C ps σ S k → wEs C ps σ S k'
  | [], σ, S, k, k', i, h => i _ _ h
  | p :: ps, σ, S, k, k', i, h => wE_mono p σ S _ _ (fun d S1 h1 => wEs_mono ps σ S1 _ _ (fun ds S2 h2 => i _ _ h2) h1) h
theorem wO_mono : ∀ (p : Option PX) (σ : DEnv) (S : Sto) (k k' : Option Int → Sto → Prop), (∀ d S, k d S → k' d S) → wO C p σ S k → wO C p σ S k'
  | none, σ, S, k, k', i, h => i _ _ h
  | some p, σ, S, k, k', i, h => wE_mono p σ S _ _ (fun d S1 h1 => by
    cases d with
    | int j => exact i _ _ h1
    | _ => exact (show False from h1).elim) h
theorem wC_mono : ∀ (p : Option PX) (σ : DEnv) (S : Sto) (k k' : Bool → Sto → Prop), (∀ d S, k d S → k' d S) → wC C p σ S k → wC C p σ S k'
  | none, σ, S, k, k', i, h => i _ _ h
  | some p, σ, S, k, k', i, h => wT_mono p σ S k k' i h
theorem wT_mono : ∀ (p : PX) (σ : DEnv) (S : Sto) (k k' : Bool → Sto → Prop), (∀ d S, k d S → k' d S) → wT C p σ S k → wT C p σ S k'
  | .andv a r, σ, S, k, k', i, h => wT_mono a σ S _ _ (fun b S1 h1 => ⟨fun e => wT_mono r σ S1 k k' i (h1.1 e), fun e => i _ _ (h1.2 e)⟩) h
  | .orv a r, σ, S, k, k', i, h => wT_mono a σ S _ _ (fun b S1 h1 => ⟨fun e => i _ _ (h1.1 e), fun e => wT_mono r σ S1 k k' i (h1.2 e)⟩) h
  | .one a, σ, S, k, k', i, h => wT_mono a σ S k k' i h
  | .notv a, σ, S, k, k', i, h => wT_mono a σ S _ _ (fun b S1 h1 => i _ _ h1) h
  | .tru a, σ, S, k, k', i, h => wE_mono a σ S _ _ (fun d S1 h1 => truthW_mono i h1) h
  | .cmp op a b, σ, S, k, k', i, h => wE_mono a σ S _ _ (fun x S1 h1 => wE_mono b σ S1 _ _ (fun y S2 h2 => cmpW_mono (fun d S3 h3 => by
    cases d with
    | bl t => exact i _ _ h3
    | _ => exact (show False from h3).elim) h2) h1) h
  | .chain op op' a b c, σ, S, k, k', i, h => wE_mono a σ S _ _ (fun x S1 h1 => wE_mono b σ S1 _ _ (fun y S2 h2 => cmpW_mono (fun d S3 h3 => by
    cases d with
    | bl t =>
      cases t with
      | true => exact wE_mono c σ S3 _ _ (fun z S4 h4 => cmpW_mono (fun d S5 h5 => by
        cases d with
        | bl t => exact i _ _ h5
        | _ => exact (show False from h5).elim) h4) h3
      | false => exact i _ _ h3
    | _ => exact (show False from h3).elim) h2) h1) h
  | .var _, _, _, _, _, _, h => h
  | .con _ _, _, _, _, _, _, h => h
  | .non, _, _, _, _, _, h => h
  | .bl _, _, _, _, _, _, h => h
  | .int _, _, _, _, _, _, h => h
  | .str _, _, _, _, _, _, h => h
  | .tup _, _, _, _, _, _, h => h
  | .ls _, _, _, _, _, _, h => h
  | .mls _, _, _, _, _, _, h => h
  | .bin _ _ _, _, _, _, _, _, h => h
  | .neg _, _, _, _, _, _, h => h
  | .ite _ _ _, _, _, _, _, _, h => h
  | .call _ _, _, _, _, _, _, h => h
  | .bi _ _, _, _, _, _, _, h => h
  | .meth _ _ _, _, _, _, _, _, h => h
  | .lrg _ _, _, _, _, _, _, h => h
  | .idx _ _, _, _, _, _, _, h => h
  | .slc _ _ _, _, _, _, _, _, h => h
  | .comp _ _ _ _ _ _ _, _, _, _, _, _, h => h
end
theorem wEs_len : ∀ (ps : List PX) (σ : DEnv) (S : Sto) (k : List D → Sto → Prop), wEs C ps σ S k → wEs C ps σ S fun ds S1 => ds.length = ps.length ∧ k ds S1
  | [], σ, S, k, h => ⟨rfl, h⟩
  | p :: ps, σ, S, k, h => wE_mono hC p σ S _ _ (fun d S1 h1 => wEs_mono hC ps σ S1 _ _ (fun ds S2 h2 => ⟨by rw [List.length_cons, h2.1, List.length_cons], h2.2⟩) (wEs_len ps σ S1 _ h1)) h

mutual
theorem wS_mono : ∀ (s : PSt) (σ : DEnv) (S : Sto) (E E' : DEnds), E.Le E' → wS C s σ S E → wS C s σ S E'
  | .asg p e, σ, S, E, E', i, h => wE_mono hC e σ S _ _ (fun d S1 h1 => bindW_mono (fun σ1 h2 => i.nx _ _ h2) p d σ h1) h
  | .sub o j e, σ, S, E, E', i, h => wE_mono hC e σ S _ _ (fun d S1 h1 => wE_mono hC o σ S1 _ _ (fun x S2 h2 => wE_mono hC j σ S2 _ _ (fun y S3 h3 => subW_mono (fun S4 q => i.nx _ _ q) h3) h2) h1) h
  | .augS o j op e, σ, S, E, E', i, h => wE_mono hC o σ S _ _ (fun x S1 h1 => wE_mono hC j σ S1 _ _ (fun y S2 h2 => getW_mono (fun d h3 => wE_mono hC e σ S2 _ _ (fun z S3 h4 => augW_mono (fun v h5 => subW_mono (fun S4 q => i.nx _ _ q) h5) h4) h3) h2) h1) h
  | .par a b e f, σ, S, E, E', i, h => wE_mono hC e σ S _ _ (fun d S1 h1 => wE_mono hC f σ S1 _ _ (fun x S2 h2 => i.nx _ _ h2) h1) h
  | .aug j op e, σ, S, E, E', i, h => by
    have h : (match σ[j]? with
      | some (some x) => wE C e σ S fun y S1 => augW op x y fun z => E.nx (σ.set j (some z)) S1
      | _ => False) := h
    show (match σ[j]? with
      | some (some x) => wE C e σ S fun y S1 => augW op x y fun z => E'.nx (σ.set j (some z)) S1
      | _ => False)
    revert h
    split
    · exact fun h => wE_mono hC e σ S _ _ (fun y S1 h1 => augW_mono (fun z q => i.nx _ _ q) h1) h
    · exact fun h => h
  | .expr e, σ, S, E, E', i, h => wE_mono hC e σ S _ _ (fun d S1 h1 => i.nx _ _ h1) h
  | .ret e, σ, S, E, E', i, h => wE_mono hC e σ S _ _ (fun d S1 h1 => i.rt _ _ h1) h
  | .retN, σ, S, E, E', i, h => i.rt _ _ h
  | .ite c t e, σ, S, E, E', i, h => wT_mono hC c σ S _ _ (fun b S1 h1 => ⟨fun q => wSs_mono t σ S1 E E' i (h1.1 q), fun q => wSs_mono e σ S1 E E' i (h1.2 q)⟩) h
  | .forS p rng src b, σ, S, E, E', i, h => wEs_mono hC src σ S _ _ (fun ds S1 h1 => itW_mono (fun xs sr h2 => ⟨trivial, forW_mono (fun x σ1 S2 F F' j hb => bindW_mono (fun σ2 h3 => wSs_mono b σ2 S2 F F' j h3) p x σ1 hb) xs σ S1 E E' i h2.2⟩) h1) h
  | .whil c b, σ, S, E, E', i, h => by
    obtain ⟨W, w0, turn⟩ := h
    refine ⟨W, w0, fun m σ S w => wT_mono hC c σ S _ _ (fun t S1 h1 => ⟨fun q => ?_, fun q => i.nx _ _ (h1.2 q)⟩) (turn m σ S w)⟩
    refine wSs_mono b σ S1 _ _ ?_ (h1.1 q)
    exact ⟨fun _ _ h => h, i.rt, i.nx, fun _ _ h => h⟩
  | .pass, σ, S, E, E', i, h => i.nx _ _ h
  | .brk, σ, S, E, E', i, h => i.bk _ _ h
  | .cont, σ, S, E, E', i, h => i.ct _ _ h
theorem wSs_mono : ∀ (s : List PSt) (σ : DEnv) (S : Sto) (E E' : DEnds), E.Le E' → wSs C s σ S E → wSs C s σ S E'
  | [], σ, S, E, E', i, h => i.nx _ _ h
  | s :: r, σ, S, E, E', i, h => by
    have h : wS C s σ S { E with nx := fun σ1 S1 => wSs C r σ1 S1 E } := h
    show wS C s σ S { E' with nx := fun σ1 S1 => wSs C r σ1 S1 E' }
    refine wS_mono s σ S _ _ ?_ h
    exact ⟨fun σ1 S1 h1 => wSs_mono r σ1 S1 E E' i h1, i.rt, i.bk, i.ct⟩
end
end
theorem callW_mono (T : List DDef) : ∀ n, MonoC (callW T n)
  | 0 => fun f ds S k k' i h => h
  | n + 1 => fun f ds S k k' i h => by
    have h : (match T[f]? with
      | some d => ds.length = d.np ∧ wSs (callW T n) d.body (startD d ds) S { nx := fun _ S1 => k .non S1, rt := k }
      | none => False) := h
    show (match T[f]? with
      | some d => ds.length = d.np ∧ wSs (callW T n) d.body (startD d ds) S { nx := fun _ S1 => k' .non S1, rt := k' }
      | none => False)
    split at h
    · refine ⟨h.1, wSs_mono (callW_mono T n) _ _ _ _ _ ?_ h.2⟩
      exact ⟨fun _ _ q => i _ _ q, i, fun _ _ q => q, fun _ _ q => q⟩
    · exact h.elim
end Ov
-- OvB
namespace Ov
open PySem PySem.Spec PyProof.Rows L2

/-! ### what of the heap a datum is -/
section
variable (K : PySem.W.Frag)
/-- what the module itself holds: read while nothing is tracked -/
def bare : Hp := fun _ => none
def WrL (a : Addr) (xs : List V) : Prop := SqL K bare a xs
def WrT (a : Addr) (xs : List V) : Prop := SqT K bare a xs
theorem bare_rd {a : Addr} {o : HO} (h : Rd bare a o) : False := h.elim (fun e => nomatch e) fun ⟨_, e⟩ => nomatch e
variable (φ : List Addr)
def FixL (ι : List Addr) (H : Hp) (a : Addr) (xs : List V) : Prop := (Rd H a (.lst xs) ∧ a ∉ ι ∧ a ∉ φ) ∨ WrL K a xs
def FixT (ι : List Addr) (H : Hp) (a : Addr) (xs : List V) : Prop := (Rd H a (.tup xs) ∧ a ∉ ι ∧ a ∉ φ) ∨ WrT K a xs
def FixD (ι : List Addr) (H : Hp) (a : Addr) (xs : List (Key × V)) : Prop := Rd H a (.dK xs) ∧ a ∉ ι ∧ a ∉ φ
def FixR (ι : List Addr) (H : Hp) (a : Addr) (lo hi : Int) : Prop := H a = some (.rng lo hi) ∧ a ∉ ι ∧ a ∉ φ
def rgOk (lo hi : Int) : Prop := (-(2 ^ 62) ≤ lo ∧ lo < 2 ^ 62) ∧ -(2 ^ 62) ≤ hi ∧ hi < 2 ^ 62
variable {K} {φ}
theorem FixL.sq {ι : List Addr} {H : Hp} {a : Addr} {xs : List V} (h : FixL K φ ι H a xs) : SqL K H a xs :=
  h.elim (fun r => .inl r.1) fun r => r.elim (fun e => (bare_rd e).elim) .inr
theorem FixT.sq {ι : List Addr} {H : Hp} {a : Addr} {xs : List V} (h : FixT K φ ι H a xs) : SqT K H a xs :=
  h.elim (fun r => .inl r.1) fun r => r.elim (fun e => (bare_rd e).elim) .inr
variable (K) (φ)
mutual
def rep (ι : List Addr) (H : Hp) : D → V → Prop
  | .non, v => v = .non
  | .bl b, v => v = .bl b
  | .int i, v => v = .int i
  | .str s, v => v = .str s
  | .tup ds, v => ∃ a xs, v = .ref a ∧ FixT K φ ι H a xs ∧ reps ι H ds xs
  | .ro ds, v => ∃ a xs, v = .ref a ∧ FixL K φ ι H a xs ∧ reps ι H ds xs
  | .ptr n, v => ∃ a, ι[n]? = some a ∧ v = .ref a
  | .dic ks ds, v => ∃ a xs, v = .ref a ∧ FixD φ ι H a (ks.zip xs) ∧ reps ι H ds xs
  | .rng lo hi, v => ∃ a, v = .ref a ∧ FixR φ ι H a lo hi ∧ rgOk lo hi
def reps (ι : List Addr) (H : Hp) : List D → List V → Prop
  | [], vs => vs = []
  | d :: ds, vs => ∃ v r, vs = v :: r ∧ rep ι H d v ∧ reps ι H ds r
end
/-- more may stand, the lists at ι may have changed -/
structure Ext (ι : List Addr) (H : Hp) (ι' : List Addr) (H' : Hp) : Prop where
  more : ∃ m, ι' = ι ++ m
  keep : ∀ a o, H a = some o → a ∉ ι → a ∉ ι' ∧ H' a = some o
structure RelS (ι : List Addr) (H : Hp) (S : Sto) : Prop where
  len : ι.length = S.length
  nd : ι.Nodup
  pv : ∀ a, a ∈ φ → a ∉ ι ∧ ∃ o, H a = some o
  cell : ∀ (n : Nat) (xs : List D), S[n]? = some xs → ∃ a vs, ι[n]? = some a ∧ H a = some (.lst vs) ∧ reps K φ ι H xs vs
structure RelE (ι : List Addr) (H : Hp) (σd : DEnv) (σ : L2.St) : Prop where
  len : σd.length = σ.length
  get : ∀ (i : Nat) (d : D), σd[i]? = some (some d) → ∃ v, σ[i]? = some (some v) ∧ rep K φ ι H d v
end

section
variable {K : PySem.W.Frag} {φ ι ι' ι2 : List Addr} {H H' H2 : Hp} {S : Sto}
theorem Ext.refl : Ext ι H ι H := ⟨⟨[], by simp⟩, fun _ _ h n => ⟨n, h⟩⟩
theorem Ext.trans (a : Ext ι H ι' H') (b : Ext ι' H' ι2 H2) : Ext ι H ι2 H2 := by
  obtain ⟨⟨m, rfl⟩, ka⟩ := a
  obtain ⟨⟨m2, rfl⟩, kb⟩ := b
  refine ⟨⟨m ++ m2, by simp⟩, fun a o h n => ?_⟩
  obtain ⟨n1, h1⟩ := ka a o h n
  exact kb a o h1 n1
theorem Ext.rd {a : Addr} {u : HO} (e : Ext ι H ι' H') (h : Rd H a u) (n : a ∉ ι) : Rd H' a u ∧ a ∉ ι' := by
  rcases h with h | ⟨o, h⟩
  · obtain ⟨x, y⟩ := e.keep a _ h n
    exact ⟨.inl y, x⟩
  · obtain ⟨x, y⟩ := e.keep a _ h n
    exact ⟨.inr ⟨o, y⟩, x⟩
theorem FixL.mono {a : Addr} {xs : List V} (e : Ext ι H ι' H') (h : FixL K φ ι H a xs) : FixL K φ ι' H' a xs := by
  rcases h with ⟨h, n, n2⟩ | h
  · exact .inl ⟨(e.rd h n).1, (e.rd h n).2, n2⟩
  · exact .inr h
theorem FixT.mono {a : Addr} {xs : List V} (e : Ext ι H ι' H') (h : FixT K φ ι H a xs) : FixT K φ ι' H' a xs := by
  rcases h with ⟨h, n, n2⟩ | h
  · exact .inl ⟨(e.rd h n).1, (e.rd h n).2, n2⟩
  · exact .inr h
theorem FixD.mono {a : Addr} {xs : List (Key × V)} (e : Ext ι H ι' H') (h : FixD φ ι H a xs) : FixD φ ι' H' a xs := ⟨(e.rd h.1 h.2.1).1, (e.rd h.1 h.2.1).2, h.2.2⟩
theorem Ext.at {n : Nat} {a : Addr} (e : Ext ι H ι' H') (h : ι[n]? = some a) : ι'[n]? = some a := by
  obtain ⟨⟨m, rfl⟩, _⟩ := e
  have hn : n < ι.length := (List.getElem?_eq_some_iff.mp h).1
  rw [List.getElem?_append_left hn]
  exact h
mutual
theorem rep_mono (e : Ext ι H ι' H') : ∀ (d : D) (v : V), rep K φ ι H d v → rep K φ ι' H' d v
  | .non, _, h => h
  | .bl _, _, h => h
  | .int _, _, h => h
  | .str _, _, h => h
  | .tup ds, v, h => by
    obtain ⟨a, xs, r, f, q⟩ := h
    exact ⟨a, xs, r, f.mono e, reps_mono e ds xs q⟩
  | .ro ds, v, h => by
    obtain ⟨a, xs, r, f, q⟩ := h
    exact ⟨a, xs, r, f.mono e, reps_mono e ds xs q⟩
  | .ptr n, v, h => by
    obtain ⟨a, f, q⟩ := h
    exact ⟨a, e.at f, q⟩
  | .dic ks ds, v, h => by
    obtain ⟨a, xs, r, f, q⟩ := h
    exact ⟨a, xs, r, f.mono e, reps_mono e ds xs q⟩
  | .rng lo hi, v, h => by
    obtain ⟨a, r, ⟨f, n1, n2⟩, q⟩ := h
    exact ⟨a, r, ⟨(e.keep a _ f n1).2, (e.keep a _ f n1).1, n2⟩, q⟩
theorem reps_mono (e : Ext ι H ι' H') : ∀ (ds : List D) (vs : List V), reps K φ ι H ds vs → reps K φ ι' H' ds vs
  | [], _, h => h
  | d :: ds, vs, h => by
    obtain ⟨v, r, q, h1, h2⟩ := h
    exact ⟨v, r, q, rep_mono e d v h1, reps_mono e ds r h2⟩
end
theorem reps_len : ∀ {ds : List D} {vs : List V}, reps K φ ι H ds vs → vs.length = ds.length
  | [], _, h => by
    obtain rfl : _ = [] := h
    rfl
  | d :: ds, vs, h => by
    obtain ⟨v, r, rfl, _, h2⟩ := h
    rw [List.length_cons, List.length_cons, reps_len h2]
theorem reps_get : ∀ {ds : List D} {vs : List V} {i : Nat} {d : D}, reps K φ ι H ds vs → ds[i]? = some d → ∃ v, vs[i]? = some v ∧ rep K φ ι H d v
  | [], _, _, _, _, e => by simp at e
  | x :: ds, vs, 0, d, h, e => by
    obtain ⟨v, r, rfl, h1, _⟩ := h
    simp at e
    subst e
    exact ⟨v, rfl, h1⟩
  | x :: ds, vs, i + 1, d, h, e => by
    obtain ⟨v, r, rfl, _, h2⟩ := h
    simp at e
    obtain ⟨w, q1, q2⟩ := reps_get h2 e
    exact ⟨w, by simpa using q1, q2⟩
theorem reps_append : ∀ {ds es : List D} {vs us : List V}, reps K φ ι H ds vs → reps K φ ι H es us → reps K φ ι H (ds ++ es) (vs ++ us)
  | [], _, _, _, h, q => by
    obtain rfl : _ = [] := h
    exact q
  | d :: ds, es, vs, us, h, q => by
    obtain ⟨v, r, rfl, h1, h2⟩ := h
    exact ⟨v, r ++ us, rfl, h1, reps_append h2 q⟩
theorem reps_take : ∀ {ds : List D} {vs : List V} (n : Nat), reps K φ ι H ds vs → reps K φ ι H (ds.take n) (vs.take n)
  | [], _, n, h => by
    obtain rfl : _ = [] := h
    simp [reps]
  | d :: ds, vs, 0, h => by simp [reps]
  | d :: ds, vs, n + 1, h => by
    obtain ⟨v, r, rfl, h1, h2⟩ := h
    exact ⟨v, r.take n, rfl, h1, reps_take n h2⟩
theorem reps_drop : ∀ {ds : List D} {vs : List V} (n : Nat), reps K φ ι H ds vs → reps K φ ι H (ds.drop n) (vs.drop n)
  | [], _, n, h => by
    obtain rfl : _ = [] := h
    simp [reps]
  | d :: ds, vs, 0, h => h
  | d :: ds, vs, n + 1, h => by
    obtain ⟨v, r, rfl, h1, h2⟩ := h
    exact reps_drop n h2
theorem reps_set : ∀ {ds : List D} {vs : List V} {d : D} {v : V} (n : Nat), reps K φ ι H ds vs → rep K φ ι H d v → reps K φ ι H (ds.set n d) (vs.set n v)
  | [], _, _, _, n, h, _ => by
    obtain rfl : _ = [] := h
    simp [reps]
  | x :: ds, vs, d, v, 0, h, q => by
    obtain ⟨w, r, rfl, h1, h2⟩ := h
    exact ⟨v, r, rfl, q, h2⟩
  | x :: ds, vs, d, v, n + 1, h, q => by
    obtain ⟨w, r, rfl, h1, h2⟩ := h
    exact ⟨w, r.set n v, rfl, h1, reps_set n h2 q⟩
theorem reps_erase : ∀ {ds : List D} {vs : List V} (n : Nat), reps K φ ι H ds vs → reps K φ ι H (ds.eraseIdx n) (vs.eraseIdx n)
  | [], _, n, h => by
    obtain rfl : _ = [] := h
    simp [reps]
  | x :: ds, vs, 0, h => by
    obtain ⟨w, r, rfl, h1, h2⟩ := h
    exact h2
  | x :: ds, vs, n + 1, h => by
    obtain ⟨w, r, rfl, h1, h2⟩ := h
    exact ⟨w, r.eraseIdx n, rfl, h1, reps_erase n h2⟩
theorem reps_dropLast {ds : List D} {vs : List V} (h : reps K φ ι H ds vs) : reps K φ ι H ds.dropLast vs.dropLast := by
  have e := reps_len h
  rw [List.dropLast_eq_take, List.dropLast_eq_take, e]
  exact reps_take _ h
theorem reps_isEmpty {ds : List D} {vs : List V} (h : reps K φ ι H ds vs) : vs.isEmpty = ds.isEmpty := by
  have e := reps_len h
  cases ds <;> cases vs <;> simp at e ⊢

/-- a new object that no datum is -/
theorem Ext.new {p : Addr} {o : HO} (h : H p = none) : Ext ι H ι (upd H p o) :=
  ⟨⟨[], by simp⟩, fun a u e n => ⟨n, by rw [upd_ne (ne_of_none e h)]; exact e⟩⟩
theorem RelS.mono (R : RelS K φ ι H S) (e : Ext ι H ι H') (k : ∀ a, a ∈ ι → H' a = H a) : RelS K φ ι H' S := ⟨R.len, R.nd, fun a ha => by
    obtain ⟨n, o, h⟩ := R.pv a ha
    exact ⟨n, o, (e.keep a o h n).2⟩, fun n xs h => by
  obtain ⟨a, vs, h1, h2, h3⟩ := R.cell n xs h
  refine ⟨a, vs, h1, ?_, reps_mono e _ _ h3⟩
  rw [k a (List.mem_of_getElem? h1)]
  exact h2⟩
theorem RelS.mem (R : RelS K φ ι H S) {a : Addr} (h : a ∈ ι) : ∃ vs, H a = some (.lst vs) := by
  obtain ⟨n, hn, e⟩ := List.getElem_of_mem h
  have hl : n < S.length := by rw [← R.len]; exact hn
  obtain ⟨b, vs, h1, h2, _⟩ := R.cell n S[n] (List.getElem?_eq_getElem hl)
  rw [List.getElem?_eq_getElem hn, e] at h1
  cases h1
  exact ⟨vs, h2⟩
theorem RelS.notMem (R : RelS K φ ι H S) {p : Addr} (h : H p = none) : p ∉ ι := fun hp => by
  obtain ⟨vs, e⟩ := R.mem hp
  rw [h] at e
  cases e
theorem RelS.priv (R : RelS K φ ι H S) {p : Addr} (h : H p = none) : p ∉ φ := fun hp => by
  obtain ⟨_, o, e⟩ := R.pv p hp
  rw [h] at e
  cases e
theorem RelS.new {p : Addr} {o : HO} (R : RelS K φ ι H S) (h : H p = none) : RelS K φ ι (upd H p o) S :=
  R.mono (.new h) fun a ha => upd_ne fun e => R.notMem h (e ▸ ha)
/-- a new list that may change -/
theorem Ext.newPtr {p : Addr} {o : HO} (h : H p = none) : Ext ι H (ι ++ [p]) (upd H p o) :=
  ⟨⟨[p], rfl⟩, fun a u e n => ⟨by
    have := ne_of_none e h
    simp [n, this], by rw [upd_ne (ne_of_none e h)]; exact e⟩⟩
theorem RelS.newPtr {p : Addr} {ds : List D} {vs : List V} (R : RelS K φ ι H S) (h : H p = none) (r : reps K φ ι H ds vs) : RelS K φ (ι ++ [p]) (upd H p (.lst vs)) (S ++ [ds]) := by
  have hp := R.notMem h
  have E : Ext ι H (ι ++ [p]) (upd H p (.lst vs)) := .newPtr h
  refine ⟨by simp [R.len], ?_, fun a ha => by
    obtain ⟨n, o, h⟩ := R.pv a ha
    exact ⟨(E.keep a o h n).1, o, (E.keep a o h n).2⟩, fun n xs e => ?_⟩
  · rw [List.nodup_append]
    refine ⟨R.nd, by simp, fun a ha b hb => ?_⟩
    rw [List.mem_singleton] at hb
    subst hb
    exact fun z => hp (z ▸ ha)
  · by_cases hn : n < S.length
    · rw [List.getElem?_append_left hn] at e
      obtain ⟨a, ws, h1, h2, h3⟩ := R.cell n xs e
      have ha : a ≠ p := fun z => by
        rw [z, h] at h2
        cases h2
      exact ⟨a, ws, E.at h1, by rw [upd_ne ha]; exact h2, reps_mono E _ _ h3⟩
    · have hn2 : n = S.length := by
        have := (List.getElem?_eq_some_iff.mp e).1
        simp at this
        omega
      subst hn2
      rw [List.getElem?_append_right (Nat.le_refl _)] at e
      simp at e
      subst e
      refine ⟨p, vs, ?_, upd_same, reps_mono E _ _ r⟩
      rw [← R.len, List.getElem?_append_right (Nat.le_refl _)]
      simp
/-- a list that may change, changed -/
theorem Ext.set {n : Nat} {a : Addr} {o : HO} (h : ι[n]? = some a) : Ext ι H ι (upd H a o) :=
  ⟨⟨[], by simp⟩, fun b u e nb => ⟨nb, by
    have hb : b ≠ a := fun z => nb (by rw [z]; exact List.mem_of_getElem? h)
    rw [upd_ne hb]; exact e⟩⟩
theorem RelS.set {n : Nat} {a : Addr} {ds : List D} {vs : List V} (R : RelS K φ ι H S) (h : ι[n]? = some a) (r : reps K φ ι H ds vs) : RelS K φ ι (upd H a (.lst vs)) (S.set n ds) := by
  have E : Ext ι H ι (upd H a (.lst vs)) := .set h
  refine ⟨by simp [R.len], R.nd, fun a ha => by
    obtain ⟨n, o, h⟩ := R.pv a ha
    exact ⟨n, o, (E.keep a o h n).2⟩, fun m xs e => ?_⟩
  by_cases hm : m = n
  · subst hm
    have hl : m < S.length := by
      have := (List.getElem?_eq_some_iff.mp e).1
      simpa using this
    rw [List.getElem?_set_self hl] at e
    cases e
    exact ⟨a, vs, h, upd_same, reps_mono E _ _ r⟩
  · rw [List.getElem?_set_ne (Ne.symm hm)] at e
    obtain ⟨b, ws, h1, h2, h3⟩ := R.cell m xs e
    have hb : b ≠ a := fun z => by
      subst z
      have h1' := List.getElem?_eq_some_iff.mp h1
      have h2' := List.getElem?_eq_some_iff.mp h
      exact hm ((List.getElem_inj R.nd).mp (h1'.2.trans h2'.2.symm))
    exact ⟨b, ws, h1, by rw [upd_ne hb]; exact h2, reps_mono E _ _ h3⟩
theorem RelE.mono {σd : DEnv} {σ : L2.St} (E : Ext ι H ι' H') (R : RelE K φ ι H σd σ) : RelE K φ ι' H' σd σ :=
  ⟨R.len, fun i d h => by
    obtain ⟨v, h1, h2⟩ := R.get i d h
    exact ⟨v, h1, rep_mono E _ _ h2⟩⟩
theorem RelE.set {σd : DEnv} {σ : L2.St} {i : Nat} {d : D} {v : V} (R : RelE K φ ι H σd σ) (r : rep K φ ι H d v) : RelE K φ ι H (σd.set i (some d)) (σ.set i (some v)) := by
  refine ⟨by simp [R.len], fun j e h => ?_⟩
  by_cases hj : j = i
  · subst hj
    have hl : j < σd.length := by
      have := (List.getElem?_eq_some_iff.mp h).1
      simpa using this
    rw [List.getElem?_set_self hl] at h
    cases h
    exact ⟨v, List.getElem?_set_self (by rw [← R.len]; exact hl), r⟩
  · rw [List.getElem?_set_ne (Ne.symm hj)] at h
    obtain ⟨w, h1, h2⟩ := R.get j e h
    exact ⟨w, by rw [List.getElem?_set_ne (Ne.symm hj)]; exact h1, h2⟩
theorem RelE.wipe {σd : DEnv} {σ : L2.St} (R : RelE K φ ι H σd σ) : ∀ vs : List Nat, RelE K φ ι H (wipeD σd vs) (wipe σ vs)
  | [] => R
  | v :: vs => by
    have ih := RelE.wipe R vs
    refine ⟨by simp only [wipeD, L2.wipe, List.length_set]; exact ih.len, fun j e h => ?_⟩
    have h : ((wipeD σd vs).set v none)[j]? = some (some e) := h
    by_cases hj : j = v
    · subst hj
      by_cases hl : j < (wipeD σd vs).length
      · rw [List.getElem?_set_self hl] at h
        cases h
      · rw [List.getElem?_eq_none (by simpa using hl)] at h
        cases h
    · rw [List.getElem?_set_ne (Ne.symm hj)] at h
      obtain ⟨w, h1, h2⟩ := ih.get j e h
      exact ⟨w, by show ((L2.wipe σ vs).set v none)[j]? = _; rw [List.getElem?_set_ne (Ne.symm hj)]; exact h1, h2⟩
theorem seq_of {d : D} {v : V} {xs : List D} (R : RelS K φ ι H S) (h : rep K φ ι H d v) (e : seqOf S d = some xs) : ∃ a vs, v = .ref a ∧ (SqL K H a vs ∨ SqT K H a vs) ∧ reps K φ ι H xs vs := by
  cases d with
  | ro ds =>
    obtain ⟨a, vs, rfl, f, q⟩ := h
    cases e
    exact ⟨a, vs, rfl, .inl f.sq, q⟩
  | tup ds =>
    obtain ⟨a, vs, rfl, f, q⟩ := h
    cases e
    exact ⟨a, vs, rfl, .inr f.sq, q⟩
  | ptr n =>
    obtain ⟨a, ha, rfl⟩ := h
    obtain ⟨b, vs, h1, h2, h3⟩ := R.cell n xs e
    rw [ha] at h1
    cases h1
    exact ⟨a, vs, rfl, .inl (SqL.of h2), h3⟩
  | non => cases e
  | bl => cases e
  | int => cases e
  | str => cases e
  | dic => cases e
  | rng => cases e
theorem list_of {d : D} {v : V} {xs : List D} (R : RelS K φ ι H S) (h : rep K φ ι H d v) (e : listOf S d = some xs) : ∃ a vs, v = .ref a ∧ SqL K H a vs ∧ reps K φ ι H xs vs := by
  cases d with
  | ro ds =>
    obtain ⟨a, vs, rfl, f, q⟩ := h
    cases e
    exact ⟨a, vs, rfl, f.sq, q⟩
  | ptr n =>
    obtain ⟨a, ha, rfl⟩ := h
    obtain ⟨b, vs, h1, h2, h3⟩ := R.cell n xs e
    rw [ha] at h1
    cases h1
    exact ⟨a, vs, rfl, SqL.of h2, h3⟩
  | tup => cases e
  | non => cases e
  | bl => cases e
  | int => cases e
  | str => cases e
  | dic => cases e
  | rng => cases e
theorem ints_of : ∀ {xs : List D} {vs : List V} {ns : List Int}, reps K φ ι H xs vs → intsOf xs = some ns → vs = ns.map V.int
  | [], vs, ns, h, e => by
    obtain rfl : vs = [] := h
    cases e
    rfl
  | .int i :: xs, vs, ns, h, e => by
    obtain ⟨v, r, rfl, h1, h2⟩ := h
    obtain rfl : v = .int i := h1
    obtain ⟨ms, e1, e2⟩ := Option.map_eq_some_iff.mp (show (intsOf xs).map (i :: ·) = some ns from e)
    subst e2
    rw [ints_of h2 e1]
    rfl
  | .non :: _, _, _, _, e => by cases e
  | .bl _ :: _, _, _, _, e => by cases e
  | .str _ :: _, _, _, _, e => by cases e
  | .tup _ :: _, _, _, _, e => by cases e
  | .ro _ :: _, _, _, _, e => by cases e
  | .ptr _ :: _, _, _, _, e => by cases e
  | .dic _ _ :: _, _, _, _, e => by cases e
  | .rng _ _ :: _, _, _, _, e => by cases e
theorem bools_of : ∀ {xs : List D} {vs : List V} {ns : List Bool}, reps K φ ι H xs vs → boolsOf xs = some ns → vs = ns.map V.bl
  | [], vs, ns, h, e => by
    obtain rfl : vs = [] := h
    cases e
    rfl
  | .bl i :: xs, vs, ns, h, e => by
    obtain ⟨v, r, rfl, h1, h2⟩ := h
    obtain rfl : v = .bl i := h1
    obtain ⟨ms, e1, e2⟩ := Option.map_eq_some_iff.mp (show (boolsOf xs).map (i :: ·) = some ns from e)
    subst e2
    rw [bools_of h2 e1]
    rfl
  | .non :: _, _, _, _, e => by cases e
  | .int _ :: _, _, _, _, e => by cases e
  | .str _ :: _, _, _, _, e => by cases e
  | .tup _ :: _, _, _, _, e => by cases e
  | .ro _ :: _, _, _, _, e => by cases e
  | .ptr _ :: _, _, _, _, e => by cases e
  | .dic _ _ :: _, _, _, _, e => by cases e
  | .rng _ _ :: _, _, _, _, e => by cases e
theorem strs_of : ∀ {xs : List D} {vs : List V} {ns : List Str}, reps K φ ι H xs vs → strsOf xs = some ns → vs = ns.map V.str
  | [], vs, ns, h, e => by
    obtain rfl : vs = [] := h
    cases e
    rfl
  | .str i :: xs, vs, ns, h, e => by
    obtain ⟨v, r, rfl, h1, h2⟩ := h
    obtain rfl : v = .str i := h1
    obtain ⟨ms, e1, e2⟩ := Option.map_eq_some_iff.mp (show (strsOf xs).map (i :: ·) = some ns from e)
    subst e2
    rw [strs_of h2 e1]
    rfl
  | .non :: _, _, _, _, e => by cases e
  | .int _ :: _, _, _, _, e => by cases e
  | .bl _ :: _, _, _, _, e => by cases e
  | .tup _ :: _, _, _, _, e => by cases e
  | .ro _ :: _, _, _, _, e => by cases e
  | .ptr _ :: _, _, _, _, e => by cases e
  | .dic _ _ :: _, _, _, _, e => by cases e
  | .rng _ _ :: _, _, _, _, e => by cases e
mutual
theorem dp_of : ∀ {d : D} {v : V}, noPtr d = true → rep K φ ι H d v → Dp K H v (toPy d)
  | .non, v, _, h => by
    obtain rfl : v = .non := h
    exact .non
  | .bl b, v, _, h => by
    obtain rfl : v = .bl b := h
    exact .bl b
  | .int b, v, _, h => by
    obtain rfl : v = .int b := h
    exact .int b
  | .str b, v, _, h => by
    obtain rfl : v = .str b := h
    exact .str b
  | .tup ds, v, n, h => by
    obtain ⟨a, xs, rfl, f, q⟩ := h
    exact .tup f.sq (dps_of n q)
  | .ro ds, v, n, h => by
    obtain ⟨a, xs, rfl, f, q⟩ := h
    exact .lst f.sq (dps_of n q)
  | .ptr _, _, n, _ => by cases n
  | .dic _ _, _, n, _ => by cases n
  | .rng _ _, _, n, _ => by cases n
theorem dps_of : ∀ {ds : List D} {vs : List V}, noPtrs ds = true → reps K φ ι H ds vs → DpAll K H vs (toPys ds)
  | [], vs, _, h => by
    obtain rfl : vs = [] := h
    exact .nil
  | d :: ds, vs, n, h => by
    obtain ⟨v, r, rfl, h1, h2⟩ := h
    have n : (noPtr d && noPtrs ds) = true := n
    rw [Bool.and_eq_true] at n
    exact .cons (dp_of n.1 h1) (dps_of n.2 h2)
end
end
end Ov
-- OvC
namespace Ov
open PySem PySem.Spec PyProof.Rows L2

/-- what is wanted behind an expression, of the heap -/
def Post (K : PySem.W.Frag) (φ ι : List Addr) (H : Hp) (k : WK) (Q : VK) : Prop :=
  ∀ d S' ι' H' v, k d S' → Ext ι H ι' H' → RelS K φ ι' H' S' → rep K φ ι' H' d v → Q v H'
section
variable {K : PySem.W.Frag} {φ ι ι' : List Addr} {H H' : Hp} {S : Sto} {k : WK} {Q : VK}
theorem Post.step (P : Post K φ ι H k Q) (e : Ext ι H ι' H') : Post K φ ι' H' k Q := fun d S' ι2 H2 v h e2 R r => P d S' ι2 H2 v h (e.trans e2) R r
theorem Post.here (P : Post K φ ι H k Q) (R : RelS K φ ι H S) {d : D} {v : V} (h : k d S) (r : rep K φ ι H d v) : Q v H := P d S ι H v h .refl R r
/-- a new tuple, a new list that is only read -/
theorem Post.tup (P : Post K φ ι H k Q) (R : RelS K φ ι H S) {ds : List D} {vs : List V} (h : k (.tup ds) S) (r : reps K φ ι H ds vs) {p : Addr} (hp : H p = none) : Q (.ref p) (upd H p (.tup vs)) :=
  P _ S ι _ _ h (.new hp) (R.new hp) ⟨p, vs, rfl, .inl ⟨.inl upd_same, R.notMem hp, R.priv hp⟩, reps_mono (.new hp) _ _ r⟩
theorem Post.ro (P : Post K φ ι H k Q) (R : RelS K φ ι H S) {ds : List D} {vs : List V} (h : k (.ro ds) S) (r : reps K φ ι H ds vs) {p : Addr} (hp : H p = none) : Q (.ref p) (upd H p (.lst vs)) :=
  P _ S ι _ _ h (.new hp) (R.new hp) ⟨p, vs, rfl, .inl ⟨.inl upd_same, R.notMem hp, R.priv hp⟩, reps_mono (.new hp) _ _ r⟩
theorem Post.mls (P : Post K φ ι H k Q) (R : RelS K φ ι H S) {ds : List D} {vs : List V} (h : k (.ptr S.length) (S ++ [ds])) (r : reps K φ ι H ds vs) {p : Addr} (hp : H p = none) : Q (.ref p) (upd H p (.lst vs)) :=
  P _ _ (ι ++ [p]) _ _ h (.newPtr hp) (R.newPtr hp r) ⟨p, by rw [← R.len, List.getElem?_append_right (Nat.le_refl _)]; simp, rfl⟩
/-- a list that may change, changed -/
theorem Post.set (P : Post K φ ι H k Q) (R : RelS K φ ι H S) {n : Nat} {a : Addr} {ds : List D} {vs : List V} {d : D} {v : V} (h : k d (S.set n ds)) (ha : ι[n]? = some a) (r : reps K φ ι H ds vs) (rv : rep K φ ι H d v) : Q v (upd H a (.lst vs)) :=
  P _ _ ι _ _ h (.set ha) (R.set ha r) (rep_mono (.set ha) _ _ rv)
end

/-! ### the best rule for an operation -/
section
variable (X : Cx)
def OpB (f : Value → Value → Sem Value) : R2 := fun x y H Q => ∃ r, OpR X f r ∧ r x y H Q
def UnB (f : Value → Sem Value) : V → Hp → VK → Prop := fun x H Q => ∃ r, UnR X f r ∧ r x H Q
def CallB (f : Value) : List V → Hp → VK → Prop := fun xs H Q => ∃ r, CallR X f r ∧ r xs H Q
def IxB : R2 := fun x y H Q => ∃ r, IxR X r ∧ r x y H Q
def SlB : V → Option Int → Option Int → Hp → VK → Prop := fun x lo hi H Q => ∃ r, SlR X r ∧ r x lo hi H Q
def MtB (id : String) : V → List V → Hp → VK → Prop := fun x xs H Q => ∃ r, MtR X id r ∧ r x xs H Q
variable {X}
theorem opB {f : Value → Value → Sem Value} : OpR X f (OpB X f) := fun pins s σ H x y v u Q I rx ry ⟨_, h, q⟩ => h pins s σ H x y v u Q I rx ry q
theorem unB {f : Value → Sem Value} : UnR X f (UnB X f) := fun pins s σ H x v Q I rx ⟨_, h, q⟩ => h pins s σ H x v Q I rx q
theorem callB {f : Value} : CallR X f (CallB X f) := fun pins s σ H xs us Q I r ⟨_, h, q⟩ => h pins s σ H xs us Q I r q
theorem ixB : IxR X (IxB X) := fun value slice pins s σ H x y v u Q I rx ry ⟨_, h, q⟩ hs => h value slice pins s σ H x y v u Q I rx ry q hs
theorem slB : SlR X (SlB X) := fun pins s σ H x v vl vu lo hi sl Q I rx hs pl pu ⟨_, h, q⟩ => h pins s σ H x v vl vu lo hi sl Q I rx hs pl pu q
theorem mtB {id : String} : MtR X id (MtB X id) := fun pins s σ H x xs v us Q I rx rs ⟨_, h, q⟩ => h pins s σ H x xs v us Q I rx rs q
end

/-- a list put behind a list, whoever holds them -/
def rCatS (K : PySem.W.Frag) : R2 := fun x y H Q => ∃ a b xs ys, x = .ref a ∧ y = .ref b ∧ SqL K H a xs ∧ SqL K H b ys ∧ xs.length + ys.length ≤ sizeLine ∧ ∀ p, H p = none → Q (.ref p) (upd H p (.lst (xs ++ ys)))
theorem op_catS {X : Cx} : OpR X (binaryOp .Add) (rCatS X.K) := by
  rintro pins s σ H _ _ v u Q I rx ry ⟨a, b, xs, ys, rfl, rfl, ha, hb, hz, q⟩
  cases rx
  cases ry
  obtain ⟨its, r, ⟨⟨_, da, _, sa⟩, na, ga, rfl, _, rfl⟩, _⟩ := I.list ha
  obtain ⟨its2, r2, ⟨⟨_, db, _, sb⟩, nb, gb, rfl, _, rfl⟩, _⟩ := I.list hb
  have hs : its.toArray.size + its2.toArray.size ≤ sizeLine := by
    rw [List.size_toArray, List.size_toArray, ← r.length, ← r2.length]
    exact hz
  refine concat_meets ⟨_, ga, rfl⟩ ⟨_, gb, rfl⟩ noFill_list_add seq_list_add PySem.F.slot_list_add PySem.F.entry_list_add (PySem.F.args_list_add_2 _ _) (list_addW a b its.toArray its2.toArray na nb da db sa sb hs) ⟨ga, gb, ?_⟩
  have new := I.lnew (t' := s.toks) (r.append r2) (by rw [List.length_append]; exact hz)
  rw [← List.append_toArray] at new
  exact ⟨.ref _, _, new, rfl, q _ I.fresh⟩
def opOf : BOp → Operator
  | .add => .Add | .sub => .Sub | .mul => .Mult | .fdiv => .FloorDiv | .mod => .Mod | .pow => .Pow
def cpOf : COp → CmpOp
  | .eq => .Eq | .ne => .NotEq | .lt => .Lt | .le => .LtE | .gt => .Gt | .ge => .GtE | .is => .Is | .isnot => .IsNot | .isIn => .In | .notIn => .NotIn

theorem cutV_reps {K : PySem.W.Frag} {φ ι : List Addr} {H : Hp} {ds : List D} {vs : List V} (r : reps K φ ι H ds vs) (lo hi : Option Int) : reps K φ ι H (cutD ds lo hi) (cutV vs lo hi) := by
  unfold cutD cutV
  rw [reps_len r]
  exact reps_take _ (reps_drop _ r)

theorem atI_reps {K : PySem.W.Frag} {φ ι : List Addr} {H : Hp} {ds : List D} {vs : List V} {i : Int} {d : D} (r : reps K φ ι H ds vs) (h : atI ds i = some d) : ∃ v, atI vs i = some v ∧ rep K φ ι H d v := by
  unfold atI at h ⊢
  rw [reps_len r]
  cases e : ixN ds.length i with
  | none => rw [e] at h; cases h
  | some j =>
    rw [e] at h
    exact reps_get r h
theorem seqOf_list {S : Sto} {x : D} {xs : List D} (h : listOf S x = some xs) : seqOf S x = some xs := by
  cases x with
  | tup ds => cases h
  | ro ds => exact h
  | ptr m => exact h
  | non => cases h
  | bl => cases h
  | int => cases h
  | str => cases h
  | dic => cases h
  | rng => cases h
theorem seqOf_tup {S : Sto} {x : D} {xs : List D} (h : seqOf S x = some xs) (n : listOf S x = none) : x = .tup xs := by
  cases x with
  | tup ds => cases h; rfl
  | ro ds => cases n
  | ptr m =>
    have h : S[m]? = some xs := h
    have n : S[m]? = none := n
    rw [n] at h
    cases h
  | non => cases h
  | bl => cases h
  | int => cases h
  | str => cases h
  | dic => cases h
  | rng => cases h

section
variable {X : Cx} {φ ι : List Addr} {H : Hp} {S : Sto} {k : WK} {Q : VK} {x y : D} {v u : V}
theorem cat_ok (R : RelS X.K φ ι H S) (rx : rep X.K φ ι H x v) (ry : rep X.K φ ι H y u) (h : catW x y S k) (P : Post X.K φ ι H k Q) : OpB X (binaryOp .Add) v u H Q := by
  unfold catW at h
  split at h
  · rename_i xs ys ex ey
    obtain ⟨a, as, rfl, fa, qa⟩ := list_of R rx ex
    obtain ⟨b, bs, rfl, fb, qb⟩ := list_of R ry ey
    exact ⟨_, op_catS, a, b, as, bs, rfl, rfl, fa, fb, by rw [reps_len qa, reps_len qb]; exact h.1, fun p hp => P.ro R h.2 (reps_append qa qb) hp⟩
  · exact h.elim
theorem reps_rep {ds : List D} {vs : List V} (r : reps X.K φ ι H ds vs) : ∀ n : Nat, reps X.K φ ι H (List.replicate n ds).flatten (List.replicate n vs).flatten
  | 0 => rfl
  | n + 1 => reps_append r (reps_rep r n)
theorem bin_ok {op : BOp} (R : RelS X.K φ ι H S) (rx : rep X.K φ ι H x v) (ry : rep X.K φ ι H y u) (h : binW op x y S k) (P : Post X.K φ ι H k Q) : OpB X (binaryOp (opOf op)) v u H Q := by
  unfold binW at h
  split at h
  · obtain rfl : v = _ := rx
    obtain rfl : u = _ := ry
    exact ⟨_, op_add, _, _, rfl, rfl, P.here R h rfl⟩
  · obtain rfl : v = _ := rx
    obtain rfl : u = _ := ry
    exact ⟨_, op_add_str, _, _, rfl, rfl, h.1, P.here R h.2 rfl⟩
  · obtain ⟨a, as, rfl, fa, qa⟩ := id rx
    obtain ⟨b, bs, rfl, fb, qb⟩ := id ry
    refine ⟨_, op_catA, a, b, as, bs, rfl, rfl, fa.sq, fb.sq, by rw [reps_len qa, reps_len qb]; exact h.1, fun e => ?_, fun _ e => ?_, fun _ _ p hp => P.tup R h.2 (reps_append qa qb) hp⟩
    · subst e
      have e2 := reps_len qa
      have e3 := List.eq_nil_of_length_eq_zero e2.symm
      subst e3
      exact P.here R h.2 ry
    · subst e
      have e2 := reps_len qb
      have e3 := List.eq_nil_of_length_eq_zero e2.symm
      subst e3
      exact P.here R h.2 (by rw [List.append_nil]; exact rx)
  · exact cat_ok R rx ry h P
  · exact cat_ok R rx ry h P
  · obtain rfl : v = _ := rx
    obtain rfl : u = _ := ry
    exact ⟨_, op_sub, _, _, rfl, rfl, P.here R h rfl⟩
  · obtain rfl : v = _ := rx
    obtain rfl : u = _ := ry
    exact ⟨_, op_mul, _, _, rfl, rfl, h.1, P.here R h.2 rfl⟩
  · rename_i j
    obtain ⟨a, as, rfl, fa, qa⟩ := id rx
    obtain rfl : u = _ := ry
    obtain ⟨⟨h1, h2, h3, h4⟩, h5⟩ := h
    have hl := reps_len qa
    refine ⟨_, op_repA, a, _, as, rfl, rfl, fa.sq, fun e => ?_, h3, h4, by rw [hl]; exact h2, fun e => ?_, fun _ p hp => P.tup R h5 (reps_rep qa _) hp⟩
    · rw [e] at hl
      have := List.eq_nil_of_length_eq_zero hl.symm
      rw [this] at h1
      cases h1
    · have e2 : ∀ l : List D, (List.replicate j.toNat l).flatten = l := fun l => by
        rw [e]
        show l ++ [] = l
        exact List.append_nil l
      rw [e2] at h5
      exact P.here R h5 rx
  · obtain rfl : v = _ := rx
    obtain rfl : u = _ := ry
    exact ⟨_, op_mulS, _, _, rfl, rfl, h.1.1, h.1.2.1, h.1.2.2, P.here R h.2 rfl⟩
  · obtain rfl : v = _ := rx
    obtain rfl : u = _ := ry
    exact ⟨_, op_fdiv, _, _, rfl, rfl, h.1, P.here R h.2 rfl⟩
  · obtain rfl : v = _ := rx
    obtain rfl : u = _ := ry
    exact ⟨_, op_mod, _, _, rfl, rfl, h.1, P.here R h.2 rfl⟩
  · obtain rfl : v = _ := rx
    obtain rfl : u = _ := ry
    exact ⟨_, op_pow, _, _, rfl, rfl, h.1, P.here R h.2 rfl⟩
  · exact h.elim

theorem scal_rep (rx : rep X.K φ ι H x v) (ry : rep X.K φ ι H y u) (h : scalD x y = true) : scal v u = true ∧ decide (v = u) = eqD x y := by
  have fs : ∀ {a b : Bool}, (a = true ↔ b = true) → a = b := fun {a b} h => by cases a <;> cases b <;> simp at h ⊢
  cases x <;> cases y <;> first
    | (simp [scalD, kindD] at h; done)
    | (cases (show v = _ from rx)
       cases (show u = _ from ry)
       refine ⟨rfl, ?_⟩
       first
         | (simp [eqD, toPy, PyData.eqv]; done)
         | (rw [decide_eq_true rfl]; rfl)
         | (apply fs; simp [eqD, toPy, PyData.eqv]))

theorem eq_ok (hu : X.A.units + 64 < cLine) (R : RelS X.K φ ι H S) (rx : rep X.K φ ι H x v) (ry : rep X.K φ ι H y u) (h : eqOk x y = true ∧ k (.bl (eqD x y)) S) (P : Post X.K φ ι H k Q) : OpB X (compareOp .Eq) v u H Q := by
  obtain ⟨h1, h2⟩ := h
  unfold eqOk at h1
  rw [Bool.or_eq_true] at h1
  rcases h1 with h1 | h1
  · obtain ⟨a, b⟩ := scal_rep rx ry h1
    exact ⟨_, op_eq, a, by rw [b]; exact P.here R h2 rfl⟩
  · rw [Bool.and_eq_true] at h1
    obtain ⟨a, b⟩ := h1
    unfold okEq at a b
    rw [Bool.and_eq_true] at a b
    exact ⟨_, op_eqD hu, toPy x, toPy y, dp_of a.1 rx, dp_of b.1 ry, a.2, b.2, P.here R h2 rfl⟩
theorem ne_ok (hu : X.A.units + 64 < cLine) (R : RelS X.K φ ι H S) (rx : rep X.K φ ι H x v) (ry : rep X.K φ ι H y u) (h : eqOk x y = true ∧ k (.bl (!eqD x y)) S) (P : Post X.K φ ι H k Q) : OpB X (compareOp .NotEq) v u H Q := by
  obtain ⟨h1, h2⟩ := h
  unfold eqOk at h1
  rw [Bool.or_eq_true] at h1
  rcases h1 with h1 | h1
  · obtain ⟨a, b⟩ := scal_rep rx ry h1
    exact ⟨_, op_ne, a, by rw [b]; exact P.here R h2 rfl⟩
  · rw [Bool.and_eq_true] at h1
    obtain ⟨a, b⟩ := h1
    unfold okEq at a b
    rw [Bool.and_eq_true] at a b
    exact ⟨_, op_neD hu, toPy x, toPy y, dp_of a.1 rx, dp_of b.1 ry, a.2, b.2, P.here R h2 rfl⟩
theorem flat_rep (rx : rep X.K φ ι H x v) (h : flatD x = true) : flatV v = true := by
  cases x <;> first
    | (simp [flatD] at h; done)
    | (cases (show v = _ from rx); rfl)
theorem eqV_rep (rx : rep X.K φ ι H x v) (hx : flatD x = true) (ry : rep X.K φ ι H y u) (hy : flatD y = true) : eqV v u = eqD x y := by
  cases x <;> first
    | (simp [flatD] at hx; done)
    | (cases y <;> first
       | (simp [flatD] at hy; done)
       | (cases (show v = _ from rx)
          cases (show u = _ from ry)
          simp [eqV, eqD, toPy, PyData.eqv]))
theorem flats_rep : ∀ {xs : List D} {vs : List V}, reps X.K φ ι H xs vs → xs.all flatD = true → vs.all flatV = true
  | [], _, r, _ => by
    obtain rfl : _ = [] := r
    rfl
  | d :: ds, vs, r, h => by
    obtain ⟨v, q, rfl, h1, h2⟩ := r
    rw [List.all_cons, Bool.and_eq_true] at h
    rw [List.all_cons, flat_rep h1 h.1, flats_rep h2 h.2]
    rfl
theorem any_rep (rx : rep X.K φ ι H x v) (hx : flatD x = true) : ∀ {xs : List D} {vs : List V}, reps X.K φ ι H xs vs → xs.all flatD = true → (vs.any fun z => eqV z v) = xs.any fun z => eqD z x
  | [], _, r, _ => by
    obtain rfl : _ = [] := r
    rfl
  | d :: ds, vs, r, h => by
    obtain ⟨w, q, rfl, h1, h2⟩ := r
    rw [List.all_cons, Bool.and_eq_true] at h
    rw [List.any_cons, List.any_cons, any_rep rx hx h2 h.2, eqV_rep h1 h.1 rx hx]
theorem str_one {a : Str} (h : a.length = 1) : a = ⟨#[a.cps.getD 0 0]⟩ := by
  obtain ⟨⟨l⟩⟩ := a
  match l, h with
  | [c], _ => rfl
theorem in_ok (R : RelS X.K φ ι H S) (rx : rep X.K φ ι H x v) (ry : rep X.K φ ι H y u) {op : COp} (ho : op = .isIn ∨ op = .notIn) (h : cmpW op x y S k) (P : Post X.K φ ι H k Q) : OpB X (compareOp (cpOf op)) v u H Q := by
  have gen : ∀ (ys : List D), seqOf S y = some ys → flatD x = true → ys.all flatD = true → ∃ p vs, u = .ref p ∧ (SqL X.K H p vs ∨ SqT X.K H p vs) ∧ flatV v = true ∧ vs.all flatV = true ∧ inV v vs = ys.any fun z => eqD z x := fun ys e f1 f2 => by
    obtain ⟨p, vs, rfl, q, r⟩ := seq_of R ry e
    exact ⟨p, vs, rfl, q, flat_rep rx f1, flats_rep r f2, any_rep rx f1 r f2⟩
  rcases ho with rfl | rfl
  · simp only [cmpW] at h
    split at h
    · obtain rfl : v = _ := rx
      obtain rfl : u = _ := ry
      rename_i a z
      exact ⟨_, op_in_sign, a.cps.getD 0 0, z, by rw [← str_one h.1], rfl, P.here R h.2 rfl⟩
    · split at h
      · obtain ⟨f1, f2, q⟩ := h
        obtain ⟨p, vs, rfl, h1, h2, h3, h4⟩ := gen _ (by assumption) f1 f2
        refine ⟨_, op_in_seq, p, vs, rfl, h1, h2, h3, ?_⟩
        show Q (V.bl (inV v vs)) H
        rw [h4]
        exact P.here R q rfl
      · exact h.elim
  · simp only [cmpW] at h
    split at h
    · obtain rfl : v = _ := rx
      obtain rfl : u = _ := ry
      rename_i a z
      exact ⟨_, op_notIn_sign, a.cps.getD 0 0, z, by rw [← str_one h.1], rfl, P.here R h.2 rfl⟩
    · split at h
      · obtain ⟨f1, f2, q⟩ := h
        obtain ⟨p, vs, rfl, h1, h2, h3, h4⟩ := gen _ (by assumption) f1 f2
        refine ⟨_, op_notIn_seq, p, vs, rfl, h1, h2, h3, ?_⟩
        show Q (V.bl (!inV v vs)) H
        rw [h4]
        exact P.here R q rfl
      · exact h.elim
theorem isB_none (b : Bool) : OpR X (compareOp .Is) (fun x y H Q => x = .non ∧ y = .bl b ∧ Q (.bl false) H) := by
  intro pins s σ H x y v u Q I rx ry h
  obtain ⟨rfl, rfl, q⟩ := h
  cases rx
  cases ry
  exact wpAny_is_other rfl (fun z => by cases z) ⟨.bl false, H, I, rfl, q⟩
/-- a comparison; right operand known where the operator says so -/
theorem cmp_ok {op : COp} (hu : X.A.units + 64 < cLine) (R : RelS X.K φ ι H S) (rx : rep X.K φ ι H x v) (ry : rep X.K φ ι H y u) (h : cmpW op x y S k) (P : Post X.K φ ι H k Q) : OpB X (compareOp (cpOf op)) v u H Q := by
  have ord : ∀ {f : CmpOp}, (op = .lt ∧ f = .Lt) ∨ (op = .le ∧ f = .LtE) ∨ (op = .gt ∧ f = .Gt) ∨ (op = .ge ∧ f = .GtE) → cpOf op = f → OpB X (compareOp f) v u H Q := by
    intro f ho hf
    have h' : ordC op x y S k := by
      rcases ho with ⟨rfl, _⟩ | ⟨rfl, _⟩ | ⟨rfl, _⟩ | ⟨rfl, _⟩ <;> exact h
    clear h
    unfold ordC at h'
    split at h'
    · obtain rfl : v = _ := rx
      obtain rfl : u = _ := ry
      rcases ho with ⟨rfl, rfl⟩ | ⟨rfl, rfl⟩ | ⟨rfl, rfl⟩ | ⟨rfl, rfl⟩
      · exact ⟨_, op_lt, _, _, rfl, rfl, P.here R h' rfl⟩
      · exact ⟨_, op_le, _, _, rfl, rfl, P.here R h' rfl⟩
      · exact ⟨_, op_gt, _, _, rfl, rfl, P.here R h' rfl⟩
      · exact ⟨_, op_ge, _, _, rfl, rfl, P.here R h' rfl⟩
    · split at h'
      · rename_i e1 e2
        obtain ⟨a, as, rfl, fa, qa⟩ := id rx
        obtain ⟨b, bs, rfl, fb, qb⟩ := id ry
        have q1 := ints_of qa e1
        have q2 := ints_of qb e2
        subst q1
        subst q2
        obtain rfl : f = .Lt := hf.symm
        exact ⟨_, op_ltT (by omega), a, b, _, _, rfl, rfl, fa.sq, fb.sq, P.here R h' rfl⟩
      · exact h'.elim
    · exact h'.elim
  cases op with
  | eq => exact eq_ok hu R rx ry h P
  | ne => exact ne_ok hu R rx ry h P
  | lt => exact ord (.inl ⟨rfl, rfl⟩) rfl
  | le => exact ord (.inr (.inl ⟨rfl, rfl⟩)) rfl
  | gt => exact ord (.inr (.inr (.inl ⟨rfl, rfl⟩))) rfl
  | ge => exact ord (.inr (.inr (.inr ⟨rfl, rfl⟩))) rfl
  | is =>
    simp only [cmpW] at h
    split at h
    · obtain rfl : u = _ := ry
      refine ⟨_, op_isN, rfl, ?_⟩
      have e : decide (v = V.non) = isNonD x := by
        cases x <;> first
          | (cases (show v = _ from rx); rfl)
          | (obtain ⟨a, xs, rfl, _⟩ := rx; rfl)
          | (obtain ⟨a, _, rfl⟩ := rx; rfl)
          | (obtain ⟨a, rfl, _⟩ := rx; rfl)
      rw [e]
      exact P.here R h rfl
    · rename_i b
      obtain rfl : u = _ := ry
      split at h
      · obtain rfl : v = _ := rx
        refine ⟨_, op_isBl, _, _, rfl, rfl, ?_⟩
        have e : ∀ c : Bool, decide (c = b) = (c == b) := fun c => by cases c <;> cases b <;> rfl
        rw [e]
        exact P.here R h rfl
      · obtain rfl : v = _ := rx
        exact ⟨_, isB_none b, rfl, rfl, P.here R h rfl⟩
      · exact h.elim
    · exact h.elim
  | isnot =>
    simp only [cmpW] at h
    split at h
    · obtain rfl : u = _ := ry
      refine ⟨_, op_notN, rfl, ?_⟩
      have e : (!decide (v = V.non)) = !isNonD x := by
        cases x <;> first
          | (cases (show v = _ from rx); rfl)
          | (obtain ⟨a, xs, rfl, _⟩ := rx; rfl)
          | (obtain ⟨a, _, rfl⟩ := rx; rfl)
          | (obtain ⟨a, rfl, _⟩ := rx; rfl)
      rw [e]
      exact P.here R h rfl
    · rename_i b
      obtain rfl : u = _ := ry
      split at h
      · obtain rfl : v = _ := rx
        refine ⟨_, op_notBl, _, _, rfl, rfl, ?_⟩
        have e : ∀ c : Bool, (!decide (c = b)) = !(c == b) := fun c => by cases c <;> cases b <;> rfl
        rw [e]
        exact P.here R h rfl
      · exact h.elim
    · exact h.elim
  | isIn => exact in_ok R rx ry (.inl rfl) h P
  | notIn => exact in_ok R rx ry (.inr rfl) h P
end
section
variable {X : Cx} {φ ι : List Addr} {H : Hp} {S : Sto} {k : WK} {Q : VK} {x y : D} {v u : V}
theorem neg_ok {i : Int} (R : RelS X.K φ ι H S) (rx : rep X.K φ ι H (.int i) v) (h : k (.int (-i)) S) (P : Post X.K φ ι H k Q) : UnB X (unaryOp .USub) v H Q := by
  obtain rfl : v = _ := rx
  exact ⟨_, un_neg, _, rfl, P.here R h rfl⟩
theorem truth_ok {kb : Bool → Sto → Prop} (R : RelS X.K φ ι H S) (rx : rep X.K φ ι H x v) (h : truthW x S kb) : ∃ t, TruV X.K v H t ∧ kb t S := by
  cases x with
  | non => obtain rfl : v = _ := rx; exact ⟨_, rfl, h⟩
  | bl b => obtain rfl : v = _ := rx; exact ⟨_, rfl, h⟩
  | int b => obtain rfl : v = _ := rx; exact ⟨_, rfl, h⟩
  | str b => obtain rfl : v = _ := rx; exact ⟨_, ⟨h.1, rfl⟩, h.2⟩
  | tup ds =>
    obtain ⟨a, xs, rfl, f, q⟩ := rx
    exact ⟨_, .inr (.inl ⟨xs, f.sq, rfl⟩), by rw [reps_isEmpty q]; exact h⟩
  | ro ds =>
    obtain ⟨a, xs, rfl, f, q⟩ := rx
    exact ⟨_, .inl ⟨xs, f.sq, rfl⟩, by rw [reps_isEmpty q]; exact h⟩
  | ptr n =>
    simp only [truthW] at h
    split at h
    · rename_i e
      obtain ⟨a, vs, rfl, q, r⟩ := list_of R rx (show listOf S (.ptr n) = _ from e)
      exact ⟨_, .inl ⟨vs, q, rfl⟩, by rw [reps_isEmpty r]; exact h⟩
    · exact h.elim
  | dic => exact (show False from h).elim
  | rng => exact (show False from h).elim
/-- d[k], there -/
def rIxDG : R2 := fun x y H Q => ∃ a v, x = .ref a ∧ DGet H a y (some v) ∧ Q v H
theorem ix_dget (hu : X.A.units + 64 < cLine) : IxR X rIxDG := by
  intro value slice pins s σ H x y v u Q I rx ry h hs
  obtain ⟨a, w, rfl, g, q⟩ := h
  obtain rfl : v = Value.ref a := rx
  exact tail_any (dict_typeIs I g) PySem.F.slot_dict_getitem.lookup (d_getItem (by omega) I g ry fun w' s' I' r => ⟨w, H, I', r, q⟩) hs
theorem keyEq_t {a b : Key} (h : keyEq a b = true) : a = b := by
  cases a <;> cases b <;> simp only [keyEq] at h
  · rw [eq_of_beq h]
  · cases h
  · cases h
  · rw [eq_of_beq h]
theorem keyEq_f {a b : Key} (h : keyEq a b = false) : a ≠ b := by
  rintro rfl
  cases a <;> simp [keyEq] at h
theorem look_rep : ∀ {ks : List Key} {ds : List D} {vs : List V} {y : Key} {d : D}, reps X.K φ ι H ds vs → lookD ks ds y = some d → ∃ w, valV (ks.zip vs) y = some w ∧ rep X.K φ ι H d w
  | [], _, _, _, _, _, e => by cases e
  | _ :: _, [], _, _, _, _, e => by cases e
  | k :: ks, d :: ds, vs, y, e0, r, e => by
    obtain ⟨v, us, rfl, r1, r2⟩ := r
    unfold lookD at e
    rw [List.zip_cons_cons]
    cases q : keyEq k y with
    | true =>
      rw [q, if_pos rfl] at e
      cases e
      exact ⟨v, valV_pos (keyEq_t q), r1⟩
    | false =>
      rw [q, if_neg Bool.false_ne_true] at e
      rw [valV_neg (keyEq_f q)]
      exact look_rep r2 e
theorem dic_ok {ks : List Key} {ds : List D} {kk : Key} {d : D} (hu : X.A.units + 64 < cLine) (R : RelS X.K φ ι H S) (rx : rep X.K φ ι H (.dic ks ds) v) (e : lookD ks ds kk = some d) (hk : k d S) (P : Post X.K φ ι H k Q) : IxB X v (kV kk) H Q := by
  obtain ⟨a, xs, rfl, ⟨f, _, _⟩, r⟩ := rx
  obtain ⟨w, e1, rw_⟩ := look_rep r e
  exact ⟨_, ix_dget hu, a, w, rfl, .inl ⟨_, kk, f, rfl, e1.symm⟩, P.here R hk rw_⟩
theorem idx_ok (hu : X.A.units + 64 < cLine) (R : RelS X.K φ ι H S) (rx : rep X.K φ ι H x v) (ry : rep X.K φ ι H y u) (h : idxW x y S k) (P : Post X.K φ ι H k Q) : IxB X v u H Q := by
  unfold idxW at h
  split at h
  · obtain rfl : u = _ := ry
    split at h
    · obtain rfl : v = _ := rx
      obtain ⟨h1, h⟩ := h
      split at h
      · exact ⟨_, ix_str, _, _, _, rfl, rfl, h1, by assumption, P.here R h rfl⟩
      · exact h.elim
    · split at h
      · rename_i e
        exact dic_ok (kk := .inl _) hu R rx e h P
      · exact h.elim
    · split at h
      · rename_i e
        split at h
        · rename_i e2
          obtain ⟨a, vs, rfl, q, r⟩ := seq_of R rx e
          obtain ⟨w, e3, rw_⟩ := atI_reps r e2
          rcases q with q | q
          · exact ⟨_, ix_list, a, vs, _, w, rfl, rfl, q, e3, P.here R h rw_⟩
          · exact ⟨_, ix_tup, a, vs, _, w, rfl, rfl, q, e3, P.here R h rw_⟩
        · exact h.elim
      · exact h.elim
  · obtain rfl : u = _ := ry
    split at h
    · split at h
      · rename_i e
        exact dic_ok (kk := .inr _) hu R rx e h P
      · exact h.elim
    · exact h.elim
  · exact h.elim
theorem cutD_all {ds : List D} {lo hi : Option Int} (h : HT.sIx ds.length 0 lo = 0 ∧ HT.sIx ds.length ds.length hi = ds.length) : cutD ds lo hi = ds := by
  unfold cutD
  rw [h.1, h.2, List.drop_zero, Nat.sub_zero, List.take_length]
theorem slc_ok {lo hi : Option Int} (R : RelS X.K φ ι H S) (rx : rep X.K φ ι H x v) (h : slcW x lo hi S k) (P : Post X.K φ ι H k Q) : SlB X v lo hi H Q := by
  unfold slcW at h
  split at h
  · rename_i ds
    obtain ⟨a, xs, rfl, f, q⟩ := id rx
    refine ⟨_, sl_tupA, a, xs, rfl, f.sq, fun e => ?_, fun _ p hp => P.tup R h (cutV_reps q lo hi) hp⟩
    rw [reps_len q] at e
    rw [cutD_all e] at h
    exact P.here R h rx
  · obtain rfl : v = _ := rx
    exact ⟨_, sl_str, _, rfl, h.1, P.here R h.2 rfl⟩
  · split at h
    · rename_i e
      obtain ⟨a, vs, rfl, q, r⟩ := list_of R rx e
      exact ⟨_, sl_list, a, vs, rfl, q, fun p hp => P.ro R h (cutV_reps r lo hi) hp⟩
    · exact h.elim
end
end Ov
-- OvD
namespace Ov
open PySem PySem.Spec PyProof.Rows L2

def signV (z : Str) : List V := z.cps.toList.map fun c => V.str ⟨#[c]⟩
theorem call_signs {X : Cx} (hc : X.calm = true) : CallR X (.type "list") (fun xs H Q => ∃ z : Str, xs = [.str z] ∧ z.length ≤ sizeLine ∧ ∀ l, H l = none → Q (.ref l) (upd H l (.lst (signV z)))) := by
  rintro pins s σ H _ us Q I r ⟨z, rfl, hz, q⟩
  obtain ⟨u, rfl, t, rfl⟩ := vals1 r
  refine call_list_str (I.ok.hd hc) z t (fun h' tk acc c kp e items => ?_) hz
  have hv : Vals (signV z) acc.toList := by
    have hl : acc.toList.length = z.cps.size := by rw [Array.length_toList]; exact items.1
    have hg := vals_of_get acc.toList (fun j => V.str ⟨#[z.cps.toList.getD j 0]⟩) fun j u hj => by
      obtain ⟨c, tk2, e1, rfl⟩ := items.2 j u (by rw [← hj, Array.getElem?_toList])
      refine ⟨tk2, ?_⟩
      rw [← Array.getElem?_toList] at e1
      rw [List.getD_eq_getElem?_getD, e1]
      rfl
    have e2 : (List.range acc.toList.length).map (fun j => V.str ⟨#[z.cps.toList.getD j 0]⟩) = signV z := by
      rw [hl]
      refine List.ext_getElem (by simp [signV]) fun j h1 h2 => ?_
      simp only [signV, List.length_map] at h2
      simp only [signV, List.getElem_map, List.getElem_range, List.getD_eq_getElem?_getD, List.getElem?_eq_getElem h2, Option.getD_some]
    rw [e2] at hg
    exact hg
  refine ⟨.ref s.heap.objs.size, _, I.laid (t' := tk) kp (Nat.le_refl _) (show ObjOk X.prog X.w _ h' _ (.lst (signV z)) from ⟨by unfold signV; rw [List.length_map, Array.length_toList]; exact hz, acc.toList, c, hv, by rw [Array.toArray_toList]; exact e⟩), rfl, q _ (I.hok.fresh (Nat.le_refl _))⟩
theorem reps_signs {K : PySem.W.Frag} {φ ι : List Addr} {H : Hp} (z : Str) : reps K φ ι H (charsD z) (signV z) := by
  unfold charsD signV
  generalize z.cps.toList = l
  induction l with
  | nil => rfl
  | cons c l ih => exact ⟨_, _, rfl, rfl, ih⟩
def biV : BI → Value
  | .len => .builtin "len" | .int => .type "int" | .abs => .builtin "abs" | .bool => .type "bool" | .tuple => .type "tuple" | .list => .type "list" | .mlist => .type "list"
  | .max => .builtin "max" | .min => .builtin "min" | .sum => .builtin "sum" | .any => .builtin "any" | .all => .builtin "all" | .str => .type "str" | .isI _ => .builtin "isinstance" | .rngv => .type "range" | .sorted => .builtin "sorted" | .msorted => .builtin "sorted"
def biN : BI → String
  | .len => "len" | .int => "int" | .abs => "abs" | .bool => "bool" | .tuple => "tuple" | .list => "list" | .mlist => "list"
  | .max => "max" | .min => "min" | .sum => "sum" | .any => "any" | .all => "all" | .str => "str" | .isI _ => "isinstance" | .rngv => "range" | .sorted => "sorted" | .msorted => "sorted"
def isTyp : BI → Bool
  | .int => true | .bool => true | .tuple => true | .list => true | .mlist => true | .str => true | .rngv => true | _ => false
def biX (b : BI) (vs : List V) : List V := match b with
  | .isI t => vs ++ [.ty t]
  | _ => vs

theorem reps1 {K : PySem.W.Frag} {φ ι : List Addr} {H : Hp} {d : D} {vs : List V} (h : reps K φ ι H [d] vs) : ∃ v, vs = [v] ∧ rep K φ ι H d v := by
  obtain ⟨v, r, rfl, h1, h2⟩ := h
  obtain rfl : r = [] := h2
  exact ⟨v, rfl, h1⟩
theorem reps2 {K : PySem.W.Frag} {φ ι : List Addr} {H : Hp} {d e : D} {vs : List V} (h : reps K φ ι H [d, e] vs) : ∃ v u, vs = [v, u] ∧ rep K φ ι H d v ∧ rep K φ ι H e u := by
  obtain ⟨v, r, rfl, h1, h2⟩ := h
  obtain ⟨u, rfl, h3⟩ := reps1 h2
  exact ⟨v, u, rfl, h1, h3⟩
theorem isiB_kit {K : PySem.W.Frag} {a t : String} {r : Bool} (h : kitB a t = some r) : PySem.W.kitOne K (.type a) (.type t) = some r := kit_ty h
/-- one of five names -/
theorem five {p : String → Prop} {t : String} (h : t = "int" ∨ t = "bool" ∨ t = "str" ∨ t = "tuple" ∨ t = "list") (a : p "int") (b : p "bool") (c : p "str") (d : p "tuple") (e : p "list") : p t := by
  rcases h with rfl | rfl | rfl | rfl | rfl <;> assumption
def isDic : D → Bool
  | .dic _ _ => true
  | .rng _ _ => true
  | _ => false
def tyN : D → String
  | .non => "NoneType" | .bl _ => "bool" | .int _ => "int" | .str _ => "str" | .tup _ => "tuple" | .ro _ => "list" | .ptr _ => "list" | .dic _ _ => "list" | .rng _ _ => "list"
theorem kit5 : ∀ s ∈ ["NoneType", "bool", "int", "str", "tuple", "list"], ∀ t ∈ ["bool", "int", "str", "tuple", "list"],
    kitB s t = some (decide (s = t) || (decide (s = "bool") && decide (t = "int"))) := by decide +kernel
theorem isi_kit {x : D} {t : String} {b : Bool} (h : isiB t x = some b) : kitB (tyN x) t = some b := by
  have hs : tyN x ∈ ["NoneType", "bool", "int", "str", "tuple", "list"] := by cases x <;> simp [tyN]
  have ht : t ∈ ["bool", "int", "str", "tuple", "list"] := by
    cases x <;> simp only [isiB] at h <;> repeat' split at h
    all_goals first
      | (cases h; done)
      | (simp_all; done)
      | (rename_i q; rcases q with rfl | rfl | rfl | rfl | rfl <;> simp)
      | (rename_i q; rcases q with rfl | rfl | rfl | rfl <;> simp)
      | (rename_i q; rcases q with rfl | rfl | rfl <;> simp)
      | (rename_i q; rcases q with rfl | rfl <;> simp)
      | (rename_i q; subst q; simp)
  rw [kit5 _ hs _ ht]
  cases x <;> simp only [isiB] at h <;> repeat' split at h
  all_goals first
    | (cases h; done)
    | (rename_i q; rcases q with rfl | rfl | rfl | rfl | rfl <;> (cases h; rfl))
    | (rename_i q; rcases q with rfl | rfl | rfl | rfl <;> (cases h; rfl))
    | (rename_i q; rcases q with rfl | rfl | rfl <;> (cases h; rfl))
    | (rename_i q; rcases q with rfl | rfl <;> (cases h; rfl))
    | (rename_i q; subst q; cases h; rfl)

section
variable {X : Cx} {φ ι : List Addr} {H : Hp} {S : Sto} {k : WK} {Q : VK} {x y : D} {v u : V}
theorem ty_rep (R : RelS X.K φ ι H S) (rx : rep X.K φ ι H x v) (hx : isDic x = false) : TyX X.K H v (.type (tyN x)) := by
  cases x with
  | non => cases (show v = _ from rx); exact .base .non
  | bl b => cases (show v = _ from rx); exact .base (.bl b)
  | int b => cases (show v = _ from rx); exact .base (.int b)
  | str b => cases (show v = _ from rx); exact .base (.str b)
  | tup ds =>
    obtain ⟨a, xs, rfl, (⟨(f | ⟨o, f⟩), _⟩ | (f | ⟨o, its, n, f, c, _⟩)), _⟩ := rx
    · exact .base (.tup f)
    · exact .fTuple f
    · exact (bare_rd f).elim
    · exact .kTuple f c
  | ro ds =>
    obtain ⟨a, xs, rfl, (⟨(f | ⟨o, f⟩), _⟩ | (f | ⟨o, its, n, f, c, _⟩)), _⟩ := rx
    · exact .base (.lst f)
    · exact .base (.frz f)
    · exact (bare_rd f).elim
    · exact .kList f c
  | ptr n =>
    obtain ⟨a, ha, rfl⟩ := rx
    obtain ⟨vs, e⟩ := R.mem (List.mem_of_getElem? ha)
    exact .base (.lst e)
  | dic => cases hx
  | rng => cases hx
theorem isi_ok {t : String} {b : Bool} (R : RelS X.K φ ι H S) (rx : rep X.K φ ι H x v) (h : isiB t x = some b) (hk : k (.bl b) S) (P : Post X.K φ ι H k Q) : CallB X (.builtin "isinstance") [v, .ty t] H Q :=
  ⟨_, call_isi, v, .ty t, _, _, b, rfl, .ty t, ty_rep R rx (by cases x <;> first | rfl | (cases h)), kit_ty (isi_kit h), P.here R hk rfl⟩

theorem pairs_rep : ∀ {xs : List D} {vs : List V} {ps : List (Int × Int)}, reps X.K φ ι H xs vs → pairsOf xs = some ps → vs.length = ps.length ∧ ∀ z ∈ vs.zip ps, rep X.K φ ι H (pairI z.2) z.1
  | [], vs, ps, r, h => by
    obtain rfl : vs = [] := r
    cases h
    exact ⟨rfl, fun z hz => by cases hz⟩
  | d :: xs, vs, ps, r, h => by
    obtain ⟨v, us, rfl, r1, r2⟩ := r
    unfold pairsOf at h
    split at h
    · rename_i e
      cases e
    · rename_i a b r' e
      cases e
      obtain ⟨q, hq, rfl⟩ := Option.map_eq_some_iff.mp h
      obtain ⟨l, m⟩ := pairs_rep r2 hq
      refine ⟨by simp [l], fun z hz => ?_⟩
      rw [List.zip_cons_cons] at hz
      rcases List.mem_cons.mp hz with rfl | hz
      · exact r1
      · exact m z hz
    · cases h
theorem reps_zip : ∀ {zs : List (V × (Int × Int))}, (∀ z ∈ zs, rep X.K φ ι H (pairI z.2) z.1) → reps X.K φ ι H ((zs.map (·.2)).map pairI) (zs.map (·.1))
  | [], _ => rfl
  | z :: zs, h => ⟨z.1, zs.map (·.1), rfl, h z List.mem_cons_self, reps_zip fun y hy => h y (List.mem_cons_of_mem _ hy)⟩
theorem reps_int : ∀ ns : List Int, reps X.K φ ι H (ns.map D.int) (ns.map V.int)
  | [] => rfl
  | n :: ns => ⟨.int n, ns.map V.int, rfl, rfl, reps_int ns⟩
theorem sort_ok {kk : List D → Prop} (R : RelS X.K φ ι H S) (rx : rep X.K φ ι H x v) (h : sortW x S kk) (q : ∀ ys vs p, kk ys → reps X.K φ ι H ys vs → H p = none → Q (.ref p) (upd H p (.lst vs))) : CallB X (.builtin "sorted") [v] H Q := by
  unfold sortW at h
  split at h
  · rename_i e
    obtain ⟨a, ws, rfl, hq, r⟩ := seq_of R rx e
    split at h
    · rename_i e2
      rw [ints_of r e2] at hq
      exact ⟨_, cr_sortIA, a, _, rfl, hq, fun ns' p h1 h2 h3 => q _ _ p (h ns' h1 h2) (reps_int ns') h3⟩
    · split at h
      · rename_i e2
        obtain ⟨l, m⟩ := pairs_rep r e2
        refine ⟨_, cr_sortPA, a, ws, _, rfl, hq, l, fun z hz => ?_, fun zs p h1 h2 h3 => ?_⟩
        · obtain ⟨t, us, e3, f, r3⟩ := m z hz
          obtain ⟨u1, u2, rfl, r4, r5⟩ := reps2 r3
          obtain rfl : u1 = _ := r4
          obtain rfl : u2 = _ := r5
          exact ⟨t, e3, f.sq⟩
        · have hp : (zs.map (·.2)).Perm _ := (h1.map (·.2)).trans (List.Perm.of_eq (List.map_snd_zip (by omega)))
          exact q _ _ p (h _ hp h2) (reps_zip fun z hz => m z (h1.mem_iff.mp hz)) h3
      · exact h.elim
  · exact h.elim
theorem bi_ok {b : BI} {ds : List D} {vs : List V} (hc : X.calm = true) (R : RelS X.K φ ι H S) (r : reps X.K φ ι H ds vs) (h : biW b ds S k) (P : Post X.K φ ι H k Q) : CallB X (biV b) (biX b vs) H Q := by
  unfold biW at h
  split at h
  · obtain ⟨v, rfl, r1⟩ := reps1 r
    clear r
    have r := r1
    clear r1
    split at h
    · cases (show v = _ from r)
      exact ⟨_, call_len_str, _, rfl, h.1, P.here R h.2 rfl⟩
    · split at h
      · rename_i e
        obtain ⟨a, ws, rfl, q, r⟩ := seq_of R r e
        exact ⟨_, call_len_seq, a, ws, rfl, q, by rw [reps_len r]; exact P.here R h rfl⟩
      · exact h.elim
  · obtain ⟨v, rfl, r1⟩ := reps1 r
    clear r
    have r := r1
    clear r1
    split at h
    · cases (show v = _ from r)
      exact ⟨_, call_int1, .inl ⟨_, rfl, P.here R h rfl⟩⟩
    · cases (show v = _ from r)
      exact ⟨_, call_int1, .inr ⟨_, rfl, P.here R h rfl⟩⟩
    · exact h.elim
  · obtain ⟨v, rfl, r1⟩ := reps1 r
    clear r
    have r := r1
    clear r1
    cases (show v = _ from r)
    exact ⟨_, call_abs, _, rfl, P.here R h rfl⟩
  · obtain ⟨v, rfl, r1⟩ := reps1 r
    clear r
    have r := r1
    clear r1
    split at h
    · cases (show v = _ from r)
      exact ⟨_, call_bool1, .inl ⟨_, rfl, P.here R h rfl⟩⟩
    · cases (show v = _ from r)
      exact ⟨_, call_bool1, .inr ⟨_, rfl, P.here R h rfl⟩⟩
    · exact h.elim
  · obtain ⟨v, rfl, r1⟩ := reps1 r
    clear r
    have r := r1
    clear r1
    split at h
    · rename_i e
      cases hl : listOf S ‹D› with
      | some ys =>
        have e2 := (seqOf_list hl).symm.trans e
        cases e2
        obtain ⟨a, ws, rfl, q, r⟩ := list_of R r hl
        exact ⟨_, call_tuple_of, a, ws, rfl, .inl ⟨q, fun l hp => P.tup R h r hp⟩⟩
      | none =>
        have e2 := seqOf_tup e hl
        subst e2
        obtain ⟨a, ws, rfl, f, q⟩ := id r
        exact ⟨_, call_tuple_of, a, ws, rfl, .inr ⟨f.sq, P.here R h r⟩⟩
    · exact h.elim
  · obtain ⟨v, rfl, r1⟩ := reps1 r
    cases (show v = _ from r1)
    exact ⟨_, call_signs hc, _, rfl, h.1, fun l hp => P.ro R h.2 (reps_signs _) hp⟩
  · obtain ⟨v, rfl, r1⟩ := reps1 r
    clear r
    have r := r1
    clear r1
    split at h
    · rename_i e
      obtain ⟨a, ws, rfl, q, r⟩ := seq_of R r e
      exact ⟨_, call_list_of, a, ws, rfl, q, fun l hp => P.ro R h r hp⟩
    · exact h.elim
  · obtain ⟨v, rfl, r1⟩ := reps1 r
    cases (show v = _ from r1)
    exact ⟨_, call_signs hc, _, rfl, h.1, fun l hp => P.mls R h.2 (reps_signs _) hp⟩
  · obtain ⟨v, rfl, r1⟩ := reps1 r
    clear r
    have r := r1
    clear r1
    split at h
    · rename_i e
      obtain ⟨a, ws, rfl, q, r⟩ := seq_of R r e
      exact ⟨_, call_list_of, a, ws, rfl, q, fun l hp => P.mls R h r hp⟩
    · exact h.elim
  · obtain ⟨v, u, rfl, r1, r2⟩ := reps2 r
    cases (show v = _ from r1)
    cases (show u = _ from r2)
    exact ⟨_, call_max2 hc, _, _, rfl, P.here R h rfl⟩
  · obtain ⟨v, u, rfl, r1, r2⟩ := reps2 r
    cases (show v = _ from r1)
    cases (show u = _ from r2)
    exact ⟨_, call_min2 hc, _, _, rfl, P.here R h rfl⟩
  · obtain ⟨v, rfl, r1⟩ := reps1 r
    clear r
    have r := r1
    clear r1
    split at h
    · rename_i e
      obtain ⟨ds, e1, e2⟩ := Option.bind_eq_some_iff.mp e
      obtain ⟨a, ws, rfl, q, r⟩ := seq_of R r e1
      rw [ints_of r e2] at q
      exact ⟨_, cr_maxA hc, a, _, rfl, q, h.1, fun m h1 h2 => P.here R (h.2 m h1 h2) rfl⟩
    · exact h.elim
  · obtain ⟨v, rfl, r1⟩ := reps1 r
    clear r
    have r := r1
    clear r1
    split at h
    · rename_i e
      obtain ⟨ds, e1, e2⟩ := Option.bind_eq_some_iff.mp e
      obtain ⟨a, ws, rfl, q, r⟩ := seq_of R r e1
      rw [ints_of r e2] at q
      exact ⟨_, cr_minA hc, a, _, rfl, q, h.1, fun m h1 h2 => P.here R (h.2 m h1 h2) rfl⟩
    · exact h.elim
  · obtain ⟨v, rfl, r1⟩ := reps1 r
    clear r
    have r := r1
    clear r1
    split at h
    · rename_i e
      obtain ⟨ds, e1, e2⟩ := Option.bind_eq_some_iff.mp e
      obtain ⟨a, ws, rfl, q, r⟩ := seq_of R r e1
      rw [ints_of r e2] at q
      exact ⟨_, cr_sumA hc, a, _, rfl, q, P.here R h rfl⟩
    · exact h.elim
  · obtain ⟨v, rfl, r1⟩ := reps1 r
    clear r
    have r := r1
    clear r1
    split at h
    · rename_i e
      obtain ⟨ds, e1, e2⟩ := Option.bind_eq_some_iff.mp e
      obtain ⟨a, ws, rfl, q, r⟩ := list_of R r e1
      rw [bools_of r e2] at q
      exact ⟨_, cr_any hc, a, _, rfl, q, P.here R h rfl⟩
    · exact h.elim
  · obtain ⟨v, rfl, r1⟩ := reps1 r
    clear r
    have r := r1
    clear r1
    split at h
    · rename_i e
      obtain ⟨ds, e1, e2⟩ := Option.bind_eq_some_iff.mp e
      obtain ⟨a, ws, rfl, q, r⟩ := list_of R r e1
      rw [bools_of r e2] at q
      exact ⟨_, cr_all hc, a, _, rfl, q, P.here R h rfl⟩
    · exact h.elim
  · obtain ⟨v, rfl, r1⟩ := reps1 r
    exact sort_ok R r1 h fun ys vs p hk rr hp => P.ro R hk rr hp
  · obtain ⟨v, rfl, r1⟩ := reps1 r
    exact sort_ok R r1 h fun ys vs p hk rr hp => P.mls R hk rr hp
  · obtain ⟨v, rfl, r1⟩ := reps1 r
    clear r
    have r := r1
    clear r1
    cases (show v = _ from r)
    exact ⟨_, call_str_int, _, rfl, h.1, P.here R h.2 rfl⟩
  · obtain ⟨v, rfl, r1⟩ := reps1 r
    clear r
    have r := r1
    clear r1
    split at h
    · rename_i e
      exact isi_ok R r e h P
    · exact h.elim
  · obtain ⟨v, u, rfl, r1, r2⟩ := reps2 r
    cases (show v = _ from r1)
    cases (show u = _ from r2)
    exact ⟨_, cr_range2, _, _, rfl, fun p hp => P _ _ _ _ _ h.2 (.new hp) (R.new hp) ⟨p, rfl, ⟨upd_same, R.notMem hp, R.priv hp⟩, h.1⟩⟩
  · exact h.elim
end

/-! ### methods -/
def mtT : Mth → String
  | .append => "list" | .pop => "list" | .join => "str" | .count => "str" | .indexL => "list"
def mtN : Mth → String
  | .append => "append" | .pop => "pop" | .join => "join" | .count => "count" | .indexL => "index"
section
variable {X : Cx} {φ ι : List Addr} {H : Hp} {S : Sto} {k : WK} {Q : VK} {x y : D} {v u : V} {ds : List D} {vs : List V}
theorem append_ok {d : D} (R : RelS X.K φ ι H S) (rx : rep X.K φ ι H x v) (ry : rep X.K φ ι H d u) (h : appendW x d S k) (P : Post X.K φ ι H k Q) : MtB X "list.append" v [u] H Q := by
  unfold appendW at h
  split at h
  · obtain ⟨a, ha, rfl⟩ := rx
    split at h
    · rename_i e
      obtain ⟨b, ws, h1, h2, h3⟩ := R.cell _ _ e
      rw [ha] at h1
      cases h1
      exact ⟨_, mt_append, a, ws, u, rfl, rfl, h2, by rw [reps_len h3]; exact h.1, P.set R h.2 ha (reps_append h3 ⟨u, [], rfl, ry, rfl⟩) rfl⟩
    · exact h.elim
  · exact h.elim
theorem pop_ok (R : RelS X.K φ ι H S) (rx : rep X.K φ ι H x v) (h : popW x S k) (P : Post X.K φ ι H k Q) : MtB X "list.pop" v [] H Q := by
  unfold popW at h
  split at h
  · obtain ⟨a, ha, rfl⟩ := rx
    split at h
    · rename_i e
      obtain ⟨b, ws, h1, h2, h3⟩ := R.cell _ _ e
      rw [ha] at h1
      cases h1
      split at h
      · rename_i e2
        obtain ⟨w, e3, rw_⟩ := reps_get h3 e2
        exact ⟨_, mt_pop, a, ws, w, rfl, rfl, h2, by rw [reps_len h3]; exact e3, P.set R h ha (reps_dropLast h3) rw_⟩
      · exact h.elim
    · exact h.elim
  · exact h.elim
theorem popAt_ok {d : D} (R : RelS X.K φ ι H S) (rx : rep X.K φ ι H x v) (ry : rep X.K φ ι H d u) (h : popAtW x d S k) (P : Post X.K φ ι H k Q) : MtB X "list.pop" v [u] H Q := by
  unfold popAtW at h
  split at h
  · obtain ⟨a, ha, rfl⟩ := rx
    obtain rfl : u = _ := ry
    split at h
    · rename_i e
      obtain ⟨b, ws, h1, h2, h3⟩ := R.cell _ _ e
      rw [ha] at h1
      cases h1
      split at h
      · rename_i e1
        split at h
        · rename_i e2
          obtain ⟨w, e3, rw_⟩ := reps_get h3 e2
          exact ⟨_, mt_popAt, a, ws, _, _, w, rfl, rfl, h2, h.1.1, h.1.2, by rw [reps_len h3]; exact e1, e3, P.set R h.2 ha (reps_erase _ h3) rw_⟩
        · exact h.elim
      · exact h.elim
    · exact h.elim
  · exact h.elim
theorem index_rep {xs : List D} {vs : List V} {d : D} {j : Nat} (rs : reps X.K φ ι H xs vs) (ru : rep X.K φ ι H d u) (f1 : flatD d = true) (f2 : xs.all flatD = true) (hj : xs.findIdx? (fun z => eqD z d) = some j) :
    ∃ z, vs[j]? = some z ∧ eqV z u = true ∧ ∀ (m : Nat) (z' : V), m < j → vs[m]? = some z' → eqV z' u = false := by
  obtain ⟨hjl, hz, hno⟩ := List.findIdx?_eq_some_iff_getElem.mp hj
  obtain ⟨w, hw, rw_⟩ := reps_get rs (List.getElem?_eq_getElem hjl)
  refine ⟨w, hw, ?_, fun m z' hm hz' => ?_⟩
  · rw [eqV_rep rw_ (List.all_eq_true.mp f2 _ (List.getElem_mem hjl)) ru f1]
    exact hz
  · have hml : m < xs.length := by omega
    obtain ⟨w2, hw2, rw2⟩ := reps_get rs (List.getElem?_eq_getElem hml)
    rw [hw2] at hz'
    cases hz'
    rw [eqV_rep rw2 (List.all_eq_true.mp f2 _ (List.getElem_mem hml)) ru f1]
    have := hno m hm
    simpa using this
theorem indexL_ok {d : D} (R : RelS X.K φ ι H S) (rx : rep X.K φ ι H x v) (ry : rep X.K φ ι H d u) (h : indexW (listOf S x) d S k) (P : Post X.K φ ι H k Q) : MtB X "list.index" v [u] H Q := by
  unfold indexW at h
  split at h
  · rename_i xs e
    obtain ⟨f1, f2, h⟩ := h
    split at h
    · rename_i j hj
      obtain ⟨a, vs, rfl, hs, rs⟩ := list_of R rx e
      obtain ⟨z, h1, h2, h3⟩ := index_rep rs ry f1 f2 hj
      exact ⟨_, mt_index, a, vs, u, j, z, rfl, rfl, hs, flat_rep ry f1, flats_rep rs f2, h1, h2, h3, P.here R h rfl⟩
    · exact h.elim
  · exact h.elim
theorem join_ok {d : D} (R : RelS X.K φ ι H S) (rx : rep X.K φ ι H x v) (ry : rep X.K φ ι H d u) (h : joinW x d S k) (P : Post X.K φ ι H k Q) : ∃ a p ys, v = V.str a ∧ [u] = [V.ref p] ∧ (SqL X.K H p (ys.map V.str) ∨ SqT X.K H p (ys.map V.str)) ∧ (ys.map (fun x => Str.length x)).sum + ys.length * a.length ≤ 16777216 ∧ Q (V.str (Txt.join a ys)) H := by
  unfold joinW at h
  split at h
  · obtain rfl : v = _ := rx
    split at h
    · rename_i e
      obtain ⟨ds, e1, e2⟩ := Option.bind_eq_some_iff.mp e
      obtain ⟨a, ws, rfl, q, r⟩ := seq_of R ry e1
      rw [strs_of r e2] at q
      exact ⟨_, a, _, rfl, rfl, q, h.1, P.here R h.2 rfl⟩
    · exact h.elim
  · exact h.elim
end
end Ov
-- OvE
namespace Ov
open PySem PySem.Spec PyProof.Rows L2

/-! ### a private list -/
section
variable {K : PySem.W.Frag} {φ ι : List Addr} {H : Hp} {S : Sto} {D0 : Addr} {o : HO}
theorem Rd.priv {a : Addr} {u : HO} (h : Rd H a u) (n : a ≠ D0) : Rd (upd H D0 o) a u := by
  rcases h with h | ⟨p, h⟩
  · exact .inl (by rw [upd_ne n]; exact h)
  · exact .inr ⟨p, by rw [upd_ne n]; exact h⟩
mutual
theorem rep_priv (hD : D0 ∈ φ) : ∀ (d : D) (v : V), rep K φ ι H d v → rep K φ ι (upd H D0 o) d v
  | .non, _, h => h
  | .bl _, _, h => h
  | .int _, _, h => h
  | .str _, _, h => h
  | .tup ds, v, h => by
    obtain ⟨a, xs, r, (⟨f, n1, n2⟩ | f), q⟩ := h
    · exact ⟨a, xs, r, .inl ⟨Rd.priv f fun e => n2 (e ▸ hD), n1, n2⟩, reps_priv hD ds xs q⟩
    · exact ⟨a, xs, r, .inr f, reps_priv hD ds xs q⟩
  | .ro ds, v, h => by
    obtain ⟨a, xs, r, (⟨f, n1, n2⟩ | f), q⟩ := h
    · exact ⟨a, xs, r, .inl ⟨Rd.priv f fun e => n2 (e ▸ hD), n1, n2⟩, reps_priv hD ds xs q⟩
    · exact ⟨a, xs, r, .inr f, reps_priv hD ds xs q⟩
  | .ptr n, v, h => h
  | .dic ks ds, v, h => by
    obtain ⟨a, xs, r, ⟨f, n1, n2⟩, q⟩ := h
    exact ⟨a, xs, r, ⟨Rd.priv f fun e => n2 (e ▸ hD), n1, n2⟩, reps_priv hD ds xs q⟩
  | .rng lo hi, v, h => by
    obtain ⟨a, r, ⟨f, n1, n2⟩, q⟩ := h
    exact ⟨a, r, ⟨by rw [upd_ne (show a ≠ D0 from fun e => n2 (by rw [e]; exact hD))]; exact f, n1, n2⟩, q⟩
theorem reps_priv (hD : D0 ∈ φ) : ∀ (ds : List D) (vs : List V), reps K φ ι H ds vs → reps K φ ι (upd H D0 o) ds vs
  | [], _, h => h
  | d :: ds, vs, h => by
    obtain ⟨v, r, q, h1, h2⟩ := h
    exact ⟨v, r, q, rep_priv hD d v h1, reps_priv hD ds r h2⟩
end
theorem RelS.priv_upd (R : RelS K φ ι H S) (hD : D0 ∈ φ) : RelS K φ ι (upd H D0 o) S := ⟨R.len, R.nd, fun a ha => by
    obtain ⟨n, u, h⟩ := R.pv a ha
    by_cases e : a = D0
    · subst e
      exact ⟨n, o, upd_same⟩
    · exact ⟨n, u, by rw [upd_ne e]; exact h⟩, fun n xs h => by
    obtain ⟨a, vs, h1, h2, h3⟩ := R.cell n xs h
    have na : a ≠ D0 := fun e => (R.pv D0 hD).1 (e ▸ List.mem_of_getElem? h1)
    exact ⟨a, vs, h1, by rw [upd_ne na]; exact h2, reps_priv hD _ _ h3⟩⟩
mutual
theorem rep_pub : ∀ (d : D) (v : V), rep K (D0 :: φ) ι H d v → rep K φ ι H d v
  | .non, _, h => h
  | .bl _, _, h => h
  | .int _, _, h => h
  | .str _, _, h => h
  | .tup ds, v, h => by
    obtain ⟨a, xs, r, (⟨f, n1, n2⟩ | f), q⟩ := h
    · exact ⟨a, xs, r, .inl ⟨f, n1, fun z => n2 (List.mem_cons_of_mem _ z)⟩, reps_pub ds xs q⟩
    · exact ⟨a, xs, r, .inr f, reps_pub ds xs q⟩
  | .ro ds, v, h => by
    obtain ⟨a, xs, r, (⟨f, n1, n2⟩ | f), q⟩ := h
    · exact ⟨a, xs, r, .inl ⟨f, n1, fun z => n2 (List.mem_cons_of_mem _ z)⟩, reps_pub ds xs q⟩
    · exact ⟨a, xs, r, .inr f, reps_pub ds xs q⟩
  | .ptr n, v, h => h
  | .dic ks ds, v, h => by
    obtain ⟨a, xs, r, ⟨f, n1, n2⟩, q⟩ := h
    exact ⟨a, xs, r, ⟨f, n1, fun z => n2 (List.mem_cons_of_mem _ z)⟩, reps_pub ds xs q⟩
  | .rng lo hi, v, h => by
    obtain ⟨a, r, ⟨f, n1, n2⟩, q⟩ := h
    exact ⟨a, r, ⟨f, n1, fun z => n2 (List.mem_cons_of_mem _ z)⟩, q⟩
theorem reps_pub : ∀ (ds : List D) (vs : List V), reps K (D0 :: φ) ι H ds vs → reps K φ ι H ds vs
  | [], _, h => h
  | d :: ds, vs, h => by
    obtain ⟨v, r, q, h1, h2⟩ := h
    exact ⟨v, r, q, rep_pub d v h1, reps_pub ds r h2⟩
end
theorem RelS.pub (R : RelS K (D0 :: φ) ι H S) : RelS K φ ι H S := ⟨R.len, R.nd, fun a ha => R.pv a (List.mem_cons_of_mem _ ha), fun n xs h => by
    obtain ⟨a, vs, h1, h2, h3⟩ := R.cell n xs h
    exact ⟨a, vs, h1, h2, reps_pub _ _ h3⟩⟩
theorem Rd.some {a : Addr} {u : HO} (h : Rd H a u) : ∃ p, H a = some p := by
  rcases h with h | ⟨p, h⟩
  · exact ⟨_, h⟩
  · exact ⟨_, h⟩
mutual
theorem rep_hide (hD : H D0 = none) : ∀ (d : D) (v : V), rep K φ ι H d v → rep K (D0 :: φ) ι (upd H D0 o) d v
  | .non, _, h => h
  | .bl _, _, h => h
  | .int _, _, h => h
  | .str _, _, h => h
  | .tup ds, v, h => by
    obtain ⟨a, xs, r, (⟨f, n1, n2⟩ | f), q⟩ := h
    · obtain ⟨p, e⟩ := Rd.some f
      have na := ne_of_none e hD
      exact ⟨a, xs, r, .inl ⟨Rd.priv f na, n1, by simp [na, n2]⟩, reps_hide hD ds xs q⟩
    · exact ⟨a, xs, r, .inr f, reps_hide hD ds xs q⟩
  | .ro ds, v, h => by
    obtain ⟨a, xs, r, (⟨f, n1, n2⟩ | f), q⟩ := h
    · obtain ⟨p, e⟩ := Rd.some f
      have na := ne_of_none e hD
      exact ⟨a, xs, r, .inl ⟨Rd.priv f na, n1, by simp [na, n2]⟩, reps_hide hD ds xs q⟩
    · exact ⟨a, xs, r, .inr f, reps_hide hD ds xs q⟩
  | .ptr n, v, h => h
  | .dic ks ds, v, h => by
    obtain ⟨a, xs, r, ⟨f, n1, n2⟩, q⟩ := h
    obtain ⟨p, e⟩ := Rd.some f
    have na := ne_of_none e hD
    exact ⟨a, xs, r, ⟨Rd.priv f na, n1, by simp [na, n2]⟩, reps_hide hD ds xs q⟩
  | .rng lo hi, v, h => by
    obtain ⟨a, r, ⟨f, n1, n2⟩, q⟩ := h
    have na := ne_of_none f hD
    exact ⟨a, r, ⟨by rw [upd_ne na]; exact f, n1, by simp [na, n2]⟩, q⟩
theorem reps_hide (hD : H D0 = none) : ∀ (ds : List D) (vs : List V), reps K φ ι H ds vs → reps K (D0 :: φ) ι (upd H D0 o) ds vs
  | [], _, h => h
  | d :: ds, vs, h => by
    obtain ⟨v, r, q, h1, h2⟩ := h
    exact ⟨v, r, q, rep_hide hD d v h1, reps_hide hD ds r h2⟩
end
theorem RelS.hide (R : RelS K φ ι H S) (hD : H D0 = none) : RelS K (D0 :: φ) ι (upd H D0 o) S := ⟨R.len, R.nd, fun a ha => by
    rcases List.mem_cons.mp ha with e | ha
    · rw [e]
      exact ⟨R.notMem hD, o, upd_same⟩
    · obtain ⟨n, u, h⟩ := R.pv a ha
      exact ⟨n, u, by rw [upd_ne (ne_of_none h hD)]; exact h⟩, fun n xs h => by
    obtain ⟨a, vs, h1, h2, h3⟩ := R.cell n xs h
    exact ⟨a, vs, h1, by rw [upd_ne (ne_of_none h2 hD)]; exact h2, reps_hide hD _ _ h3⟩⟩
theorem RelE.hide {σd : DEnv} {σ : L2.St} (R : RelE K φ ι H σd σ) (hD : H D0 = none) : RelE K (D0 :: φ) ι (upd H D0 o) σd σ := ⟨R.len, fun i d h => by
  obtain ⟨v, h1, h2⟩ := R.get i d h
  exact ⟨v, h1, rep_hide hD _ _ h2⟩⟩
theorem RelE.priv_upd {σd : DEnv} {σ : L2.St} (R : RelE K φ ι H σd σ) (hD : D0 ∈ φ) : RelE K φ ι (upd H D0 o) σd σ := ⟨R.len, fun i d h => by
  obtain ⟨v, h1, h2⟩ := R.get i d h
  exact ⟨v, h1, rep_priv hD _ _ h2⟩⟩
end

/-! ### readings by data -/
section
variable (K : PySem.W.Frag)
def tD (w : DEnv → Sto → WK → Prop) : TE := fun σ H Q => ∃ φ ι σd S k, RelS K φ ι H S ∧ RelE K φ ι H σd σ ∧ w σd S k ∧ Post K φ ι H k Q
def tDs (w : DEnv → Sto → (List D → Sto → Prop) → Prop) : TA := fun σ H Q => ∃ φ ι σd S k, RelS K φ ι H S ∧ RelE K φ ι H σd σ ∧ w σd S k ∧
  ∀ ds S' ι' H' vs, k ds S' → Ext ι H ι' H' → RelS K φ ι' H' S' → reps K φ ι' H' ds vs → Q vs H'
def tDT (w : DEnv → Sto → (Bool → Sto → Prop) → Prop) : TT := fun σ H Q => ∃ φ ι σd S k, RelS K φ ι H S ∧ RelE K φ ι H σd σ ∧ w σd S k ∧
  ∀ b S' ι' H', k b S' → Ext ι H ι' H' → RelS K φ ι' H' S' → Q b H'
def tDO (w : DEnv → Sto → (Option Int → Sto → Prop) → Prop) : TO := fun σ H Q => ∃ φ ι σd S k, RelS K φ ι H S ∧ RelE K φ ι H σd σ ∧ w σd S k ∧
  ∀ b S' ι' H', k b S' → Ext ι H ι' H' → RelS K φ ι' H' S' → Q b H'
/-- vs: slots that the target's own lie among -/
def tDG (vs : List Nat) (w : D → DEnv → (DEnv → Prop) → Prop) : TG := fun v σ H Q => ∃ φ ι σd d k, RelE K φ ι H σd σ ∧ rep K φ ι H d v ∧ w d σd k ∧ ∀ σd' σ', k σd' → RelE K φ ι H σd' σ' → wipe σ' vs = wipe σ vs → Q σ' H
def tDGs (vs : List Nat) (w : List D → DEnv → (DEnv → Prop) → Prop) : TGs := fun us σ H Q => ∃ φ ι σd ds k, RelE K φ ι H σd σ ∧ reps K φ ι H ds us ∧ w ds σd k ∧ ∀ σd' σ', k σd' → RelE K φ ι H σd' σ' → wipe σ' vs = wipe σ vs → Q σ' H
/-- what goes over what -/
def JIs (φ : List Addr) (J : It) (ι : List Addr) (H : Hp) (xs : List D) (src : Option Nat) : Prop :=
  (∃ a vs, J = Itl K a ∧ FixL K φ ι H a vs ∧ reps K φ ι H xs vs ∧ src = none) ∨
  (∃ a vs, J = Itt K a ∧ FixT K φ ι H a vs ∧ reps K φ ι H xs vs ∧ src = none) ∨
  (∃ lo n, J = Itr lo n ∧ xs = rangeD lo n ∧ src = none) ∨ (∃ lo n, J = Itc lo (-1) n ∧ xs = downD lo n ∧ src = none) ∨ (∃ m a, J = Itl K a ∧ ι[m]? = some a ∧ src = some m) ∨
  (∃ a vs ys, J = Ite K a ∧ FixL K φ ι H a vs ∧ reps K φ ι H ys vs ∧ xs = enumD ys ∧ src = none) ∨ (∃ a vs ys, J = IteT K a ∧ FixT K φ ι H a vs ∧ reps K φ ι H ys vs ∧ xs = enumD ys ∧ src = none)
def tDI (w : DEnv → Sto → (List D → Option Nat → Sto → Prop) → Prop) : TI := fun σ H R => ∃ φ ι σd S k, RelS K φ ι H S ∧ RelE K φ ι H σd σ ∧ w σd S k ∧
  ∀ xs src S' ι' H' J, k xs src S' → Ext ι H ι' H' → RelS K φ ι' H' S' → JIs K φ J ι' H' xs src → R J H'
end
def wI (C : Calls) (rng : IK) (src : List PX) : DEnv → Sto → (List D → Option Nat → Sto → Prop) → Prop := fun σ S k => wEs C src σ S fun ds S1 => itW rng ds S1 fun xs sr => k xs sr S1

section
variable {X : Cx} {e : Expr} {t t' : TE}
theorem PE.imp (h : PE X e t) (i : ∀ σ H Q, t' σ H Q → t σ H Q) : PE X e t' := ⟨fun pins s σ H Q I q => h.run pins s σ H Q I (i σ H Q q)⟩
theorem PT.imp {t t' : TT} (h : PT X e t) (i : ∀ σ H Q, t' σ H Q → t σ H Q) : PT X e t' := ⟨fun pins s σ H Q I q => h.run pins s σ H Q I (i σ H Q q)⟩
theorem PW.imp {t t' : TT} (h : PW X e t) (i : ∀ σ H Q, t' σ H Q → t σ H Q) : PW X e t' := ⟨fun wh pins s σ H Q I q => h.run wh pins s σ H Q I (i σ H Q q)⟩
theorem PA.imp {es : List Expr} {t t' : TA} (h : PA X es t) (i : ∀ σ H Q, t' σ H Q → t σ H Q) : PA X es t' := ⟨fun pos pins s σ H Q I q => h.run pos pins s σ H Q I (i σ H Q q)⟩
theorem PO.imp {e : Option Expr} {t t' : TO} (h : PO X e t) (i : ∀ σ H Q, t' σ H Q → t σ H Q) : PO X e t' := ⟨fun pins s σ H Q I q => h.run pins s σ H Q I (i σ H Q q)⟩
theorem PG.imp {t t' : TG} (h : PG X e t) (i : ∀ v σ H Q, t' v σ H Q → t v σ H Q) : PG X e t' := ⟨fun pins s σ H v u Q I r q => h.run pins s σ H v u Q I r (i v σ H Q q)⟩
theorem PGs.imp {es : List Expr} {t t' : TGs} (h : PGs X es t) (i : ∀ v σ H Q, t' v σ H Q → t v σ H Q) : PGs X es t' := ⟨fun pins s σ H v u Q I r q => h.run pins s σ H v u Q I r (i v σ H Q q)⟩
theorem PI.imp {tg : Expr} {t t' : TI} (h : PI X tg e t) (i : ∀ σ H Q, t' σ H Q → t σ H Q) : PI X tg e t' := ⟨fun pins s σ H Q I q => h.run pins s σ H Q I (i σ H Q q)⟩
theorem PS.imp {st : Stmt} {t t' : TS} (h : PS X st t) (i : ∀ E σ H, t' E σ H → t E σ H) : PS X st t' := ⟨fun pins s σ H E I q => h.run pins s σ H E I (i E σ H q)⟩
theorem PSs.imp {st : List Stmt} {t t' : TS} (h : PSs X st t) (i : ∀ E σ H, t' E σ H → t E σ H) : PSs X st t' := ⟨fun pins s σ H E I q => h.run pins s σ H E I (i E σ H q)⟩
/-- a wish that can't be -/
theorem PE.no (h : ∀ σ H Q, ¬ t σ H Q) : PE X e t := ⟨fun pins s σ H Q I q => (h σ H Q q).elim⟩
theorem PT.no {t : TT} (h : ∀ σ H Q, ¬ t σ H Q) : PT X e t := ⟨fun pins s σ H Q I q => (h σ H Q q).elim⟩
end

/-! ### the texts -/
def isG (sc : Scope) (x : Str) : Bool := decide (sc.names.lookup x = some .globalImplicit) && !(x == ("__debug__" : Str))
def visB (sc : Scope) (x : Str) : Bool := match sc.names.lookup x with
  | some .local => true
  | some .cell => true
  | some .free => true
  | _ => false
def fnB (fnc : Option Scope) (x : Str) : Bool := match fnc with
  | none => true
  | some s => s.names.lookup x == some .cell
def locB (fnc : Option Scope) (sc : Scope) (x : Str) : Bool := match sc.names.lookup x with
  | some .local => true
  | some .cell => fnB fnc x
  | _ => false
def plainA : Expr → Bool
  | .Starred .. => false
  | _ => true
def plainT : Expr → Bool
  | .UnaryOp .. => false
  | .BoolOp .. => false
  | .IfExp .. => false
  | .Compare .. => false
  | _ => true
def plainO : Expr → Bool
  | .Call .. => false
  | _ => true
def plainS : Expr → Bool
  | .Slice .. => false
  | _ => true
def plainI : Expr → Bool
  | .Set .. => false
  | _ => true

mutual
def okP (N : List Str) (fnc : Option Scope) (sc : Scope) (vs : List Nat) : PP → Expr → Bool
  | .nm i, e => match e with
    | .Name x _ => decide (N[i]? = some x) && locB fnc sc x && vs.contains i
    | _ => false
  | .tp ps, e => match e with
    | .Tuple es _ _ => okPs N fnc sc vs ps es
    | _ => false
def okPs (N : List Str) (fnc : Option Scope) (sc : Scope) (vs : List Nat) : List PP → List Expr → Bool
  | [], es => match es with
    | [] => true
    | _ => false
  | p :: ps, es => match es with
    | [] => false
    | e :: es => plainA e && okP N fnc sc vs p e && okPs N fnc sc vs ps es
end

/-- a built-in's arguments -/
def argsChk (b : BI) (f : List Expr → Bool) (sc : Scope) (e0 : Expr) (xs : List Expr) : Bool :=
  match b with
  | .isI t => match xs with
    | [.Name y _] => decide (y = Str.ofString t) && isG sc y && decide (t ∈ ["int", "bool", "str", "tuple", "list"]) && f [e0]
    | _ => false
  | _ => f (e0 :: xs)
def mthLen (m : Mth) (xs : List Expr) : Bool :=
  match m with
  | .append => xs.length == 1
  | .pop => decide (xs.length ≤ 1)
  | .join => xs.length == 1
  | .count => xs.length == 1
  | .indexL => xs.length == 1
/-- what is gone over: range(..), or one thing -/
def iterChk (f : List Expr → Bool) (sc : Scope) (rng : IK) (one : Bool) (iter : Expr) : Bool :=
  match rng with
  | .rg => match iter with
    | .Call (.Name x _) (e0 :: xs) [] _ => decide (x = Str.ofString "range") && isG sc x && f (e0 :: xs) && decide (xs.length ≤ 2)
    | _ => false
  | .sq => one && f [iter]
  | .en => match iter with
    | .Call (.Name x _) [e0] [] _ => one && decide (x = Str.ofString "enumerate") && isG sc x && f [e0]
    | _ => false
/-- enumerate's target is a tuple of names -/
def enTp (rng : IK) (p : PP) : Bool :=
  match rng, p with
  | .en, .nm _ => false
  | _, _ => true
/-- a constant of the module: told as an entry with more parameters than names -/
def isC (d : DDef) : Bool := decide (d.names.length < d.np)
def constIn (T : List DDef) (x : Str) (i : Int) : Bool := T.any fun d => isC d && decide (d.name = x) && (match d.body with
  | [.ret (.int j)] => decide (i = j)
  | _ => false)
def callOk (T : List DDef) (f : Nat) : Bool := match T[f]? with
  | some d => !isC d
  | none => false
/-- a call by name of one thing -/
def unArg : Expr → Option (Str × Expr)
  | .Call (.Name y _) [e] [] _ => some (y, e)
  | _ => none
theorem unArg_eq {e0 e : Expr} {y : Str} (h : unArg e0 = some (y, e)) : ∃ p q, e0 = .Call (.Name y p) [e] [] q := by
  unfold unArg at h
  split at h
  · cases h
    exact ⟨_, _, rfl⟩
  · cases h
/-- the keys of a written dict -/
def keysOk : List Key → List (Option Expr) → Bool
  | [], es => es.isEmpty
  | .inr s :: ks, some (.Constant (.str t) _ _) :: es => decide (s = t) && keysOk ks es
  | .inl i :: ks, some (.Constant (.int j) _ _) :: es => i == j && keysOk ks es
  | _, _ => false
/-- min(e, default=None) -/
def minArg : Expr → Option (Str × Expr)
  | .Call (.Name y _) [e] [⟨some d, .Constant .none _ _, _⟩] _ => if d = "default" then some (y, e) else none
  | _ => none
theorem minArg_eq {e0 e : Expr} {y : Str} (h : minArg e0 = some (y, e)) : ∃ p q a b c, e0 = .Call (.Name y p) [e] [⟨some (Str.ofString "default"), .Constant .none a b, c⟩] q := by
  unfold minArg at h
  split at h
  · split at h
    · rename_i hd
      cases h
      subst hd
      exact ⟨_, _, _, _, _, rfl⟩
    · cases h
  · cases h
/-- the name of a def -/
def nameD (T : List DDef) (f : Nat) : Str := (T[f]?.map (·.name)).getD Str.empty
mutual
def okE (T : List DDef) (N : List Str) (fnc : Option Scope) (sc : Scope) : PX → Expr → Bool
  | .var i, e => match e with
    | .Name x _ => decide (N[i]? = some x) && visB sc x && !(x == ("__debug__" : Str)) && !(x == ("__classdict__" : Str))
    | _ => false
  | .con x i, e => match e with
    | .Name y _ => decide (x = y) && isG sc x && constIn T x i && !(x == ("__name__" : Str))
    | _ => false
  | .non, e => match e with
    | .Constant .none _ _ => true
    | _ => false
  | .bl b, e => match e with
    | .Constant (.bool c) _ _ => b == c
    | _ => false
  | .int i, e => match e with
    | .Constant (.int j) _ _ => i == j
    | _ => false
  | .str s, e => match e with
    | .Constant (.str t) _ _ => decide (s = t)
    | _ => false
  | .tup es, e => match e with
    | .Tuple xs _ _ => okEs T N fnc sc es xs && decide (es.length ≤ 1000)
    | _ => false
  | .ls es, e => match e with
    | .List xs _ => okEs T N fnc sc es xs && decide (es.length ≤ 1000)
    | _ => false
  | .mls es, e => match e with
    | .List xs _ => okEs T N fnc sc es xs && decide (es.length ≤ 1000)
    | _ => false
  | .bin op a b, e => match e with
    | .BinOp ea o eb _ => decide (opOf op = o) && okE T N fnc sc a ea && okE T N fnc sc b eb
    | _ => false
  | .neg a, e => match e with
    | .UnaryOp .USub ea _ => okE T N fnc sc a ea
    | _ => false
  | .notv a, e => match e with
    | .UnaryOp .Not ea _ => okE T N fnc sc a ea
    | _ => false
  | .cmp op a b, e => match e with
    | .Compare ea [o] [eb] _ => decide (cpOf op = o) && okE T N fnc sc a ea && okE T N fnc sc b eb && !(behindInMarks o eb)
    | _ => false
  | .chain op op' a b c, e => match e with
    | .Compare ea [o, o'] [eb, ec] _ => decide (cpOf op = o) && decide (cpOf op' = o') && okE T N fnc sc a ea && okE T N fnc sc b eb && okE T N fnc sc c ec && !(lastMarks [o, o'] [eb, ec])
    | _ => false
  | .andv a r, e => match e with
    | .BoolOp .And (ea :: eb :: rest) pos => okE T N fnc sc a ea && okE T N fnc sc r (.BoolOp .And (eb :: rest) pos)
    | _ => false
  | .orv a r, e => match e with
    | .BoolOp .Or (ea :: eb :: rest) pos => okE T N fnc sc a ea && okE T N fnc sc r (.BoolOp .Or (eb :: rest) pos)
    | _ => false
  | .one a, e => match e with
    | .BoolOp _ [ea] _ => okE T N fnc sc a ea
    | _ => false
  | .tru a, e => okE T N fnc sc a e && plainT e
  | .ite c a b, e => match e with
    | .IfExp ec ea eb _ => okE T N fnc sc c ec && okE T N fnc sc a ea && okE T N fnc sc b eb
    | _ => false
  | .call f es, e => match e with
    | .Call (.Name x _) (e0 :: xs) [] _ => callOk T f && decide (x = nameD T f) && isG sc x && okEs T N fnc sc es (e0 :: xs)
    | _ => false
  | .bi b es, e => match e with
    | .Call (.Name x _) (e0 :: xs) [] _ => decide (x = Str.ofString (biN b)) && isG sc x && argsChk b (okEs T N fnc sc es) sc e0 xs
    | _ => false
  | .minN a, e => match minArg e with
    | some (y, e1) => decide (y = "min") && isG sc y && plainA e1 && okE T N fnc sc a e1
    | none => false
  | .dct ks es, e => match e with
    | .Dict keys xs _ => keysOk ks keys && okEs T N fnc sc es xs && decide (ks.length = es.length) && decide (ks.length ≤ 15) && !ks.isEmpty && decide ks.Nodup
    | _ => false
  | .meth m o es, e => match e with
    | .Call (.Attribute eo nm apos) xs [] cpos => decide (nm = Str.ofString (mtN m)) && okE T N fnc sc o eo && plainO eo && okEs T N fnc sc es xs && (apos.endLine == cpos.line) && mthLen m xs
    | _ => false
  | .lrg _ a, e => match e with
    | .Call (.Name x _) [e0] [] _ => match unArg e0 with
      | some (y, e1) => decide (x = "list") && decide (y = "range") && isG sc x && isG sc y && plainA e1 && okE T N fnc sc a e1
      | none => false
    | _ => false
  | .idx a i, e => match e with
    | .Subscript ea ei _ => okE T N fnc sc a ea && okE T N fnc sc i ei && plainS ei
    | _ => false
  | .slc a lo hi, e => match e with
    | .Subscript ea (.Slice elo ehi none _) _ => okE T N fnc sc a ea && okO T N fnc sc lo elo && okO T N fnc sc hi ehi
    | _ => false
  | .comp mu elt p own rng src cond, e => match e with
    | .ListComp eelt [⟨tg, iter, ifs, 0⟩] scope _ => blkC N sc scope own && okP N (some scope) (relS scope sc) (own.map (·.2)) p tg && okE T N (some scope) (relS scope sc) elt eelt && plainI iter &&
      iterChk (okEs T N fnc sc src) sc rng (src.length == 1) iter && enTp rng p && okC T N (some scope) (relS scope sc) cond ifs
    | _ => false
termination_by structural p => p
def okEs (T : List DDef) (N : List Str) (fnc : Option Scope) (sc : Scope) : List PX → List Expr → Bool
  | [], es => match es with
    | [] => true
    | _ => false
  | p :: ps, es => match es with
    | [] => false
    | e :: es => plainA e && okE T N fnc sc p e && okEs T N fnc sc ps es
termination_by structural p => p
def okO (T : List DDef) (N : List Str) (fnc : Option Scope) (sc : Scope) : Option PX → Option Expr → Bool
  | none, e => match e with
    | none => true
    | _ => false
  | some p, e => match e with
    | none => false
    | some e => okE T N fnc sc p e
termination_by structural p => p
def okC (T : List DDef) (N : List Str) (fnc : Option Scope) (sc : Scope) : Option PX → List Expr → Bool
  | none, ifs => ifs.isEmpty
  | some p, ifs => match ifs with
    | [e] => okE T N fnc sc p e
    | _ => false
termination_by structural p => p
end
end Ov
-- OvF
namespace Ov
open PySem PySem.Spec PyProof.Rows L2

/-- a def keeps what its data say -/
def spD (K : PySem.W.Frag) (c : List D → Sto → WK → Prop) : Sp := fun vs H Q _ => ∃ φ ι S ds k, RelS K φ ι H S ∧ reps K φ ι H ds vs ∧ c ds S k ∧ Post K φ ι H k Q
structure FnI (T : List DDef) (n : Nat) (X : Cx) (f : Nat) : Prop where
  ex : ∃ (fa : Addr) (fd : FuncData) (ps : List Str), X.mg (nameD T f) = some (.ref fa) ∧ PySem.W.keepIn X.K (.ref fa) = true ∧ Binds X.K fd ps [] ∧
    FnOk X.prog X.w X.K X.mg X.base CX0 n fa fd ps (spD X.K (callW T n f))
structure XOk (T : List DDef) (n : Nat) (fnc : Option Scope) (X : Cx) : Prop where
  calm : X.calm = true
  nd : X.N.Nodup
  room : Room n X.A
  fn : ∀ x, fnB fnc x = true → X.fn x = true
  fns : ∀ f, callOk T f = true → FnI T n X f
  con : ∀ x i, constIn T x i = true → ∃ t, X.mg x = some (.int i t)
  enu : X.mg (Str.ofString "enumerate") = none
  blt : ∀ b : BI, X.mg (Str.ofString (biN b)) = none
  rng : X.mg (Str.ofString "range") = none

section
variable {K : PySem.W.Frag} {σ : L2.St} {H : Hp} {Q : VK}
theorem tD_op {r : R2} {wa wb : DEnv → Sto → WK → Prop} {g : D → D → Sto → WK → Prop}
    (hyp : ∀ {φ ι H S k Q x y v u}, RelS K φ ι H S → rep K φ ι H x v → rep K φ ι H y u → g x y S k → Post K φ ι H k Q → r v u H Q)
    (h : tD K (fun σ S k => wa σ S fun x S1 => wb σ S1 fun y S2 => g x y S2 k) σ H Q) : tOp r (tD K wa) (tD K wb) σ H Q := by
  obtain ⟨φ, ι, σd, S, k, R, RE, h, P⟩ := h
  refine ⟨φ, ι, σd, S, _, R, RE, h, fun x S1 ι1 H1 v hx E1 R1 rx => ⟨φ, ι1, σd, S1, _, R1, RE.mono E1, hx, fun y S2 ι2 H2 u hy E2 R2 ry => ?_⟩⟩
  exact hyp R2 (rep_mono E2 _ _ rx) ry hy (P.step (E1.trans E2))
theorem tD_un {r : V → Hp → VK → Prop} {wa : DEnv → Sto → WK → Prop} {g : D → Sto → WK → Prop}
    (hyp : ∀ {φ ι H S k Q x v}, RelS K φ ι H S → rep K φ ι H x v → g x S k → Post K φ ι H k Q → r v H Q)
    (h : tD K (fun σ S k => wa σ S fun x S1 => g x S1 k) σ H Q) : tUn r (tD K wa) σ H Q := by
  obtain ⟨φ, ι, σd, S, k, R, RE, h, P⟩ := h
  exact ⟨φ, ι, σd, S, _, R, RE, h, fun x S1 ι1 H1 v hx E1 R1 rx => hyp R1 rx hx (P.step E1)⟩
theorem tD_args {r : List V → Hp → VK → Prop} {wa : DEnv → Sto → (List D → Sto → Prop) → Prop} {g : List D → Sto → WK → Prop}
    (hyp : ∀ {φ ι H S k Q xs vs}, RelS K φ ι H S → reps K φ ι H xs vs → g xs S k → Post K φ ι H k Q → r vs H Q)
    (h : tD K (fun σ S k => wa σ S fun x S1 => g x S1 k) σ H Q) : tDs K wa σ H fun vs H1 => r vs H1 Q := by
  obtain ⟨φ, ι, σd, S, k, R, RE, h, P⟩ := h
  exact ⟨φ, ι, σd, S, _, R, RE, h, fun x S1 ι1 H1 v hx E1 R1 rx => hyp R1 rx hx (P.step E1)⟩
theorem tD_const {d : D} {v : V} (e : ∀ {φ ι H}, rep K φ ι H d v) (h : tD K (fun _ S k => k d S) σ H Q) : tC v σ H Q := by
  obtain ⟨φ, ι, σd, S, k, R, RE, h, P⟩ := h
  exact P.here R h e
end

/-! ### names -/
theorem vis_of {sc : Scope} {x : Str} (h : visB sc x = true) : Vis sc x := by
  unfold visB at h
  split at h
  · exact .inl (by assumption)
  · exact .inr (.inl (by assumption))
  · exact .inr (.inr (by assumption))
  · cases h
theorem gl_of {X : Cx} {x : Str} (h : isG X.env.scope x = true) : Gl X x ∧ (x == ("__debug__" : Str)) = false := by
  unfold isG at h
  simp only [Bool.and_eq_true, decide_eq_true_eq, Bool.not_eq_true'] at h
  exact ⟨h.1, h.2⟩
theorem loc_of {X : Cx} {fnc : Option Scope} {x : Str} (hf : ∀ x, fnB fnc x = true → X.fn x = true) (h : locB fnc X.env.scope x = true) : L2.Loc X.env.scope x ∧ (X.fn x = true ∨ X.env.scope.names.lookup x = some .local) := by
  unfold locB at h
  split at h
  · exact ⟨.inl (by assumption), .inr (by assumption)⟩
  · exact ⟨.inr (by assumption), .inl (hf _ h)⟩
  · cases h

/-! ### targets -/
def slotsIn (vs : List Nat) (i : Nat) : Prop := i ∈ vs
theorem wipe_out {x : Option V} {i : Nat} : ∀ {vs : List Nat} {σ : L2.St}, i ∉ vs → wipe (σ.set i x) vs = (wipe σ vs).set i x
  | [], _, _ => rfl
  | v :: vs, σ, h => by
    simp only [List.mem_cons, not_or] at h
    show (wipe (σ.set i x) vs).set v none = ((wipe σ vs).set v none).set i x
    rw [wipe_out h.2, List.set_comm _ _ h.1]
theorem wipe_in {x : Option V} {i : Nat} : ∀ {vs : List Nat} {σ : L2.St}, i ∈ vs → wipe (σ.set i x) vs = wipe σ vs
  | v :: vs, σ, h => by
    show (wipe (σ.set i x) vs).set v none = (wipe σ vs).set v none
    by_cases hi : i ∈ vs
    · rw [wipe_in hi]
    · have e : i = v := by
        rcases List.mem_cons.mp h with e | e
        · exact e
        · exact absurd e hi
      subst e
      rw [wipe_out hi, List.set_set]
theorem assign_len {env : PySem.Env} {N : List Str} {fnc : Option Scope} {sc : Scope} {vs : List Nat} : ∀ {ps : List PP} {es : List Expr}, okPs N fnc sc vs ps es = true → (assignEach es env).length = ps.length ∧ (assignEach es env).findIdx? (·.1) = none
  | [], [], _ => ⟨rfl, rfl⟩
  | [], _ :: _, h => by cases h
  | _ :: _, [], h => by cases h
  | p :: ps, e :: es, h => by
    have h : (plainA e && okP N fnc sc vs p e && okPs N fnc sc vs ps es) = true := h
    simp only [Bool.and_eq_true] at h
    obtain ⟨h1, h2⟩ := assign_len (env := env) h.2
    have hc : assignEach (e :: es) env = (false, assign e env) :: assignEach es env := by
      cases e <;> first
        | rfl
        | (have := h.1.1; cases this)
    rw [hc]
    refine ⟨by rw [List.length_cons, List.length_cons, h1], ?_⟩
    rw [List.findIdx?_cons, h2]
    rfl
mutual
theorem soundP {T : List DDef} {n : Nat} {fnc : Option Scope} {X : Cx} (xo : XOk T n fnc X) {vs : List Nat} : ∀ (p : PP) (e : Expr), okP X.N fnc X.env.scope vs p e = true → PG X e (tDG X.K vs (bindW p))
  | .nm i, e, h => by
    cases e with
    | Name x pos =>
      have h : (decide (X.N[i]? = some x) && locB fnc X.env.scope x && vs.contains i) = true := h
      simp only [Bool.and_eq_true, decide_eq_true_eq] at h
      obtain ⟨⟨h1, h2⟩, h3⟩ := h
      obtain ⟨h4, h5⟩ := loc_of xo.fn h2
      refine PG.imp (pg_name xo.nd h1 h4 h5) ?_
      rintro v σ H Q ⟨φ, ι, σd, d, k, RE, r, w, q⟩
      exact q _ _ w (RE.set r) (wipe_in (by simpa using h3))
    | _ => cases h
  | .tp ps, e, h => by
    cases e with
    | Tuple es kk pos =>
      have h : okPs X.N fnc X.env.scope vs ps es = true := h
      obtain ⟨h1, h2⟩ := assign_len (env := X.env) h
      refine PG.imp (pg_tup xo.calm (soundPs xo ps es h) h1 h2) ?_
      rintro v σ H Q ⟨φ, ι, σd, d, k, RE, r, w, q⟩
      cases d with
      | tup ds =>
        obtain ⟨w1, w2⟩ := (show ds.length = ps.length ∧ bindWs ps ds σd k from w)
        obtain ⟨a, xs, rfl, f, r⟩ := r
        exact ⟨a, xs, rfl, f.sq, by rw [reps_len r]; exact w1, φ, ι, σd, ds, k, RE, r, w2, q⟩
      | _ => exact (show False from w).elim
    | _ => cases h
theorem soundPs {T : List DDef} {n : Nat} {fnc : Option Scope} {X : Cx} (xo : XOk T n fnc X) {vs : List Nat} : ∀ (ps : List PP) (es : List Expr), okPs X.N fnc X.env.scope vs ps es = true → PGs X es (tDGs X.K vs (bindWs ps))
  | [], es, h => by
    cases es with
    | nil =>
      refine PGs.imp pgs_nil ?_
      rintro us σ H Q ⟨φ, ι, σd, ds, k, RE, r, w, q⟩
      cases ds with
      | nil =>
        obtain rfl : us = [] := r
        exact ⟨rfl, q _ _ w RE rfl⟩
      | cons _ _ => exact (show False from w).elim
    | cons _ _ => cases h
  | p :: ps, es, h => by
    cases es with
    | nil => cases h
    | cons e es =>
      have h : (plainA e && okP X.N fnc X.env.scope vs p e && okPs X.N fnc X.env.scope vs ps es) = true := h
      simp only [Bool.and_eq_true] at h
      have hs : (assignEach (e :: es) X.env).map (·.2) = assign e X.env :: (assignEach es X.env).map (·.2) := by
        cases e <;> first
          | rfl
          | (have := h.1.1; cases this)
      refine PGs.imp (pgs_cons (soundP xo p e h.1.2) (soundPs xo ps es h.2) hs) ?_
      rintro us σ H Q ⟨φ, ι, σd, ds, k, RE, r, w, q⟩
      cases ds with
      | nil => exact (show False from w).elim
      | cons d ds =>
        have w : bindW p d σd fun σ1 => bindWs ps ds σ1 k := w
        obtain ⟨v, us, rfl, r1, r2⟩ := r
        refine ⟨v, us, rfl, φ, ι, σd, d, _, RE, r1, w, fun σd1 σ1 w1 RE1 e1 => ?_⟩
        exact ⟨φ, ι, σd1, ds, k, RE1, r2, w1, fun σd2 σ2 w2 RE2 e2 => q _ _ w2 RE2 (e2.trans e1)⟩
end

/-! ### going over -/
section
variable {K : PySem.W.Frag} {φ ι ι' : List Addr} {H H' : Hp} {S : Sto} {J : It} {xs : List D} {src : Option Nat}
theorem JIs.mono (h : JIs K φ J ι H xs src) (E : Ext ι H ι' H') : JIs K φ J ι' H' xs src := by
  rcases h with ⟨a, vs, rfl, f, r, e⟩ | ⟨a, vs, rfl, f, r, e⟩ | h | h | ⟨m, a, rfl, h, e⟩ | ⟨a, vs, ys, rfl, f, r, e⟩ | ⟨a, vs, ys, rfl, f, r, e⟩
  · exact .inl ⟨a, vs, rfl, f.mono E, reps_mono E _ _ r, e⟩
  · exact .inr (.inl ⟨a, vs, rfl, f.mono E, reps_mono E _ _ r, e⟩)
  · exact .inr (.inr (.inl h))
  · exact .inr (.inr (.inr (.inl h)))
  · exact .inr (.inr (.inr (.inr (.inl ⟨m, a, rfl, E.at h, e⟩))))
  · exact .inr (.inr (.inr (.inr (.inr (.inl ⟨a, vs, ys, rfl, f.mono E, reps_mono E _ _ r, e⟩)))))
  · exact .inr (.inr (.inr (.inr (.inr (.inr ⟨a, vs, ys, rfl, f.mono E, reps_mono E _ _ r, e⟩)))))
theorem FixL.priv_upd {D0 a : Addr} {o : HO} {vs : List V} (f : FixL K φ ι H a vs) (hD : D0 ∈ φ) : FixL K φ ι (upd H D0 o) a vs := by
  rcases f with ⟨f, n1, n2⟩ | f
  · exact .inl ⟨Rd.priv f fun z => n2 (z ▸ hD), n1, n2⟩
  · exact .inr f
theorem FixT.priv_upd {D0 a : Addr} {o : HO} {vs : List V} (f : FixT K φ ι H a vs) (hD : D0 ∈ φ) : FixT K φ ι (upd H D0 o) a vs := by
  rcases f with ⟨f, n1, n2⟩ | f
  · exact .inl ⟨Rd.priv f fun z => n2 (z ▸ hD), n1, n2⟩
  · exact .inr f
theorem FixL.hide {D0 a : Addr} {o : HO} {vs : List V} (f : FixL K φ ι H a vs) (hD : H D0 = none) : FixL K (D0 :: φ) ι (upd H D0 o) a vs := by
  rcases f with ⟨f, n1, n2⟩ | f
  · obtain ⟨p, ep⟩ := Rd.some f
    have na := ne_of_none ep hD
    exact .inl ⟨Rd.priv f na, n1, by simp [na, n2]⟩
  · exact .inr f
theorem FixT.hide {D0 a : Addr} {o : HO} {vs : List V} (f : FixT K φ ι H a vs) (hD : H D0 = none) : FixT K (D0 :: φ) ι (upd H D0 o) a vs := by
  rcases f with ⟨f, n1, n2⟩ | f
  · obtain ⟨p, ep⟩ := Rd.some f
    have na := ne_of_none ep hD
    exact .inl ⟨Rd.priv f na, n1, by simp [na, n2]⟩
  · exact .inr f
theorem JIs.priv_upd {D0 : Addr} {o : HO} (h : JIs K φ J ι H xs src) (hD : D0 ∈ φ) : JIs K φ J ι (upd H D0 o) xs src := by
  rcases h with ⟨a, vs, rfl, f, r, e⟩ | ⟨a, vs, rfl, f, r, e⟩ | h | h | ⟨m, a, rfl, h, e⟩ | ⟨a, vs, ys, rfl, f, r, e⟩ | ⟨a, vs, ys, rfl, f, r, e⟩
  · exact .inl ⟨a, vs, rfl, f.priv_upd hD, reps_priv hD _ _ r, e⟩
  · exact .inr (.inl ⟨a, vs, rfl, f.priv_upd hD, reps_priv hD _ _ r, e⟩)
  · exact .inr (.inr (.inl h))
  · exact .inr (.inr (.inr (.inl h)))
  · exact .inr (.inr (.inr (.inr (.inl ⟨m, a, rfl, h, e⟩))))
  · exact .inr (.inr (.inr (.inr (.inr (.inl ⟨a, vs, ys, rfl, f.priv_upd hD, reps_priv hD _ _ r, e⟩)))))
  · exact .inr (.inr (.inr (.inr (.inr (.inr ⟨a, vs, ys, rfl, f.priv_upd hD, reps_priv hD _ _ r, e⟩)))))
theorem JIs.hide {D0 : Addr} {o : HO} (h : JIs K φ J ι H xs src) (hD : H D0 = none) : JIs K (D0 :: φ) J ι (upd H D0 o) xs src := by
  rcases h with ⟨a, vs, rfl, f, r, e⟩ | ⟨a, vs, rfl, f, r, e⟩ | h | h | ⟨m, a, rfl, h, e⟩ | ⟨a, vs, ys, rfl, f, r, e⟩ | ⟨a, vs, ys, rfl, f, r, e⟩
  · exact .inl ⟨a, vs, rfl, f.hide hD, reps_hide hD _ _ r, e⟩
  · exact .inr (.inl ⟨a, vs, rfl, f.hide hD, reps_hide hD _ _ r, e⟩)
  · exact .inr (.inr (.inl h))
  · exact .inr (.inr (.inr (.inl h)))
  · exact .inr (.inr (.inr (.inr (.inl ⟨m, a, rfl, h, e⟩))))
  · exact .inr (.inr (.inr (.inr (.inr (.inl ⟨a, vs, ys, rfl, f.hide hD, reps_hide hD _ _ r, e⟩)))))
  · exact .inr (.inr (.inr (.inr (.inr (.inr ⟨a, vs, ys, rfl, f.hide hD, reps_hide hD _ _ r, e⟩)))))
theorem rangeD_len (lo : Int) (n : Nat) : (rangeD lo n).length = n := by simp [rangeD]
theorem rangeD_get {lo : Int} {n i : Nat} {d : D} (h : (rangeD lo n)[i]? = some d) : i < n ∧ d = .int (lo + i) := by
  have hi : i < n := by
    have := (List.getElem?_eq_some_iff.mp h).1
    rw [rangeD_len] at this
    exact this
  refine ⟨hi, ?_⟩
  unfold rangeD at h
  rw [List.getElem?_map, List.getElem?_range hi] at h
  exact (Option.some.inj h).symm
theorem downD_len (lo : Int) (n : Nat) : (downD lo n).length = n := by simp [downD]
theorem downD_get {lo : Int} {n i : Nat} {d : D} (h : (downD lo n)[i]? = some d) : i < n ∧ d = .int (lo - i) := by
  have hi : i < n := by
    have := (List.getElem?_eq_some_iff.mp h).1
    rw [downD_len] at this
    exact this
  refine ⟨hi, ?_⟩
  unfold downD at h
  rw [List.getElem?_map, List.getElem?_range hi] at h
  exact (Option.some.inj h).symm
theorem enumD_len (xs : List D) : (enumD xs).length = xs.length := by simp [enumD]
theorem enumD_get {xs : List D} {i : Nat} {d : D} (h : (enumD xs)[i]? = some d) : ∃ x, xs[i]? = some x ∧ d = .tup [.int (i : Nat), x] := by
  unfold enumD at h
  rw [List.getElem?_map, List.getElem?_zipIdx] at h
  cases e : xs[i]? with
  | none =>
    rw [e] at h
    cases h
  | some x =>
    rw [e] at h
    refine ⟨x, rfl, ?_⟩
    have h := Option.some.inj h
    rw [← h]
    show D.tup [.int ((0 + i : Nat) : Int), x] = _
    rw [Nat.zero_add]
theorem JIs.stop (h : JIs K φ J ι H xs src) (R : RelS K φ ι H S) (st : still src xs S) {i : Nat} (hi : xs.length ≤ i) : J.stop i H := by
  rcases h with ⟨a, vs, rfl, f, r, e⟩ | ⟨a, vs, rfl, f, r, e⟩ | ⟨lo, n, rfl, rfl, e⟩ | ⟨lo, n, rfl, rfl, e⟩ | ⟨m, a, rfl, h, rfl⟩ | ⟨a, vs, ys, rfl, f, r, rfl, e⟩ | ⟨a, vs, ys, rfl, f, r, rfl, e⟩
  · exact ⟨vs, f.sq, by rw [reps_len r]; exact hi⟩
  · exact ⟨vs, f.sq, by rw [reps_len r]; exact hi⟩
  · rw [rangeD_len] at hi
    exact hi
  · rw [downD_len] at hi
    exact hi
  · obtain ⟨b, vs, h1, h2, h3⟩ := R.cell m xs st
    rw [h] at h1
    cases h1
    exact ⟨vs, SqL.of h2, by rw [reps_len h3]; exact hi⟩
  · rw [enumD_len] at hi
    exact ⟨vs, f.sq, by rw [reps_len r]; exact hi⟩
  · rw [enumD_len] at hi
    exact ⟨vs, f.sq, by rw [reps_len r]; exact hi⟩
/-- the heap as it stood, or with one object more -/
def Step (H H' : Hp) : Prop := H' = H ∨ ∃ T o, H T = none ∧ H' = upd H T o
theorem Step.ext {ι : List Addr} {H H' : Hp} (h : Step H H') : Ext ι H ι H' := by
  rcases h with rfl | ⟨T, o, h, rfl⟩
  · exact .refl
  · exact .new h
theorem Step.rel {ι : List Addr} {H H' : Hp} {S : Sto} (h : Step H H') (R : RelS K φ ι H S) : RelS K φ ι H' S := by
  rcases h with rfl | ⟨T, o, h, rfl⟩
  · exact R
  · exact R.new h
theorem Step.at {H H' : Hp} (h : Step H H') {a : Addr} {o : HO} (e : H a = some o) : H' a = some o := by
  rcases h with rfl | ⟨T, o', h, rfl⟩
  · exact e
  · rw [upd_ne (ne_of_none e h)]
    exact e
theorem JIs.go (h : JIs K φ J ι H xs src) (R : RelS K φ ι H S) (st : still src xs S) {i : Nat} {x : D} (hi : xs[i]? = some x) : J.go i H ∧ ∀ v H', J.yld i H v H' → Step H H' ∧ rep K φ ι H' x v := by
  rcases h with ⟨a, vs, rfl, f, r, e⟩ | ⟨a, vs, rfl, f, r, e⟩ | ⟨lo, n, rfl, rfl, e⟩ | ⟨lo, n, rfl, rfl, e⟩ | ⟨m, a, rfl, h, rfl⟩ | ⟨a, vs, ys, rfl, f, r, rfl, e⟩ | ⟨a, vs, ys, rfl, f, r, rfl, e⟩
  · obtain ⟨w, h1, h2⟩ := reps_get r hi
    refine ⟨⟨vs, w, f.sq, h1⟩, fun v H' ⟨e1, e2⟩ => ⟨.inl e1, ?_⟩⟩
    have e3 := e2 vs f.sq
    rw [h1] at e3
    cases e3
    rw [e1]
    exact h2
  · obtain ⟨w, h1, h2⟩ := reps_get r hi
    refine ⟨⟨vs, w, f.sq, h1⟩, fun v H' ⟨e1, e2⟩ => ⟨.inl e1, ?_⟩⟩
    have e3 := e2 vs f.sq
    rw [h1] at e3
    cases e3
    rw [e1]
    exact h2
  · obtain ⟨h1, rfl⟩ := rangeD_get hi
    exact ⟨h1, fun v H' ⟨e1, e2⟩ => ⟨.inl e1, e2⟩⟩
  · obtain ⟨h1, rfl⟩ := downD_get hi
    refine ⟨h1, fun v H' ⟨e1, e2⟩ => ⟨.inl e1, ?_⟩⟩
    rw [e2, show lo + (i : Int) * (-1) = lo - i by omega]
    rfl
  · obtain ⟨b, vs, h1, h2, h3⟩ := R.cell m xs st
    rw [h] at h1
    cases h1
    obtain ⟨w, h4, h5⟩ := reps_get h3 hi
    refine ⟨⟨vs, w, SqL.of h2, h4⟩, fun v H' ⟨e1, e2⟩ => ⟨.inl e1, ?_⟩⟩
    have e3 := e2 vs (SqL.of h2)
    rw [h4] at e3
    cases e3
    rw [e1]
    exact h5
  · obtain ⟨y, hy, rfl⟩ := enumD_get hi
    obtain ⟨w, h1, h2⟩ := reps_get r hy
    refine ⟨⟨vs, w, f.sq, h1⟩, ?_⟩
    rintro v H' ⟨T, x, rfl, hT, rfl, e2⟩
    have e3 := e2 vs f.sq
    rw [h1] at e3
    cases e3
    have E : Ext ι H ι (upd H T (.tup [.int (i : Nat), w])) := .new hT
    exact ⟨.inr ⟨T, _, hT, rfl⟩, T, [.int (i : Nat), w], rfl, .inl ⟨.inl upd_same, R.notMem hT, R.priv hT⟩, .int (i : Nat), [w], rfl, rfl, w, [], rfl, rep_mono E _ _ h2, rfl⟩
  · obtain ⟨y, hy, rfl⟩ := enumD_get hi
    obtain ⟨w, h1, h2⟩ := reps_get r hy
    refine ⟨⟨vs, w, f.sq, h1⟩, ?_⟩
    rintro v H' ⟨T, x, rfl, hT, rfl, e2⟩
    have e3 := e2 vs f.sq
    rw [h1] at e3
    cases e3
    have E : Ext ι H ι (upd H T (.tup [.int (i : Nat), w])) := .new hT
    exact ⟨.inr ⟨T, _, hT, rfl⟩, T, [.int (i : Nat), w], rfl, .inl ⟨.inl upd_same, R.notMem hT, R.priv hT⟩, .int (i : Nat), [w], rfl, rfl, w, [], rfl, rep_mono E _ _ h2, rfl⟩
end
end Ov
-- OvG
namespace Ov
open PySem PySem.Spec PyProof.Rows L2

/-- over a list or a tuple, whichever has come -/
def iSeq (K : PySem.W.Frag) (tl : TE) : TI := fun σ H R => tl σ H fun x H1 => ∃ a, x = .ref a ∧ (((∃ xs, SqL K H1 a xs) ∧ R (Itl K a) H1) ∨ ((∃ xs, SqT K H1 a xs) ∧ R (Itt K a) H1) ∨ (∃ lo hi, H1 a = some (.rng lo hi) ∧ rgOk lo hi ∧ R (Itr lo (hi - lo).toNat) H1))
/-- a walk that has just been made over something that stands -/
theorem born {X : Cx} {tg : Expr} {pins : List (Addr × Obj)} {σ : L2.St} {H : Hp} {s : Shared} {R : It → Hp → Prop} {J : It} {w : Nat → Heap → Prop} (o : Obj) (I : Inv X pins σ H s)
    (T : Turn X.prog X.w X.K tg J [s.heap.objs.size] s.heap.objs.size w) (w0 : w 0 (s.heap.push o)) (r : R J H) : PIE X pins σ tg R (.ref s.heap.objs.size) { s with heap := s.heap.push o } := by
  have new := I.fpOk (Nat.le_refl s.heap.objs.size) (I.hok.fresh (Nat.le_refl s.heap.objs.size))
  have stays : Inv X pins σ H { s with heap := s.heap.push o } := I.kept (t' := s.toks) fun _ _ h => Heap.get?_push_of_some o h
  exact ⟨_, _, _, _, _, rfl, stays, T, w0, fun b hb => (List.mem_singleton.mp hb) ▸ new, r⟩
theorem pi_seq {X : Cx} {tg l : Expr} {tl : TE} (hl : PE X l tl) : PI X tg l (iSeq X.K tl) where
  run pins s σ H R I h := thn (hl.run pins s σ H _ I h) fun v s1 z => by
    obtain ⟨x, H1, I1, r1, a, rfl, c⟩ := z
    cases r1
    cases c with
    | inl c =>
      obtain ⟨⟨xs, hq⟩, r⟩ := c
      have p := (I1.list hq).choose_spec.2.1
      exact wpAny_pyIter_list p.isList (born _ I1 (turn_list a _) ⟨_, Heap.get?_push_size _ rfl, rfl, rfl⟩ r)
    | inr c =>
      cases c with
      | inr c =>
        obtain ⟨lo, hi, e, ⟨⟨q1, q2⟩, q3, q4⟩, r⟩ := c
        obtain ⟨t, u, v, ho⟩ := I1.hok _ _ e
        refine wpAny_pyIter_range ho (small_one q1 q2 q3 q4) (born _ I1 (turn_range _ lo (hi - lo).toNat) ?_ r)
        have e1 : lo + ((0 : Nat) : Int) * 1 = lo := by simp
        have e2 : (((hi - lo).toNat : Nat) : Int) - ((0 : Nat) : Int) = Builtin.Range.rangeSize lo hi 1 := by rw [rangeSize_one]; split <;> omega
        show IsRangeIter _ _ (lo + ((0 : Nat) : Int) * 1) ((((hi - lo).toNat : Nat) : Int) - ((0 : Nat) : Int)) 1
        rw [e1, e2]
        exact Heap.get?_push_size _ rfl
      | inl c =>
      obtain ⟨⟨xs, hq⟩, r⟩ := c
      have p := (I1.tuple hq).choose_spec.2.1
      exact wpAny_pyIter_tuple (show Heap.IsTuple _ a _ from p) (born _ I1 (turn_tuple a _) ⟨_, Heap.get?_push_size _ rfl, rfl, rfl⟩ r)

section
variable {K : PySem.W.Frag} {σ : L2.St} {H : Hp} {R : It → Hp → Prop} {C : Calls}
theorem seq_imp {p : PX} (h : tDI K (wI C .sq [p]) σ H R) : iSeq K (tD K (wE C p)) σ H R := by
  obtain ⟨φ, ι, σd, S, k, RS, RE, w, q⟩ := h
  refine ⟨φ, ι, σd, S, fun d S1 => itW .sq [d] S1 fun xs sr => k xs sr S1, RS, RE, w, fun d S1 ι1 H1 v hd E R1 r => ?_⟩
  cases d with
  | tup ds =>
    obtain ⟨a, vs, rfl, f, r⟩ := r
    exact ⟨a, rfl, .inr (.inl ⟨⟨vs, f.sq⟩, q _ _ S1 ι1 H1 _ hd E R1 (.inr (.inl ⟨a, vs, rfl, f, r, rfl⟩))⟩)⟩
  | ro ds =>
    obtain ⟨a, vs, rfl, f, r⟩ := r
    exact ⟨a, rfl, .inl ⟨⟨vs, f.sq⟩, q _ _ S1 ι1 H1 _ hd E R1 (.inl ⟨a, vs, rfl, f, r, rfl⟩)⟩⟩
  | ptr m =>
    have hd : (match S1[m]? with
      | some xs => k xs (some m) S1
      | none => False) := hd
    split at hd
    · rename_i e
      obtain ⟨a, ha, rfl⟩ := r
      obtain ⟨b, vs, h1, h2, h3⟩ := R1.cell _ _ e
      rw [ha] at h1
      cases h1
      exact ⟨a, rfl, .inl ⟨⟨vs, SqL.of h2⟩, q _ _ S1 ι1 H1 _ hd E R1 (.inr (.inr (.inr (.inr (.inl ⟨m, a, rfl, ha, rfl⟩)))))⟩⟩
    · exact hd.elim
  | non => exact (show False from hd).elim
  | bl => exact (show False from hd).elim
  | int => exact (show False from hd).elim
  | str => exact (show False from hd).elim
  | dic => exact (show False from hd).elim
  | rng lo hi =>
    obtain ⟨a, rfl, ⟨f, _, _⟩, ok⟩ := r
    exact ⟨a, rfl, .inr (.inr ⟨lo, hi, f, ok, q _ _ S1 ι1 H1 _ hd E R1 (.inr (.inr (.inl ⟨lo, _, rfl, rfl, rfl⟩)))⟩)⟩
theorem en_imp {src : List PX} (hC : MonoC C) (hl : src.length = 1) (h : tDI K (wI C .en src) σ H R) : iEnumA K (tDs K (wEs C src)) σ H R := by
  obtain ⟨φ, ι, σd, S, k, RS, RE, w, q⟩ := h
  refine ⟨φ, ι, σd, S, _, RS, RE, wEs_len hC _ _ _ _ w, fun ds S1 ι1 H1 vs hd E R1 r => ?_⟩
  obtain ⟨h1, hd⟩ := hd
  rw [hl] at h1
  match ds, h1, hd, r with
  | [d], _, hd, r =>
    obtain ⟨v, rfl, r1⟩ := reps1 r
    cases d with
    | tup ds =>
      obtain ⟨a, vs, rfl, f, r⟩ := r1
      exact ⟨a, rfl, .inr ⟨vs, f.sq, q _ _ S1 ι1 H1 _ hd E R1 (.inr (.inr (.inr (.inr (.inr (.inr ⟨a, vs, ds, rfl, f, r, rfl, rfl⟩))))))⟩⟩
    | ro ds =>
      obtain ⟨a, vs, rfl, f, r⟩ := r1
      exact ⟨a, rfl, .inl ⟨vs, f.sq, q _ _ S1 ι1 H1 _ hd E R1 (.inr (.inr (.inr (.inr (.inr (.inl ⟨a, vs, ds, rfl, f, r, rfl, rfl⟩))))))⟩⟩
    | _ => exact (show False from hd).elim
theorem rng1_imp {src : List PX} (hC : MonoC C) (hl : src.length = 1) (h : tDI K (wI C .rg src) σ H R) : iRng1 (tDs K (wEs C src)) σ H R := by
  obtain ⟨φ, ι, σd, S, k, RS, RE, w, q⟩ := h
  refine ⟨φ, ι, σd, S, _, RS, RE, wEs_len hC _ _ _ _ w, fun ds S1 ι1 H1 vs hd E R1 r => ?_⟩
  obtain ⟨h1, hd⟩ := hd
  rw [hl] at h1
  match ds, h1, hd, r with
  | [d], _, hd, r =>
    cases d with
    | int n =>
      obtain ⟨v, rfl, r1⟩ := reps1 r
      obtain rfl : v = .int n := r1
      obtain ⟨h1, h2⟩ := (show big62 n ∧ k (rangeD 0 n.toNat) none S1 from hd)
      exact ⟨n, rfl, h1.1, h1.2, q _ _ S1 ι1 H1 _ h2 E R1 (.inr (.inr (.inl ⟨0, n.toNat, rfl, rfl, rfl⟩)))⟩
    | _ => exact (show False from hd).elim
theorem rng2_imp {src : List PX} (hC : MonoC C) (hl : src.length = 2) (h : tDI K (wI C .rg src) σ H R) : iRng2 (tDs K (wEs C src)) σ H R := by
  obtain ⟨φ, ι, σd, S, k, RS, RE, w, q⟩ := h
  refine ⟨φ, ι, σd, S, _, RS, RE, wEs_len hC _ _ _ _ w, fun ds S1 ι1 H1 vs hd E R1 r => ?_⟩
  obtain ⟨h1, hd⟩ := hd
  rw [hl] at h1
  match ds, h1, hd, r with
  | [d, d2], _, hd, r =>
    obtain ⟨v, u, rfl, r1, r2⟩ := reps2 r
    cases d with
    | int n =>
      cases d2 with
      | int m =>
        obtain rfl : v = .int n := r1
        obtain rfl : u = .int m := r2
        obtain ⟨⟨h1, h1'⟩, h2⟩ := (show (big62 n ∧ big62 m) ∧ k (rangeD n (m - n).toNat) none S1 from hd)
        exact ⟨n, m, rfl, ⟨h1.1, h1.2, h1'.1, h1'.2⟩, q _ _ S1 ι1 H1 _ h2 E R1 (.inr (.inr (.inl ⟨n, _, rfl, rfl, rfl⟩)))⟩
      | _ => exact (show False from hd).elim
    | _ => exact (show False from hd).elim

theorem rng3_imp {src : List PX} (hC : MonoC C) (hl : src.length = 3) (h : tDI K (wI C .rg src) σ H R) : iRng3 (tDs K (wEs C src)) σ H R := by
  obtain ⟨φ, ι, σd, S, k, RS, RE, w, q⟩ := h
  refine ⟨φ, ι, σd, S, _, RS, RE, wEs_len hC _ _ _ _ w, fun ds S1 ι1 H1 vs hd E R1 r => ?_⟩
  obtain ⟨h1, hd⟩ := hd
  rw [hl] at h1
  match ds, h1, hd, r with
  | [d, d2, d3], _, hd, r =>
    obtain ⟨v, rr, rfl, r1, r2a⟩ := r
    obtain ⟨u, t, rfl, r2, r3⟩ := reps2 r2a
    cases d with
    | int n =>
      cases d2 with
      | int m =>
        cases d3 with
        | int c =>
          obtain rfl : v = .int n := r1
          obtain rfl : u = .int m := r2
          obtain rfl : t = .int c := r3
          obtain ⟨rfl, ⟨h1, h1'⟩, h2⟩ := (show c = -1 ∧ (big62 n ∧ big62 m) ∧ k (downD n (n - m).toNat) none S1 from hd)
          exact ⟨n, m, -1, (n - m).toNat, rfl, RgC.neg h1.1 h1.2 h1'.1 h1'.2, q _ _ S1 ι1 H1 _ h2 E R1 (.inr (.inr (.inr (.inl ⟨n, _, rfl, rfl, rfl⟩))))⟩
        | _ => exact (show False from hd).elim
      | _ => exact (show False from hd).elim
    | _ => exact (show False from hd).elim
theorem wipe_get (σ : L2.St) : ∀ (vs : List Nat) (i : Nat), (wipe σ vs)[i]? = if i ∈ vs then (σ[i]?).map (fun _ => none) else σ[i]?
  | [], i => by simp [wipe]
  | v :: vs, i => by
    show ((wipe σ vs).set v none)[i]? = _
    rw [List.getElem?_set]
    by_cases h : v = i
    · subst h
      simp only [List.mem_cons, true_or, if_true, wipe_length]
      by_cases hl : v < σ.length
      · simp [hl]
      · simp [hl]
    · have h2 : ¬ i = v := fun e => h e.symm
      rw [if_neg h, wipe_get σ vs i]
      simp [h2]
theorem wipe_idem (σ : L2.St) (vs : List Nat) : wipe (wipe σ vs) vs = wipe σ vs := by
  apply List.ext_getElem?
  intro i
  rw [wipe_get, wipe_get]
  by_cases h : i ∈ vs
  · rw [if_pos h, if_pos h]
    cases σ[i]? <;> rfl
  · rw [if_neg h, if_neg h]
theorem compW_still {body : D → Sto → (Bool → D → Sto → Prop) → Prop} {src : Option Nat} {all : List D} {xs : List D} {S : Sto} {k : List D → Sto → Prop} (h : compW body src all xs S k) : still src all S := by
  cases xs with
  | nil => exact h.1
  | cons x xs => exact h.1
theorem drop_cons {α : Type} {l : List α} {i : Nat} {x : α} {r : List α} (h : l.drop i = x :: r) : l[i]? = some x ∧ l.drop (i + 1) = r ∧ i < l.length := by
  have hl : i < l.length := by
    by_cases hi : i < l.length
    · exact hi
    · rw [List.drop_eq_nil_of_le (by omega)] at h
      cases h
  rw [List.drop_eq_getElem_cons hl] at h
  injection h with h1 h2
  exact ⟨by rw [List.getElem?_eq_getElem hl, h1], h2, hl⟩
theorem comp_imp {mu : Bool} {elt : PX} {p : PP} {own : List (Str × Nat)} {rng : IK} {src : List PX} {cond : Option PX} {Q : VK}
    (h : tD K (wE C (.comp mu elt p own rng src cond)) σ H Q) :
    tLc (tDI K (wI C rng src)) (tDG K (own.map (·.2)) (bindW p)) (tDT K (wC C cond)) (tD K (wE C elt)) (own.map (·.2)) σ H Q := by
  obtain ⟨φ, ι, σd, S, k, RS, RE, w, q⟩ := h
  refine ⟨φ, ι, σd, S, fun xs sr S1 => xs.length < sizeLine ∧ compW (fun x S2 kk => bindW p x (wipeD σd (own.map (·.2))) fun σ1 => wC C cond σ1 S2 fun b S3 => (b = true → wE C elt σ1 S3 fun d S4 => kk true d S4) ∧ (b = false → kk false .non S3)) sr xs xs S1
        fun out S2 => if mu = true then k (.ptr S2.length) (S2 ++ [out]) else k (.ro out) S2, RS, RE, w, ?_⟩
  intro xs sr S1 ι1 H1 J ⟨hlen, hc⟩ E1 R1 hJ D0 hD
  generalize hbody : (fun (x : D) (S2 : Sto) (kk : Bool → D → Sto → Prop) => bindW p x (wipeD σd (own.map (·.2))) fun σ1 => wC C cond σ1 S2 fun b S3 => (b = true → wE C elt σ1 S3 fun d S4 => kk true d S4) ∧ (b = false → kk false .non S3)) = body at hc
  generalize hfin : (fun (out : List D) (S2 : Sto) => if mu = true then k (.ptr S2.length) (S2 ++ [out]) else k (.ro out) S2) = fin at hc
  refine ⟨fun i m H2 => ∃ ι2 S2 out acc kk, m = xs.length - i ∧ i ≤ xs.length ∧ RelS K (D0 :: φ) ι2 H2 S2 ∧ Ext ι1 H1 ι2 H2 ∧ H2 D0 = some (.lst acc) ∧ reps K (D0 :: φ) ι2 H2 out acc ∧ out.length ≤ i ∧
      JIs K (D0 :: φ) J ι2 H2 xs sr ∧ RelE K (D0 :: φ) ι2 H2 σd σ ∧ compW body sr xs (xs.drop i) S2 kk ∧ ∀ o S3, kk o S3 → fin (out ++ o) S3,
    ⟨xs.length, ι1, S1, [], [], fin, by simp, Nat.zero_le _, R1.hide hD, .new hD, upd_same, rfl, Nat.zero_le _, hJ.hide hD, (RE.mono E1).hide hD, hc, fun o S3 z => z⟩, ?_⟩
  rintro i m H2 ⟨ι2, S2, out, acc, kk, rfl, hi, R2, E2, eD, ro, lo, J2, RE2, hw, hk⟩
  have st := compW_still hw
  cases hd : xs.drop i with
  | nil =>
    have hi2 : xs.length ≤ i := by
      have := congrArg List.length hd
      simp at this
      omega
    refine .inl ⟨J2.stop R2 st hi2, ?_⟩
    rw [hd] at hw
    have hf := hk [] S2 hw.2
    rw [List.append_nil] at hf
    rw [← hfin] at hf
    have ro' := reps_pub _ _ ro
    have nD : D0 ∉ ι2 := (R2.pv D0 List.mem_cons_self).1
    have nφ : D0 ∉ φ := R1.priv hD
    by_cases hmu : mu = true
    · simp only [hmu, if_true] at hf
      -- the list becomes one that may change
      have nι : D0 ∉ ι2 := nD
      refine q _ (S2 ++ [out]) (ι2 ++ [D0]) H2 _ hf ⟨?_, fun a o e n => ?_⟩ ?_ ⟨D0, by rw [← R2.len, List.getElem?_append_right (Nat.le_refl _)]; simp, rfl⟩
      · obtain ⟨m1, e1⟩ := E1.more
        obtain ⟨m2, e2⟩ := E2.more
        exact ⟨m1 ++ (m2 ++ [D0]), by rw [e2, e1]; simp⟩
      · obtain ⟨n1, h1⟩ := E1.keep a o e n
        obtain ⟨n2, h2⟩ := E2.keep a o h1 n1
        have na : a ≠ D0 := ne_of_none h1 hD
        exact ⟨by simp [n2, na], h2⟩
      · have Rp := R2.pub
        have Ek : ∀ b u, H2 b = some u → b ∉ ι2 → b ≠ D0 → b ∉ ι2 ++ [D0] ∧ H2 b = some u := fun b u e n nb => ⟨by simp [n, nb], e⟩
        -- what is told of data without D0 holds with D0 among those that may change
        have mono : (∀ (d : D) (v : V), rep K (D0 :: φ) ι2 H2 d v → rep K φ (ι2 ++ [D0]) H2 d v) ∧ (∀ (ds : List D) (vs : List V), reps K (D0 :: φ) ι2 H2 ds vs → reps K φ (ι2 ++ [D0]) H2 ds vs) := by
          have fx : ∀ {a : Addr} {u : HO}, Rd H2 a u → a ∉ ι2 → a ∉ D0 :: φ → Rd H2 a u ∧ a ∉ ι2 ++ [D0] ∧ a ∉ φ := fun h n1 n2 => by
            simp only [List.mem_cons, not_or] at n2
            exact ⟨h, by simp [n1, n2.1], n2.2⟩
          have two : ∀ (n : Nat), (∀ (d : D), sizeOf d < n → ∀ (v : V), rep K (D0 :: φ) ι2 H2 d v → rep K φ (ι2 ++ [D0]) H2 d v) ∧ (∀ (ds : List D), sizeOf ds < n → ∀ (vs : List V), reps K (D0 :: φ) ι2 H2 ds vs → reps K φ (ι2 ++ [D0]) H2 ds vs) := by
            intro n
            induction n with
            | zero => exact ⟨fun d h => absurd h (Nat.not_lt_zero _), fun d h => absurd h (Nat.not_lt_zero _)⟩
            | succ n ih =>
              refine ⟨fun d hn v r => ?_, fun ds hn vs r => ?_⟩
              · cases d with
                | tup ds =>
                  obtain ⟨a, ws, e, f, r⟩ := r
                  refine ⟨a, ws, e, ?_, ih.2 ds (by simp at hn; omega) ws r⟩
                  rcases f with ⟨f, n1, n2⟩ | f
                  · exact .inl (fx f n1 n2)
                  · exact .inr f
                | ro ds =>
                  obtain ⟨a, ws, e, f, r⟩ := r
                  refine ⟨a, ws, e, ?_, ih.2 ds (by simp at hn; omega) ws r⟩
                  rcases f with ⟨f, n1, n2⟩ | f
                  · exact .inl (fx f n1 n2)
                  · exact .inr f
                | ptr m =>
                  obtain ⟨a, ha, e⟩ := r
                  have hm : m < ι2.length := (List.getElem?_eq_some_iff.mp ha).1
                  exact ⟨a, by rw [List.getElem?_append_left hm]; exact ha, e⟩
                | non => exact r
                | bl => exact r
                | int => exact r
                | str => exact r
                | dic ks ds =>
                  obtain ⟨a, ws, e, ⟨f, n1, n2⟩, r⟩ := r
                  exact ⟨a, ws, e, fx f n1 n2, ih.2 ds (by simp at hn; omega) ws r⟩
                | rng lo hi =>
                  obtain ⟨a, e, ⟨f, n1, n2⟩, q⟩ := r
                  simp only [List.mem_cons, not_or] at n2
                  exact ⟨a, e, ⟨f, by simp [n1, n2.1], n2.2⟩, q⟩
              · cases ds with
                | nil => exact r
                | cons d ds =>
                  obtain ⟨v, ws, e, r1, r2⟩ := r
                  simp at hn
                  exact ⟨v, ws, e, ih.1 d (by omega) v r1, ih.2 ds (by omega) ws r2⟩
          exact ⟨fun d => (two (sizeOf d + 1)).1 d (Nat.lt_succ_self _), fun ds => (two (sizeOf ds + 1)).2 ds (Nat.lt_succ_self _)⟩
        refine ⟨by simp [R2.len], ?_, fun a ha => ?_, fun n ys e => ?_⟩
        · rw [List.nodup_append]
          refine ⟨R2.nd, by simp, fun a ha b hb => ?_⟩
          rw [List.mem_singleton] at hb
          subst hb
          exact fun z => nι (z ▸ ha)
        · obtain ⟨n1, u, h1⟩ := R2.pv a (List.mem_cons_of_mem _ ha)
          have na : a ≠ D0 := fun z => nφ (z ▸ ha)
          exact ⟨by simp [n1, na], u, h1⟩
        · by_cases hn : n < S2.length
          · rw [List.getElem?_append_left hn] at e
            obtain ⟨a, ws, h1, h2, h3⟩ := R2.cell n ys e
            have hn2 : n < ι2.length := by rw [R2.len]; exact hn
            exact ⟨a, ws, by rw [List.getElem?_append_left hn2]; exact h1, h2, mono.2 _ _ h3⟩
          · have hn2 : n = S2.length := by
              have := (List.getElem?_eq_some_iff.mp e).1
              simp at this
              omega
            subst hn2
            rw [List.getElem?_append_right (Nat.le_refl _)] at e
            simp at e
            subst e
            refine ⟨D0, acc, ?_, eD, mono.2 _ _ ro⟩
            rw [← R2.len, List.getElem?_append_right (Nat.le_refl _)]
            simp
    · simp only [Bool.not_eq_true] at hmu
      simp only [hmu] at hf
      exact q _ S2 ι2 H2 _ hf (E1.trans E2) R2.pub ⟨D0, acc, rfl, .inl ⟨.inl eD, nD, nφ⟩, ro'⟩
  | cons x r =>
    obtain ⟨hx, hr, hlt⟩ := drop_cons hd
    obtain ⟨go, yld⟩ := J2.go R2 st hx
    rw [hd] at hw
    refine .inr ⟨go, fun H' => ∃ ι3 S3 out3 acc3 kk3, i + 1 ≤ xs.length ∧ RelS K (D0 :: φ) ι3 H' S3 ∧ Ext ι1 H1 ι3 H' ∧ H' D0 = some (.lst acc3) ∧ reps K (D0 :: φ) ι3 H' out3 acc3 ∧ out3.length ≤ i + 1 ∧
      JIs K (D0 :: φ) J ι3 H' xs sr ∧ RelE K (D0 :: φ) ι3 H' σd σ ∧ compW body sr xs (xs.drop (i + 1)) S3 kk3 ∧ ∀ o S4, kk3 o S4 → fin (out3 ++ o) S4, ?_, ?_⟩
    · rintro H' ⟨ι3, S3, out3, acc3, kk3, a1, a2, a3, a4, a5, a6, a7, a8, a9, a10⟩
      exact ⟨xs.length - (i + 1), by omega, ι3, S3, out3, acc3, kk3, rfl, a1, a2, a3, a4, a5, a6, a7, a8, a9, a10⟩
    · intro v H' hy
      obtain ⟨sp, rv⟩ := yld v H' hy
      replace eD := sp.at eD
      replace E2 : Ext ι1 H1 ι2 H' := E2.trans sp.ext
      replace R2 := sp.rel R2
      replace ro := reps_mono sp.ext _ _ ro
      replace J2 := J2.mono sp.ext
      replace RE2 := RE2.mono sp.ext
      have hw2 := hw.2
      rw [← hbody] at hw2
      have rr := hr
      refine ⟨D0 :: φ, ι2, wipeD σd (own.map (·.2)), x, _, RE2.wipe _, rv, hw2, fun σd1 σ1 hb RE3 hwipe => ⟨hwipe.trans (wipe_idem σ _), ?_⟩⟩
      refine ⟨D0 :: φ, ι2, σd1, S2, _, R2, RE3, hb, fun b S3 ι3 H3 hb2 E3 R3 => ?_⟩
      have nD3 : D0 ∉ ι3 ∧ H3 D0 = some (.lst acc) := by
        have := E3.keep D0 _ eD (R2.pv D0 List.mem_cons_self).1
        exact this
      cases b with
      | true =>
        have hb3 := hb2.1 rfl
        show tD K (wE C elt) σ1 H3 _
        refine ⟨D0 :: φ, ι3, σd1, S3, _, R3, RE3.mono E3, hb3, fun d S4 ι4 H4 v2 hd4 E4 R4 r4 => ?_⟩
        have e4 := (E4.keep D0 _ nD3.2 nD3.1)
        refine ⟨acc, e4.2, ?_, ?_⟩
        · have := reps_len ro
          omega
        · have E24 := E3.trans E4
          have hmem : D0 ∈ D0 :: φ := List.mem_cons_self
          refine ⟨ι4, S4, out ++ [d], acc ++ [v2], _, hlt, R4.priv_upd hmem, ?_, upd_same, ?_, by simp; omega, (J2.mono E24).priv_upd hmem, (RE2.mono E24).priv_upd hmem, by rw [rr, ← hbody]; exact hd4, fun o S5 z => ?_⟩
          · obtain ⟨m3, e3⟩ := E2.more
            obtain ⟨m5, e5⟩ := E24.more
            refine ⟨⟨m3 ++ m5, by rw [e5, e3]; simp⟩, fun a o e n => ?_⟩
            obtain ⟨n2, h2⟩ := E2.keep a o e n
            obtain ⟨n4, h4⟩ := E24.keep a o h2 n2
            have na : a ≠ D0 := ne_of_none e hD
            exact ⟨n4, by rw [upd_ne na]; exact h4⟩
          · exact reps_append (reps_priv hmem _ _ (reps_mono E24 _ _ ro)) ⟨v2, [], rfl, rep_priv hmem _ _ r4, rfl⟩
          · have z2 := hk _ _ z
            rw [if_pos rfl] at z2
            simpa using z2
      | false =>
        have hb3 := hb2.2 rfl
        show (if false = true then _ else _)
        rw [if_neg Bool.false_ne_true]
        refine ⟨ι3, S3, out, acc, _, hlt, R3, E2.trans E3, nD3.2, reps_mono E3 _ _ ro, by omega, J2.mono E3, RE2.mono E3, by rw [rr, ← hbody]; exact hb3, fun o S5 z => ?_⟩
        have z2 := hk _ _ z
        rw [if_neg Bool.false_ne_true] at z2
        exact z2
end
end Ov
-- OvH
namespace Ov
open PySem PySem.Spec PyProof.Rows L2

section
variable {X : Cx} {e : Expr} {env : PySem.Env}
theorem reps_ints {K : PySem.W.Frag} {φ ι : List Addr} {H : Hp} : ∀ l : List Nat, reps K φ ι H (l.map fun (i : Nat) => D.int (0 + i)) (l.map fun (i : Nat) => V.int (0 + i))
  | [] => rfl
  | i :: l => ⟨_, _, rfl, rfl, reps_ints l⟩
theorem reps_rg {K : PySem.W.Frag} {φ ι : List Addr} {H : Hp} (m : Int) : reps K φ ι H (rangeD 0 m.toNat) (rgV 0 m) := by
  have h := reps_ints (K := K) (φ := φ) (ι := ι) (H := H) (List.range m.toNat)
  unfold rangeD rgV
  rw [show m - 0 = m from Int.sub_zero m]
  exact h
theorem star_of (es : List Expr) (h : plainA e = true) : starEach (e :: es) env = (false, eval e env) :: starEach es env := by
  cases e <;> first
    | rfl
    | cases h
theorem plainIx_of (h : plainS e = true) : PlainIx e := by
  intro o i
  cases e <;> first
    | rfl
    | cases h
theorem base_of {nm : Str} (h : plainO e = true) : attributeBase e nm env (eval e env) = eval e env := by
  cases e <;> first
    | rfl
    | cases h
theorem fold_of (h : plainI e = true) : ∀ x : Value, foldedSetIterable e env x = pure x := by
  intro x
  cases e <;> first
    | rfl
    | cases h
theorem isTrue_of (h : plainT e = true) : ∀ whole, isTrue e env whole = (do let v ← whole; standAt e.pos; holding [v] (truthy v)) := by
  intro w
  cases e <;> first
    | rfl
    | cases h
/-- a list's arguments: none is starred -/
theorem okEs_star {T : List DDef} {N : List Str} {fnc : Option Scope} {sc : Scope} {pos : Pos} : ∀ {ps : List PX} {es : List Expr}, okEs T N fnc sc ps es = true → (backTo pos (starEach es env)).any (·.1) = false ∧ (backTo pos (starEach es env)).all (fun x => !x.1) = true ∧ es.length = ps.length
  | [], [], _ => ⟨rfl, rfl, rfl⟩
  | [], _ :: _, h => by cases h
  | _ :: _, [], h => by cases h
  | p :: ps, e :: es, h => by
    have h : (plainA e && okE T N fnc sc p e && okEs T N fnc sc ps es) = true := h
    simp only [Bool.and_eq_true] at h
    obtain ⟨h1, h2, h3⟩ := okEs_star h.2
    rw [star_of es h.1.1]
    refine ⟨?_, ?_, by simp [h3]⟩
    · have : backTo pos ((false, eval e env) :: starEach es env) = (false, (backTo pos [(false, eval e env)]).head!.2) :: backTo pos (starEach es env) := by rfl
      rw [this, List.any_cons, h1]
      rfl
    · have : backTo pos ((false, eval e env) :: starEach es env) = (false, (backTo pos [(false, eval e env)]).head!.2) :: backTo pos (starEach es env) := by rfl
      rw [this, List.all_cons, h2]
      rfl
end

section
variable {T : List DDef} {n : Nat} {K : PySem.W.Frag} {C : Calls}
def isBoolP : PX → Bool
  | .andv .. => true
  | .orv .. => true
  | .one .. => true
  | _ => false
theorem tD_pop {w w' : DEnv → Sto → WK → Prop} {σ : L2.St} {H : Hp} {Q : VK} (h : tD K w σ H Q) (i : ∀ σ S k, w σ S k → w' σ S k) : tD K w' σ H Q := by
  obtain ⟨φ, ι, σd, S, k, R, RE, h, P⟩ := h
  exact ⟨φ, ι, σd, S, k, R, RE, i _ _ _ h, P⟩
theorem PT.none {X : Cx} {e : Expr} {w : DEnv → Sto → (Bool → Sto → Prop) → Prop} (h : ∀ σ S k, ¬ w σ S k) : PT X e (tDT X.K w) :=
  PT.no fun σ H Q => by
    rintro ⟨φ, ι, σd, S, k, R, RE, q, P⟩
    exact h _ _ _ q
/-- a truth from a value -/
theorem tru_imp {wa : DEnv → Sto → WK → Prop} {σ : L2.St} {H : Hp} {Q : Bool → Hp → Prop} {X : Cx} (h : tDT X.K (fun σ S k => wa σ S fun d S1 => truthW d S1 k) σ H Q) :
    tD X.K wa σ H fun x H' => ∃ k, TruV X.K x H' k ∧ Q k H' := by
  obtain ⟨φ, ι, σd, S, k, R, RE, h, P⟩ := h
  refine ⟨φ, ι, σd, S, _, R, RE, h, fun d S1 ι1 H1 v hd E R1 r => ?_⟩
  obtain ⟨t, h1, h2⟩ := truth_ok R1 r hd
  exact ⟨t, h1, P _ _ _ _ h2 E R1⟩
/-- a truth from a comparison -/
theorem tst_imp {wa wb : DEnv → Sto → WK → Prop} {g : D → D → Sto → WK → Prop} {r : R2} {σ : L2.St} {H : Hp} {Q : Bool → Hp → Prop}
    (hyp : ∀ {φ ι H S k Q x y v u}, RelS K φ ι H S → rep K φ ι H x v → rep K φ ι H y u → g x y S k → Post K φ ι H k Q → r v u H Q)
    (h : tDT K (fun σ S k => wa σ S fun x S1 => wb σ S1 fun y S2 => g x y S2 fun d S3 => match d with
      | .bl t => k t S3
      | _ => False) σ H Q) : tTest (tOp r (tD K wa) (tD K wb)) σ H Q := by
  obtain ⟨φ, ι, σd, S, k, R, RE, h, P⟩ := h
  refine ⟨φ, ι, σd, S, _, R, RE, h, fun x S1 ι1 H1 v hx E1 R1 rx => ⟨φ, ι1, σd, S1, _, R1, RE.mono E1, hx, fun y S2 ι2 H2 u hy E2 R2 ry => ?_⟩⟩
  refine hyp R2 (rep_mono E2 _ _ rx) ry hy fun d S3 ι3 H3 w hw E3 R3 rw_ => ?_
  cases d with
  | bl t => exact ⟨t, rw_, P _ _ _ _ hw (E1.trans (E2.trans E3)) R3⟩
  | _ => exact (show False from hw).elim
theorem chn_imp {wa wb wc : DEnv → Sto → WK → Prop} {g g' : D → D → Sto → WK → Prop} {r r' : R2} {σ : L2.St} {H : Hp} {Q : VK}
    (hyp : ∀ {φ ι H S k Q x y v u}, RelS K φ ι H S → rep K φ ι H x v → rep K φ ι H y u → g x y S k → Post K φ ι H k Q → r v u H Q)
    (hyp' : ∀ {φ ι H S k Q x y v u}, RelS K φ ι H S → rep K φ ι H x v → rep K φ ι H y u → g' x y S k → Post K φ ι H k Q → r' v u H Q)
    (h : tD K (fun σ S k => wa σ S fun x S1 => wb σ S1 fun y S2 => g x y S2 fun d S3 => match d with
      | .bl true => wc σ S3 fun z S4 => g' y z S4 k
      | .bl false => k (.bl false) S3
      | _ => False) σ H Q) : tChain r r' (tD K wa) (tD K wb) (tD K wc) σ H Q := by
  obtain ⟨φ, ι, σd, S, k, R, RE, h, P⟩ := h
  refine ⟨φ, ι, σd, S, _, R, RE, h, fun x S1 ι1 H1 v hx E1 R1 rx => ⟨φ, ι1, σd, S1, _, R1, RE.mono E1, hx, fun y S2 ι2 H2 u hy E2 R2 ry => ?_⟩⟩
  refine hyp R2 (rep_mono E2 _ _ rx) ry hy fun d S3 ι3 H3 w hw E3 R3 rw_ => ?_
  have E := E1.trans (E2.trans E3)
  cases d with
  | bl t =>
    refine ⟨t, rw_, ?_⟩
    cases t with
    | true =>
      rw [if_pos rfl]
      exact ⟨φ, ι3, σd, S3, _, R3, RE.mono E, hw, fun z S4 ι4 H4 u4 hz E4 R4 rz => hyp' R4 (rep_mono (E3.trans E4) _ _ ry) rz hz (P.step (E.trans E4))⟩
    | false =>
      rw [if_neg Bool.false_ne_true]
      exact P _ _ _ _ _ hw E R3 rfl
  | _ => exact (show False from hw).elim
theorem chnT_imp {wa wb wc : DEnv → Sto → WK → Prop} {g g' : D → D → Sto → WK → Prop} {r r' : R2} {σ : L2.St} {H : Hp} {Q : Bool → Hp → Prop}
    (hyp : ∀ {φ ι H S k Q x y v u}, RelS K φ ι H S → rep K φ ι H x v → rep K φ ι H y u → g x y S k → Post K φ ι H k Q → r v u H Q)
    (hyp' : ∀ {φ ι H S k Q x y v u}, RelS K φ ι H S → rep K φ ι H x v → rep K φ ι H y u → g' x y S k → Post K φ ι H k Q → r' v u H Q)
    (h : tDT K (fun σ S k => wa σ S fun x S1 => wb σ S1 fun y S2 => g x y S2 fun d S3 => match d with
      | .bl true => wc σ S3 fun z S4 => g' y z S4 fun d S5 => match d with
        | .bl t => k t S5
        | _ => False
      | .bl false => k false S3
      | _ => False) σ H Q) : tTest (tChain r r' (tD K wa) (tD K wb) (tD K wc)) σ H Q := by
  obtain ⟨φ, ι, σd, S, k, R, RE, h, P⟩ := h
  refine ⟨φ, ι, σd, S, _, R, RE, h, fun x S1 ι1 H1 v hx E1 R1 rx => ⟨φ, ι1, σd, S1, _, R1, RE.mono E1, hx, fun y S2 ι2 H2 u hy E2 R2 ry => ?_⟩⟩
  refine hyp R2 (rep_mono E2 _ _ rx) ry hy fun d S3 ι3 H3 w hw E3 R3 rw_ => ?_
  have E := E1.trans (E2.trans E3)
  cases d with
  | bl t =>
    refine ⟨t, rw_, ?_⟩
    cases t with
    | true =>
      rw [if_pos rfl]
      refine ⟨φ, ι3, σd, S3, _, R3, RE.mono E, hw, fun z S4 ι4 H4 u4 hz E4 R4 rz => hyp' R4 (rep_mono (E3.trans E4) _ _ ry) rz hz fun d S5 ι5 H5 w5 hw5 E5 R5 r5 => ?_⟩
      cases d with
      | bl t => exact ⟨t, r5, P _ _ _ _ hw5 (E.trans (E4.trans E5)) R5⟩
      | _ => exact (show False from hw5).elim
    | false =>
      rw [if_neg Bool.false_ne_true]
      exact ⟨false, rfl, P _ _ _ _ hw E R3⟩
  | _ => exact (show False from hw).elim
theorem and_imp {wa wr : DEnv → Sto → (Bool → Sto → Prop) → Prop} {σ : L2.St} {H : Hp} {Q : Bool → Hp → Prop} (h : tDT K (fun σ S k => wa σ S fun b S1 => (b = true → wr σ S1 k) ∧ (b = false → k false S1)) σ H Q) :
    tAnd (tDT K wa) (tDT K wr) σ H Q := by
  obtain ⟨φ, ι, σd, S, k, R, RE, h, P⟩ := h
  refine ⟨φ, ι, σd, S, _, R, RE, h, fun b S1 ι1 H1 hb E R1 => ?_⟩
  cases b with
  | true =>
    rw [if_pos rfl]
    exact ⟨φ, ι1, σd, S1, k, R1, RE.mono E, hb.1 rfl, fun b S2 ι2 H2 q E2 R2 => P b S2 ι2 H2 q (E.trans E2) R2⟩
  | false =>
    rw [if_neg Bool.false_ne_true]
    exact P _ _ _ _ (hb.2 rfl) E R1
theorem or_imp {wa wr : DEnv → Sto → (Bool → Sto → Prop) → Prop} {σ : L2.St} {H : Hp} {Q : Bool → Hp → Prop} (h : tDT K (fun σ S k => wa σ S fun b S1 => (b = true → k true S1) ∧ (b = false → wr σ S1 k)) σ H Q) :
    tOr (tDT K wa) (tDT K wr) σ H Q := by
  obtain ⟨φ, ι, σd, S, k, R, RE, h, P⟩ := h
  refine ⟨φ, ι, σd, S, _, R, RE, h, fun b S1 ι1 H1 hb E R1 => ?_⟩
  cases b with
  | true =>
    rw [if_pos rfl]
    exact P _ _ _ _ (hb.1 rfl) E R1
  | false =>
    rw [if_neg Bool.false_ne_true]
    exact ⟨φ, ι1, σd, S1, k, R1, RE.mono E, hb.2 rfl, fun b S2 ι2 H2 q E2 R2 => P b S2 ι2 H2 q (E.trans E2) R2⟩
theorem not_imp {wa : DEnv → Sto → (Bool → Sto → Prop) → Prop} {σ : L2.St} {H : Hp} {Q : Bool → Hp → Prop} (h : tDT K (fun σ S k => wa σ S fun b S1 => k (!b) S1) σ H Q) : tNot (tDT K wa) σ H Q := by
  obtain ⟨φ, ι, σd, S, k, R, RE, h, P⟩ := h
  exact ⟨φ, ι, σd, S, _, R, RE, h, fun b S1 ι1 H1 hb E R1 => P _ _ _ _ hb E R1⟩
end

/-! ### every expression -/
section
variable {T : List DDef} {n : Nat}
theorem bi_gl {b : BI} : bootBuiltins (Str.ofString (biN b)) = some (biV b) := by
  cases b <;> first
    | decide +kernel
    | (show bootBuiltins (Str.ofString "isinstance") = some (.builtin "isinstance"); decide +kernel)
theorem bi_name {b : BI} : Str.ofString (biN b) ≠ Str.ofString "__name__" := by
  cases b <;> first
    | decide +kernel
    | (show Str.ofString "isinstance" ≠ Str.ofString "__name__"; decide +kernel)
theorem ty_gl : ∀ t ∈ ["int", "bool", "str", "tuple", "list"], bootBuiltins (Str.ofString t) = some (.type t) ∧ Str.ofString t ≠ Str.ofString "__name__" := by decide +kernel
theorem ty_free {X : Cx} {fnc : Option Scope} (xo : XOk T n fnc X) {t : String} (h : t ∈ ["int", "bool", "str", "tuple", "list"]) : X.mg (Str.ofString t) = none := by
  simp only [List.mem_cons, List.not_mem_nil, or_false] at h
  rcases h with rfl | rfl | rfl | rfl | rfl
  · exact xo.blt .int
  · exact xo.blt .bool
  · exact xo.blt .str
  · exact xo.blt .tuple
  · exact xo.blt .list
end

section
variable {T : List DDef} {n : Nat}
theorem XOk.blk {X : Cx} {fnc : Option Scope} (xo : XOk T n fnc X) {s : Shared} {H : Hp} {scope : Scope} {cenv : PySem.Env} {fp : List Addr} : XOk T n (some scope) (X.blk s H scope cenv fp) where
  calm := xo.calm
  nd := xo.nd
  room := xo.room
  fn := fun x h => h
  fns := fun f hf => ⟨(xo.fns f hf).ex⟩
  blt := xo.blt
  rng := xo.rng
  con := xo.con
  enu := xo.enu
theorem nameCls {X : Cx} {fnc : Option Scope} (xo : XOk T n fnc X) {t : String} {pos : Pos} (h : t ∈ ["int", "bool", "str", "tuple", "list"]) (hg : isG X.env.scope (Str.ofString t) = true) : PE X (.Name (Str.ofString t) pos) (tC (.ty t)) :=
  pe_bltn (gl_of hg).1 (ty_free xo h) (ty_gl t h).1 rfl (ty_gl t h).2 (gl_of hg).2
theorem PA.consD {X : Cx} {e : Expr} {es : List Expr} {wa : DEnv → Sto → WK → Prop} {wr : DEnv → Sto → (List D → Sto → Prop) → Prop} (ha : PE X e (tD X.K wa)) (hr : PA X es (tDs X.K wr)) (hs : starEach (e :: es) X.env = (false, eval e X.env) :: starEach es X.env) :
    PA X (e :: es) (tDs X.K fun σ S k => wa σ S fun d S1 => wr σ S1 fun ds S2 => k (d :: ds) S2) := by
  refine PA.imp (pa_cons ha hr hs) ?_
  rintro σ H Q ⟨φ, ι, σd, S, k, R, RE, h, P⟩
  refine ⟨φ, ι, σd, S, _, R, RE, h, fun d S1 ι1 H1 v hd E1 R1 r => ⟨φ, ι1, σd, S1, _, R1, RE.mono E1, hd, fun ds S2 ι2 H2 vs hds E2 R2 rs => ?_⟩⟩
  exact P _ _ _ _ _ hds (E1.trans E2) R2 ⟨v, vs, rfl, rep_mono E2 _ _ r, rs⟩

theorem bool_of {T : List DDef} {N : List Str} {fnc : Option Scope} {sc : Scope} {r : PX} {op : BoolOp} {es : List Expr} {pos : Pos} (h : okE T N fnc sc r (.BoolOp op es pos) = true) : isBoolP r = true := by
  cases r <;> first
    | rfl
    | (exfalso
       have h : false = true := h
       cases h)
    | (exfalso
       rename_i a
       have h : (okE T N fnc sc a (.BoolOp op es pos) && plainT (.BoolOp op es pos)) = true := h
       rw [Bool.and_eq_true] at h
       cases h.2)
theorem star_cons {N : List Str} {fnc : Option Scope} {sc : Scope} {ps : List PX} {e : Expr} {es : List Expr} {env : PySem.Env} (h : okEs T N fnc sc ps (e :: es) = true) :
    starEach (e :: es) env = (false, eval e env) :: starEach es env ∧ ∀ pos, (backTo pos (starEach es env)).any (·.1) = false := by
  cases ps with
  | nil => cases h
  | cons p ps =>
    have h : (plainA e && okE T N fnc sc p e && okEs T N fnc sc ps es) = true := h
    simp only [Bool.and_eq_true] at h
    exact ⟨star_of es h.1.1, fun pos => (okEs_star h.2).1⟩
theorem PTs.impD {X : Cx} {C : Calls} (h : PTs X [] tYes) : PTs X [] (tDT X.K (wC C none)) := ⟨fun pins s σ H Q I ⟨φ, ι, σd, S, k, R, RE, w, P⟩ => h.run pins s σ H Q I (P true S ι H w .refl R)⟩
theorem few_of {N : List Str} {fnc : Option Scope} {sc : Scope} {ps : List PX} {es : List Expr} {env : PySem.Env} {cpos : Pos} (h : okEs T N fnc sc ps es = true) (hl : es.length ≤ 1) :
    ((backTo cpos (starEach es env)).all (fun x => !x.1) && (backToKw cpos (keywordEach [] env)).all (fun x => x.1.isSome) && decide (es.length + ([] : List Keyword).length + (if ([] : List Keyword).isEmpty = true then 0 else 1) < 30)) = true := by
  rw [(okEs_star h).2.1]
  have : decide (es.length + ([] : List Keyword).length + (if ([] : List Keyword).isEmpty = true then 0 else 1) < 30) = true := by
    rw [decide_eq_true_eq]
    show es.length + 0 + 0 < 30
    omega
  rw [this]
  rfl
theorem list_ty {K : PySem.W.Frag} {φ ι : List Addr} {H : Hp} {S : Sto} {m : Nat} {v : V} (R : RelS K φ ι H S) (r : rep K φ ι H (.ptr m) v) : tyV K "list" v H := by
  obtain ⟨a, ha, rfl⟩ := r
  obtain ⟨vs, e⟩ := R.mem (List.mem_of_getElem? ha)
  exact .inl ⟨rfl, vs, SqL.of e⟩
theorem ro_ty {K : PySem.W.Frag} {φ ι : List Addr} {H : Hp} {xs : List D} {v : V} (r : rep K φ ι H (.ro xs) v) : tyV K "list" v H := by
  obtain ⟨a, vs, rfl, h, _⟩ := r
  exact .inl ⟨rfl, vs, h.sq⟩
theorem meth_sound {X : Cx} {fnc : Option Scope} (xo : XOk T n fnc X) {m : Mth} {o : PX} {es : List PX} {eo : Expr} {xs : List Expr} {apos cpos : Pos} (hO : PE X eo (tD X.K (wE (callW T n) o))) (hA : PA X xs (tDs X.K (wEs (callW T n) es)))
    (h3 : plainO eo = true) (h4 : okEs T X.N fnc X.env.scope es xs = true) (h5 : (apos.endLine == cpos.line) = true) (h6 : mthLen m xs = true) : PE X (.Call (.Attribute eo (Str.ofString (mtN m)) apos) xs [] cpos) (tD X.K (wE (callW T n) (.meth m o es))) := by
  cases m with
  | append =>
    have h6 : (xs.length == 1) = true := h6
    match xs, h6 with
    | [e], h6 =>
      obtain ⟨s1, s2⟩ := star_cons (env := X.env) h4
      have hl : es.length = 1 := ((okEs_star (env := X.env) (pos := cpos) h4).2.2).symm
      refine PE.imp (pe_bm PySem.F.plainAttrs_list PySem.F.slot_list_append PySem.F.type_list_append mtB hO hA (base_of h3) (few_of h4 (Nat.le_refl _)) h5 s1 (s2 cpos)) ?_
      rintro σ H Q ⟨φ, ι, σd, S, k, R, RE, w, P⟩
      refine ⟨φ, ι, σd, S, _, R, RE, w, fun d S1 ι1 H1 v hd E R1 r => ?_⟩
      cases d with
      | ptr m =>
        refine ⟨list_ty R1 r, φ, ι1, σd, S1, _, R1, RE.mono E, wEs_len (callW_mono T n) _ _ _ _ hd.2, fun ds S2 ι2 H2 vs hds E2 R2 rs => ?_⟩
        obtain ⟨h1, hds⟩ := hds
        rw [hl] at h1
        match ds, h1, hds, rs with
        | [d], _, hds, rs =>
          obtain ⟨u, rfl, ru⟩ := reps1 rs
          exact append_ok R2 (rep_mono E2 _ _ r) ru hds (P.step (E.trans E2))
      | _ => exact (show False from hd.1).elim
  | pop =>
    have h6 : decide (xs.length ≤ 1) = true := h6
    match xs, h6 with
    | [], h6 =>
      refine PE.imp (pe_bm0 PySem.F.plainAttrs_list PySem.F.slot_list_pop PySem.F.type_list_pop mtB hO (base_of h3) h5) ?_
      rintro σ H Q ⟨φ, ι, σd, S, k, R, RE, w, P⟩
      refine ⟨φ, ι, σd, S, _, R, RE, w, fun d S1 ι1 H1 v hd E R1 r => ?_⟩
      have he : es = [] := by
        have := (okEs_star (env := X.env) (pos := cpos) h4).2.2
        exact List.eq_nil_of_length_eq_zero this.symm
      subst he
      cases d with
      | ptr m => exact ⟨list_ty R1 r, pop_ok R1 r hd.2 (P.step E)⟩
      | _ => exact (show False from hd.1).elim
    | [e], h6 =>
      obtain ⟨s1, s2⟩ := star_cons (env := X.env) h4
      have hl : es.length = 1 := ((okEs_star (env := X.env) (pos := cpos) h4).2.2).symm
      refine PE.imp (pe_bm PySem.F.plainAttrs_list PySem.F.slot_list_pop PySem.F.type_list_pop mtB hO hA (base_of h3) (few_of h4 (Nat.le_refl _)) h5 s1 (s2 cpos)) ?_
      rintro σ H Q ⟨φ, ι, σd, S, k, R, RE, w, P⟩
      refine ⟨φ, ι, σd, S, _, R, RE, w, fun d S1 ι1 H1 v hd E R1 r => ?_⟩
      cases d with
      | ptr m =>
        refine ⟨list_ty R1 r, φ, ι1, σd, S1, _, R1, RE.mono E, wEs_len (callW_mono T n) _ _ _ _ hd.2, fun ds S2 ι2 H2 vs hds E2 R2 rs => ?_⟩
        obtain ⟨h1, hds⟩ := hds
        rw [hl] at h1
        match ds, h1, hds, rs with
        | [d], _, hds, rs =>
          obtain ⟨u, rfl, ru⟩ := reps1 rs
          exact popAt_ok R2 (rep_mono E2 _ _ r) ru hds (P.step (E.trans E2))
      | _ => exact (show False from hd.1).elim
  | join =>
    have h6 : (xs.length == 1) = true := h6
    match xs, h6 with
    | [e], h6 =>
      obtain ⟨s1, s2⟩ := star_cons (env := X.env) h4
      have hl : es.length = 1 := ((okEs_star (env := X.env) (pos := cpos) h4).2.2).symm
      refine PE.imp (pe_bm PySem.F.plainAttrs_str PySem.F.slot_str_join PySem.F.type_str_join mtB hO hA (base_of h3) (few_of h4 (Nat.le_refl _)) h5 s1 (s2 cpos)) ?_
      rintro σ H Q ⟨φ, ι, σd, S, k, R, RE, w, P⟩
      refine ⟨φ, ι, σd, S, _, R, RE, w, fun d S1 ι1 H1 v hd E R1 r => ?_⟩
      cases d with
      | str z =>
        obtain rfl : v = .str z := r
        refine ⟨rfl, φ, ι1, σd, S1, _, R1, RE.mono E, wEs_len (callW_mono T n) _ _ _ _ hd.2, fun ds S2 ι2 H2 vs hds E2 R2 rs => ?_⟩
        obtain ⟨h1, hds⟩ := hds
        rw [hl] at h1
        match ds, h1, hds, rs with
        | [d], _, hds, rs =>
          obtain ⟨u, rfl, ru⟩ := reps1 rs
          exact ⟨_, mt_join, join_ok (x := .str z) R2 rfl ru hds (P.step (E.trans E2))⟩
      | _ => exact (show False from hd.1).elim
  | count =>
    have h6 : (xs.length == 1) = true := h6
    match xs, h6 with
    | [e], h6 =>
      obtain ⟨s1, s2⟩ := star_cons (env := X.env) h4
      have hl : es.length = 1 := ((okEs_star (env := X.env) (pos := cpos) h4).2.2).symm
      refine PE.imp (pe_bm PySem.F.plainAttrs_str PySem.F.slot_str_count PySem.F.type_str_count mtB hO hA (base_of h3) (few_of h4 (Nat.le_refl _)) h5 s1 (s2 cpos)) ?_
      rintro σ H Q ⟨φ, ι, σd, S, k, R, RE, w, P⟩
      refine ⟨φ, ι, σd, S, _, R, RE, w, fun d S1 ι1 H1 v hd E R1 r => ?_⟩
      cases d with
      | str z =>
        obtain rfl : v = .str z := r
        refine ⟨rfl, φ, ι1, σd, S1, _, R1, RE.mono E, wEs_len (callW_mono T n) _ _ _ _ hd.2, fun ds S2 ι2 H2 vs hds E2 R2 rs => ?_⟩
        obtain ⟨h1, hds⟩ := hds
        rw [hl] at h1
        match ds, h1, hds, rs with
        | [d], _, hds, rs =>
          obtain ⟨u, rfl, ru⟩ := reps1 rs
          cases d with
          | str b =>
            obtain rfl : u = .str b := ru
            exact ⟨_, mt_count, z, b, rfl, rfl, P _ _ _ _ _ hds (E.trans E2) R2 rfl⟩
          | _ => exact (show False from hds).elim
      | _ => exact (show False from hd.1).elim
  | indexL =>
    have h6 : (xs.length == 1) = true := h6
    match xs, h6 with
    | [e], h6 =>
      obtain ⟨s1, s2⟩ := star_cons (env := X.env) h4
      have hl : es.length = 1 := ((okEs_star (env := X.env) (pos := cpos) h4).2.2).symm
      refine PE.imp (pe_bm PySem.F.plainAttrs_list PySem.F.slot_list_index PySem.F.type_list_index mtB hO hA (base_of h3) (few_of h4 (Nat.le_refl _)) h5 s1 (s2 cpos)) ?_
      rintro σ H Q ⟨φ, ι, σd, S, k, R, RE, w, P⟩
      refine ⟨φ, ι, σd, S, _, R, RE, w, fun d S1 ι1 H1 v hd E R1 r => ?_⟩
      cases d with
      | ptr m =>
        refine ⟨list_ty R1 r, φ, ι1, σd, S1, _, R1, RE.mono E, wEs_len (callW_mono T n) _ _ _ _ hd.2, fun ds S2 ι2 H2 vs hds E2 R2 rs => ?_⟩
        obtain ⟨h1, hds⟩ := hds
        rw [hl] at h1
        match ds, h1, hds, rs with
        | [d], _, hds, rs =>
          obtain ⟨u, rfl, ru⟩ := reps1 rs
          exact indexL_ok R2 (rep_mono E2 _ _ r) ru hds (P.step (E.trans E2))
      | ro m =>
        refine ⟨ro_ty r, φ, ι1, σd, S1, _, R1, RE.mono E, wEs_len (callW_mono T n) _ _ _ _ hd.2, fun ds S2 ι2 H2 vs hds E2 R2 rs => ?_⟩
        obtain ⟨h1, hds⟩ := hds
        rw [hl] at h1
        match ds, h1, hds, rs with
        | [d], _, hds, rs =>
          obtain ⟨u, rfl, ru⟩ := reps1 rs
          exact indexL_ok R2 (rep_mono E2 _ _ r) ru hds (P.step (E.trans E2))
      | _ => exact (show False from hd.1).elim
theorem okComp {N : List Str} {fnc : Option Scope} {sc : Scope} {mu : Bool} {elt : PX} {p : PP} {own : List (Str × Nat)} {rng : IK} {src : List PX} {cond : Option PX} {e : Expr} (h : okE T N fnc sc (.comp mu elt p own rng src cond) e = true) :
    ∃ eelt tg iter ifs scope pos, e = .ListComp eelt [⟨tg, iter, ifs, 0⟩] scope pos ∧ blkC N sc scope own = true ∧ okP N (some scope) (relS scope sc) (own.map (·.2)) p tg = true ∧ okE T N (some scope) (relS scope sc) elt eelt = true ∧ plainI iter = true ∧
      iterChk (okEs T N fnc sc src) sc rng (src.length == 1) iter = true ∧ enTp rng p = true ∧ okC T N (some scope) (relS scope sc) cond ifs = true := by
  cases e with
  | ListComp eelt gens scope pos =>
    match gens, h with
    | [⟨tg, iter, ifs, 0⟩], h =>
      refine ⟨eelt, tg, iter, ifs, scope, pos, rfl, ?_⟩
      have h : (blkC N sc scope own && okP N (some scope) (relS scope sc) (own.map (·.2)) p tg && okE T N (some scope) (relS scope sc) elt eelt && plainI iter &&
        iterChk (okEs T N fnc sc src) sc rng (src.length == 1) iter && enTp rng p && okC T N (some scope) (relS scope sc) cond ifs) = true := h
      simp only [Bool.and_eq_true] at h
      obtain ⟨⟨⟨⟨⟨⟨h1, h2⟩, h3⟩, h4⟩, h5⟩, h5'⟩, h6⟩ := h
      exact ⟨h1, h2, h3, h4, h5, h5', h6⟩
  | _ => cases h
theorem rng_sound {X : Cx} {fnc : Option Scope} (xo : XOk T n fnc X) {tg iter : Expr} {src : List PX} {one : Bool} (hEs : ∀ xs, okEs T X.N fnc X.env.scope src xs = true → PA X xs (tDs X.K (wEs (callW T n) src)))
    (h : iterChk (okEs T X.N fnc X.env.scope src) X.env.scope .rg one iter = true) : PI X tg iter (tDI X.K (wI (callW T n) .rg src)) := by
  unfold iterChk at h
  cases iter with
  | Call ef xs kws pos =>
    cases ef with
    | Name x ps =>
      match xs, kws, h with
      | e0 :: xs, [], h =>
        have h : (decide (x = Str.ofString "range") && isG X.env.scope x && okEs T X.N fnc X.env.scope src (e0 :: xs) && decide (xs.length ≤ 2)) = true := h
        simp only [Bool.and_eq_true, decide_eq_true_eq] at h
        obtain ⟨⟨⟨rfl, h2⟩, h3⟩, h4⟩ := h
        obtain ⟨g1, g2⟩ := gl_of h2
        obtain ⟨s1, s2⟩ := star_cons (env := X.env) h3
        have hl := (okEs_star (env := X.env) (pos := ⟨0, 0, 0, 0⟩) h3).2.2
        match xs, h3, h4, s1, s2, hl with
        | [], h3, h4, s1, s2, hl => exact PI.imp (pi_range1 g1 xo.rng (hEs _ h3) s1) fun σ H Q q => rng1_imp (callW_mono T n) hl.symm q
        | [e2], h3, h4, s1, s2, hl =>
          have s3 : starEach [e2] X.env = [(false, eval e2 X.env)] := by
            have := s2 ⟨0, 0, 0, 0⟩
            cases e2 <;> first
              | rfl
              | cases this
          exact PI.imp (pi_range2 g1 xo.rng (hEs _ h3) (by rw [s1, s3]) s3) fun σ H Q q => rng2_imp (callW_mono T n) hl.symm q
        | [e2, e3], h3, h4, s1, s2, hl => exact PI.imp (pi_range3 g1 xo.rng (hEs _ h3) s1 (s2 pos)) fun σ H Q q => rng3_imp (callW_mono T n) hl.symm q
        | _ :: _ :: _ :: _, _, h4, _, _, _ =>
          simp at h4
    | _ => cases h
  | _ => cases h
theorem enTp_tg {N : List Str} {fnc : Option Scope} {sc : Scope} {vs : List Nat} {p : PP} {tg : Expr} (h : okP N fnc sc vs p tg = true) (ht : enTp .en p = true) : ∃ es k pos, tg = .Tuple es k pos := by
  cases p with
  | nm _ => cases ht
  | tp ps =>
    cases tg with
    | Tuple es k pos => exact ⟨es, k, pos, rfl⟩
    | _ => cases h
theorem en_sound {X : Cx} {fnc : Option Scope} (xo : XOk T n fnc X) {tg iter : Expr} {src : List PX} (hEs : ∀ xs, okEs T X.N fnc X.env.scope src xs = true → PA X xs (tDs X.K (wEs (callW T n) src)))
    (h : iterChk (okEs T X.N fnc X.env.scope src) X.env.scope .en (src.length == 1) iter = true) (ht : ∃ es k pos, tg = .Tuple es k pos) : PI X tg iter (tDI X.K (wI (callW T n) .en src)) := by
  obtain ⟨es, kk, tpos, rfl⟩ := ht
  unfold iterChk at h
  cases iter with
  | Call ef xs kws pos =>
    cases ef with
    | Name x ps =>
      match xs, kws, h with
      | [e0], [], h =>
        have h : ((src.length == 1) && decide (x = Str.ofString "enumerate") && isG X.env.scope x && okEs T X.N fnc X.env.scope src [e0]) = true := h
        simp only [Bool.and_eq_true, decide_eq_true_eq, beq_iff_eq] at h
        obtain ⟨⟨⟨hl, rfl⟩, h2⟩, h3⟩ := h
        obtain ⟨g1, g2⟩ := gl_of h2
        obtain ⟨s1, s2⟩ := star_cons (env := X.env) h3
        exact PI.imp (pi_enumA g1 xo.enu (hEs _ h3) s1) fun σ H Q q => en_imp (callW_mono T n) hl q
      | [_], _ :: _, h => cases h
      | [], _, h => cases h
      | _ :: _ :: _, _, h => cases h
    | _ => cases h
  | _ => cases h

/-! ### written dicts -/
def trsOf (K : PySem.W.Frag) (C : Calls) : List Key → List PX → List (TE × TE)
  | k :: ks, e :: es => (tC (kV k), tD K (wE C e)) :: trsOf K C ks es
  | _, _ => []
theorem merge_nodup : ∀ (kvs acc : List (Key × V)), ((acc ++ kvs).map (·.1)).Nodup → mergeK acc kvs = acc ++ kvs
  | [], acc, _ => by simp [mergeK]
  | p :: r, acc, h => by
    have hp : putK acc p.1 p.2 = acc ++ [p] := by
      unfold putK
      rw [if_neg]
      intro q
      obtain ⟨x, hx, e⟩ := List.any_eq_true.mp q
      have e := of_decide_eq_true e
      rw [List.map_append, List.map_cons] at h
      have := (List.nodup_append.mp h).2.2 x.1 (List.mem_map.mpr ⟨x, hx, rfl⟩) p.1 List.mem_cons_self
      exact this e
    show mergeK (putK acc p.1 p.2) r = _
    rw [hp, merge_nodup r (acc ++ [p]) (by rw [List.append_assoc]; exact h), List.append_assoc]
    rfl
theorem pairs_imp {K : PySem.W.Frag} {C : Calls} : ∀ (ks : List Key) (es : List PX) {φ ι : List Addr} {σd : DEnv} {S : Sto} {σ : L2.St} {H : Hp} {k : List D → Sto → Prop} {Q : List (V × V) → Hp → Prop}, ks.length = es.length → RelS K φ ι H S → RelE K φ ι H σd σ → wEs C es σd S k →
    (∀ ds S' ι' H' vs, k ds S' → Ext ι H ι' H' → RelS K φ ι' H' S' → reps K φ ι' H' ds vs → vs.length = ks.length → Q ((ks.map kV).zip vs) H') → tPairs (trsOf K C ks es) σ H Q
  | [], [], φ, ι, σd, S, σ, H, k, Q, _, R, RE, w, P => P [] S ι H [] w .refl R rfl rfl
  | [], _ :: _, _, _, _, _, _, _, _, _, hl, _, _, _, _ => by cases hl
  | _ :: _, [], _, _, _, _, _, _, _, _, hl, _, _, _, _ => by cases hl
  | kk :: ks, e :: es, φ, ι, σd, S, σ, H, k, Q, hl, R, RE, w, P => by
    show tD K (wE C e) σ H fun y H2 => tPairs (trsOf K C ks es) σ H2 fun ps H3 => Q ((kV kk, y) :: ps) H3
    refine ⟨φ, ι, σd, S, fun d S1 => wEs C es σd S1 fun ds S2 => k (d :: ds) S2, R, RE, w, fun d S1 ι1 H1 v hd E1 R1 r1 => ?_⟩
    refine pairs_imp ks es (by simpa using hl) R1 (RE.mono E1) hd fun ds S' ι' H' vs hk E R' rs hv => ?_
    exact P (d :: ds) S' ι' H' (v :: vs) hk (E1.trans E) R' ⟨v, vs, rfl, rep_mono E _ _ r1, rs⟩ (by simp [hv])
theorem disp_imp {K : PySem.W.Frag} {C : Calls} {ks : List Key} {es : List PX} {σ : L2.St} {H : Hp} {Q : VK} (hl : ks.length = es.length) (h15 : ks.length ≤ 15) (hn : ks.Nodup) (h : tD K (wE C (.dct ks es)) σ H Q) : tDisp (trsOf K C ks es) σ H Q := by
  obtain ⟨φ, ι, σd, S, k, R, RE, w, P⟩ := h
  intro p hp
  have Rh := R.hide (o := .dK []) hp
  refine pairs_imp ks es hl Rh (RE.hide hp) w fun ds S' ι' H' vs hk E R' rs hv => ?_
  have n1 := (Rh.pv p List.mem_cons_self).1
  obtain ⟨n2, e1⟩ := E.keep p _ upd_same n1
  have hz : (ks.zip vs).map (·.1) = ks := List.map_fst_zip (by omega)
  refine ⟨e1, ks.zip vs, ?_, by rw [List.length_zip]; omega, ?_⟩
  · rw [List.zip_map_left]
    rfl
  · rw [merge_nodup _ [] (by rw [List.nil_append, hz]; exact hn), List.nil_append]
    have nφ : p ∉ φ := R.priv hp
    refine P (.dic ks ds) S' ι' _ (.ref p) hk ⟨E.more, fun a o e n => ?_⟩ (R'.priv_upd List.mem_cons_self).pub ⟨p, vs, rfl, ⟨.inl upd_same, n2, nφ⟩, reps_pub _ _ (reps_priv List.mem_cons_self _ _ rs)⟩
    have na := ne_of_none e hp
    obtain ⟨m1, m2⟩ := E.keep a o (by rw [upd_ne na]; exact e) n
    exact ⟨m1, by rw [upd_ne na]; exact m2⟩
theorem minN_imp {K : PySem.W.Frag} {wa : DEnv → Sto → WK → Prop} {σ : L2.St} {H : Hp} {Q : VK} (h : tD K (fun σ S k => wa σ S fun x S1 => minNW x S1 k) σ H Q) : tCKw (rMinD K) (tCons (tD K wa) tNil) (tCons (tC .non) tNil) σ H Q := by
  obtain ⟨φ, ι, σd, S, k, R, RE, w, P⟩ := h
  refine ⟨φ, ι, σd, S, _, R, RE, w, fun d S1 ι1 H1 v hd E R1 r => ?_⟩
  show rMinD K [v] [.non] H1 Q
  have hd : minNW d S1 k := hd
  unfold minNW at hd
  split at hd
  · rename_i e
    obtain ⟨ds, e1, e2⟩ := Option.bind_eq_some_iff.mp e
    obtain ⟨a, ws, rfl, q, r⟩ := seq_of R1 r e1
    rw [ints_of r e2] at q
    exact ⟨a, _, rfl, rfl, q, fun e => (P.step E).here R1 (hd.1 e) rfl, fun m h1 h2 => (P.step E).here R1 (hd.2 m h1 h2) rfl⟩
  · exact hd.elim
theorem keysOk_all : ∀ {ks : List Key} {es : List (Option Expr)}, keysOk ks es = true → es.all (·.isSome) = true ∧ es.length = ks.length
  | [], [], _ => ⟨rfl, rfl⟩
  | [], _ :: _, h => by cases h
  | .inr s :: ks, es, h => by
    unfold keysOk at h
    split at h
    · rename_i e; cases e
    · rename_i e
      cases e
      rw [Bool.and_eq_true] at h
      obtain ⟨a, b⟩ := keysOk_all h.2
      exact ⟨by simpa using a, by simp [b]⟩
    · rename_i e; cases e
    · cases h
  | .inl s :: ks, es, h => by
    unfold keysOk at h
    split at h
    · rename_i e; cases e
    · rename_i e; cases e
    · rename_i e
      cases e
      rw [Bool.and_eq_true] at h
      obtain ⟨a, b⟩ := keysOk_all h.2
      exact ⟨by simpa using a, by simp [b]⟩
    · cases h
mutual
theorem soundE : ∀ (p : PX) (X : Cx) (fnc : Option Scope) (e : Expr), XOk T n fnc X → okE T X.N fnc X.env.scope p e = true →
    PE X e (tD X.K (wE (callW T n) p)) ∧ PT X e (tDT X.K (wT (callW T n) p)) ∧ (isBoolP p = true → PW X e (tDT X.K (wT (callW T n) p)))
  | .var i, X, fnc, e, xo, h => by
    cases e with
    | Name x pos =>
      have h : (decide (X.N[i]? = some x) && visB X.env.scope x && !(x == ("__debug__" : Str)) && !(x == ("__classdict__" : Str))) = true := h
      simp only [Bool.and_eq_true, decide_eq_true_eq, Bool.not_eq_true'] at h
      obtain ⟨⟨⟨h1, h2⟩, h3⟩, h4⟩ := h
      refine ⟨PE.imp (pe_var h1 (vis_of h2) h3 h4) ?_, PT.none fun _ _ _ q => q, fun z => by cases z⟩
      rintro σ H Q ⟨φ, ι, σd, S, k, R, RE, w, P⟩
      have w : (match σd[i]? with
        | some (some d) => k d S
        | _ => False) := w
      split at w
      · rename_i d e
        obtain ⟨v, e1, r⟩ := RE.get i d e
        exact ⟨v, e1, P.here R w r⟩
      · exact w.elim
    | _ => cases h
  | .con x i, X, fnc, e, xo, h => by
    cases e with
    | Name y pos =>
      have h : (decide (x = y) && isG X.env.scope x && constIn T x i && !(x == ("__name__" : Str))) = true := h
      simp only [Bool.and_eq_true, decide_eq_true_eq, Bool.not_eq_true'] at h
      obtain ⟨⟨⟨rfl, h2⟩, h3⟩, h4⟩ := h
      obtain ⟨g1, g2⟩ := gl_of h2
      obtain ⟨t, e⟩ := xo.con x i h3
      exact ⟨PE.imp (pe_glob (v := .int i) g1 e ⟨t, rfl⟩ g2) fun σ H Q q => tD_const (d := .int i) rfl q, PT.none fun _ _ _ q => q, fun z => by cases z⟩
    | _ => cases h
  | .non, X, fnc, e, xo, h => by
    cases e with
    | Constant c j pos =>
      cases c with
      | none => exact ⟨PE.imp pe_non fun σ H Q q => tD_const (d := .non) rfl q, PT.none fun _ _ _ q => q, fun z => by cases z⟩
      | _ => cases h
    | _ => cases h
  | .bl b, X, fnc, e, xo, h => by
    cases e with
    | Constant c j pos =>
      cases c with
      | bool c =>
        have h : (b == c) = true := h
        rw [beq_iff_eq] at h
        subst h
        exact ⟨PE.imp pe_bl fun σ H Q q => tD_const (d := .bl b) rfl q, PT.none fun _ _ _ q => q, fun z => by cases z⟩
      | _ => cases h
    | _ => cases h
  | .int b, X, fnc, e, xo, h => by
    cases e with
    | Constant c j pos =>
      cases c with
      | int c =>
        have h : (b == c) = true := h
        rw [beq_iff_eq] at h
        subst h
        exact ⟨PE.imp pe_int fun σ H Q q => tD_const (d := .int b) rfl q, PT.none fun _ _ _ q => q, fun z => by cases z⟩
      | _ => cases h
    | _ => cases h
  | .str b, X, fnc, e, xo, h => by
    cases e with
    | Constant c j pos =>
      cases c with
      | str c =>
        have h : decide (b = c) = true := h
        have h := of_decide_eq_true h
        subst h
        exact ⟨PE.imp pe_str fun σ H Q q => tD_const (d := .str b) rfl q, PT.none fun _ _ _ q => q, fun z => by cases z⟩
      | _ => cases h
    | _ => cases h
  | .tup es, X, fnc, e, xo, h => by
    cases e with
    | Tuple xs j pos =>
      have h : (okEs T X.N fnc X.env.scope es xs && decide (es.length ≤ 1000)) = true := h
      simp only [Bool.and_eq_true, decide_eq_true_eq] at h
      refine ⟨PE.imp (pe_tup (soundEs es X fnc xs xo h.1)) ?_, PT.none fun _ _ _ q => q, fun z => by cases z⟩
      rintro σ H Q ⟨φ, ι, σd, S, k, R, RE, w, P⟩
      refine ⟨φ, ι, σd, S, fun ds S1 => ds.length = es.length ∧ k (.tup ds) S1, R, RE, wEs_len (callW_mono T n) _ _ _ _ w, fun ds S1 ι1 H1 vs hd E1 R1 r => ⟨?_, fun p hp => (P.step E1).tup R1 hd.2 r hp⟩⟩
      rw [reps_len r, hd.1]
      exact Nat.le_trans h.2 (by decide)
    | _ => cases h
  | .ls es, X, fnc, e, xo, h => by
    cases e with
    | List xs pos =>
      have h : (okEs T X.N fnc X.env.scope es xs && decide (es.length ≤ 1000)) = true := h
      simp only [Bool.and_eq_true, decide_eq_true_eq] at h
      refine ⟨PE.imp (pe_lst (soundEs es X fnc xs xo h.1)) ?_, PT.none fun _ _ _ q => q, fun z => by cases z⟩
      rintro σ H Q ⟨φ, ι, σd, S, k, R, RE, w, P⟩
      refine ⟨φ, ι, σd, S, fun ds S1 => ds.length = es.length ∧ k (.ro ds) S1, R, RE, wEs_len (callW_mono T n) _ _ _ _ w, fun ds S1 ι1 H1 vs hd E1 R1 r => ⟨?_, fun p hp => (P.step E1).ro R1 hd.2 r hp⟩⟩
      rw [reps_len r, hd.1]
      exact Nat.le_trans h.2 (by decide)
    | _ => cases h
  | .mls es, X, fnc, e, xo, h => by
    cases e with
    | List xs pos =>
      have h : (okEs T X.N fnc X.env.scope es xs && decide (es.length ≤ 1000)) = true := h
      simp only [Bool.and_eq_true, decide_eq_true_eq] at h
      refine ⟨PE.imp (pe_lst (soundEs es X fnc xs xo h.1)) ?_, PT.none fun _ _ _ q => q, fun z => by cases z⟩
      rintro σ H Q ⟨φ, ι, σd, S, k, R, RE, w, P⟩
      refine ⟨φ, ι, σd, S, fun ds S1 => ds.length = es.length ∧ k (.ptr S1.length) (S1 ++ [ds]), R, RE, wEs_len (callW_mono T n) _ _ _ _ w, fun ds S1 ι1 H1 vs hd E1 R1 r => ⟨?_, fun p hp => (P.step E1).mls R1 hd.2 r hp⟩⟩
      rw [reps_len r, hd.1]
      exact Nat.le_trans h.2 (by decide)
    | _ => cases h
  | .bin op a b, X, fnc, e, xo, h => by
    cases e with
    | BinOp ea o eb pos =>
      have h : (decide (opOf op = o) && okE T X.N fnc X.env.scope a ea && okE T X.N fnc X.env.scope b eb) = true := h
      simp only [Bool.and_eq_true, decide_eq_true_eq] at h
      obtain ⟨⟨rfl, h1⟩, h2⟩ := h
      exact ⟨PE.imp (pe_op opB (soundE a X fnc ea xo h1).1 (soundE b X fnc eb xo h2).1) fun σ H Q q => tD_op (g := binW op) (fun R rx ry g P => bin_ok R rx ry g P) q, PT.none fun _ _ _ q => q, fun z => by cases z⟩
    | _ => cases h
  | .neg a, X, fnc, e, xo, h => by
    cases e with
    | UnaryOp o ea pos =>
      cases o with
      | USub =>
        have h : okE T X.N fnc X.env.scope a ea = true := h
        refine ⟨PE.imp (pe_un unB (soundE a X fnc ea xo h).1) fun σ H Q q => tD_un (g := fun x S1 k => match x with
          | .int i => k (.int (-i)) S1
          | _ => False) (fun {φ ι H S k Q x v} R rx g P => ?_) q, PT.none fun _ _ _ q => q, fun z => by cases z⟩
        cases x with
        | int i => exact neg_ok R rx g P
        | _ => exact (show False from g).elim
      | _ => cases h
    | _ => cases h
  | .notv a, X, fnc, e, xo, h => by
    cases e with
    | UnaryOp o ea pos =>
      cases o with
      | Not =>
        have h : okE T X.N fnc X.env.scope a ea = true := h
        refine ⟨PE.imp (pe_notT (soundE a X fnc ea xo h).1) fun σ H Q q => ?_, PT.imp (pt_not (soundE a X fnc ea xo h).2.1) fun σ H Q q => not_imp q, fun z => by cases z⟩
        obtain ⟨φ, ι, σd, S, k, R, RE, w, P⟩ := q
        refine ⟨φ, ι, σd, S, _, R, RE, w, fun d S1 ι1 H1 v hd E R1 r => ?_⟩
        obtain ⟨t, h1, h2⟩ := truth_ok R1 r hd
        exact ⟨t, h1, P _ _ _ _ _ h2 E R1 rfl⟩
      | _ => cases h
    | _ => cases h
  | .cmp op a b, X, fnc, e, xo, h => by
    cases e with
    | Compare ea os ebs pos =>
      match os, ebs, h with
      | [o], [eb], h =>
        have h : (decide (cpOf op = o) && okE T X.N fnc X.env.scope a ea && okE T X.N fnc X.env.scope b eb && !(behindInMarks o eb)) = true := h
        simp only [Bool.and_eq_true, decide_eq_true_eq, Bool.not_eq_true'] at h
        obtain ⟨⟨⟨rfl, h1⟩, h2⟩, h3⟩ := h
        have hu := xo.room.units
        exact ⟨PE.imp (pe_cmpR opB (soundE a X fnc ea xo h1).1 (soundE b X fnc eb xo h2).1 h3) fun σ H Q q => tD_op (g := cmpW op) (fun R rx ry g P => cmp_ok hu R rx ry g P) q,
          PT.imp (pt_cmpR opB (soundE a X fnc ea xo h1).1 (soundE b X fnc eb xo h2).1 h3) fun σ H Q q => tst_imp (g := cmpW op) (fun R rx ry g P => cmp_ok hu R rx ry g P) q, fun z => by cases z⟩
    | _ => cases h
  | .chain op op' a b c, X, fnc, e, xo, h => by
    cases e with
    | Compare ea os ebs pos =>
      match os, ebs, h with
      | [o, o'], [eb, ec], h =>
        have h : (decide (cpOf op = o) && decide (cpOf op' = o') && okE T X.N fnc X.env.scope a ea && okE T X.N fnc X.env.scope b eb && okE T X.N fnc X.env.scope c ec && !(lastMarks [o, o'] [eb, ec])) = true := h
        simp only [Bool.and_eq_true, decide_eq_true_eq, Bool.not_eq_true'] at h
        obtain ⟨⟨⟨⟨⟨rfl, rfl⟩, h1⟩, h2⟩, h3⟩, h4⟩ := h
        have hu := xo.room.units
        exact ⟨PE.imp (pe_chain opB opB (soundE a X fnc ea xo h1).1 (soundE b X fnc eb xo h2).1 (soundE c X fnc ec xo h3).1 h4) fun σ H Q q => chn_imp (g := cmpW op) (g' := cmpW op') (fun R rx ry g P => cmp_ok hu R rx ry g P) (fun R rx ry g P => cmp_ok hu R rx ry g P) q,
          PT.imp (pt_chain opB opB (soundE a X fnc ea xo h1).1 (soundE b X fnc eb xo h2).1 (soundE c X fnc ec xo h3).1 h4) fun σ H Q q => chnT_imp (g := cmpW op) (g' := cmpW op') (fun R rx ry g P => cmp_ok hu R rx ry g P) (fun R rx ry g P => cmp_ok hu R rx ry g P) q, fun z => by cases z⟩
    | _ => cases h
  | .andv a r, X, fnc, e, xo, h => by
    cases e with
    | BoolOp o es pos =>
      cases o with
      | And =>
        match es, h with
        | ea :: eb :: rest, h =>
          have h : (okE T X.N fnc X.env.scope a ea && okE T X.N fnc X.env.scope r (.BoolOp .And (eb :: rest) pos)) = true := h
          simp only [Bool.and_eq_true] at h
          have hr := soundE r X fnc _ xo h.2
          have hW := hr.2.2 (bool_of h.2)
          have pw := PW.imp (pw_and (pos := pos) (soundE a X fnc ea xo h.1).2.1 hW) fun σ H Q q => and_imp q
          refine ⟨PE.imp (pe_and (soundE a X fnc ea xo h.1).1 hr.1) ?_, pw.pt, fun _ => pw⟩
          rintro σ H Q ⟨φ, ι, σd, S, k, R, RE, w, P⟩
          refine ⟨φ, ι, σd, S, _, R, RE, w, fun d S1 ι1 H1 v hd E R1 rd => ?_⟩
          cases d with
          | bl t =>
            refine ⟨t, rd, ?_⟩
            cases t with
            | true =>
              rw [if_pos rfl]
              exact ⟨φ, ι1, σd, S1, k, R1, RE.mono E, hd, P.step E⟩
            | false =>
              rw [if_neg Bool.false_ne_true]
              exact P _ _ _ _ _ hd E R1 rfl
          | _ => exact (show False from hd).elim
      | _ => cases h
    | _ => cases h
  | .orv a r, X, fnc, e, xo, h => by
    cases e with
    | BoolOp o es pos =>
      cases o with
      | Or =>
        match es, h with
        | ea :: eb :: rest, h =>
          have h : (okE T X.N fnc X.env.scope a ea && okE T X.N fnc X.env.scope r (.BoolOp .Or (eb :: rest) pos)) = true := h
          simp only [Bool.and_eq_true] at h
          have hr := soundE r X fnc _ xo h.2
          have hW := hr.2.2 (bool_of h.2)
          have pw := PW.imp (pw_or (pos := pos) (soundE a X fnc ea xo h.1).2.1 hW) fun σ H Q q => or_imp q
          refine ⟨PE.imp (pe_or (soundE a X fnc ea xo h.1).1 hr.1) ?_, pw.pt, fun _ => pw⟩
          rintro σ H Q ⟨φ, ι, σd, S, k, R, RE, w, P⟩
          refine ⟨φ, ι, σd, S, _, R, RE, w, fun d S1 ι1 H1 v hd E R1 rd => ?_⟩
          cases d with
          | bl t =>
            refine ⟨t, rd, ?_⟩
            cases t with
            | true =>
              rw [if_pos rfl]
              exact P _ _ _ _ _ hd E R1 rfl
            | false =>
              rw [if_neg Bool.false_ne_true]
              exact ⟨φ, ι1, σd, S1, k, R1, RE.mono E, hd, P.step E⟩
          | _ => exact (show False from hd).elim
      | _ => cases h
    | _ => cases h
  | .one a, X, fnc, e, xo, h => by
    cases e with
    | BoolOp o es pos =>
      match es, h with
      | [ea], h =>
        have h : okE T X.N fnc X.env.scope a ea = true := h
        have q := soundE a X fnc ea xo h
        have pw : PW X (.BoolOp o [ea] pos) (tDT X.K (wT (callW T n) a)) := by
          cases o with
          | And => exact pw_and1 q.2.1
          | Or => exact pw_or1 q.2.1
        exact ⟨pe_one q.1, pw.pt, fun _ => pw⟩
    | _ => cases h
  | .tru a, X, fnc, e, xo, h => by
    have h : (okE T X.N fnc X.env.scope a e && plainT e) = true := h
    simp only [Bool.and_eq_true] at h
    have q := soundE a X fnc e xo h.1
    exact ⟨q.1, PT.imp (pt_truth q.1 (isTrue_of h.2)) fun σ H Q z => tru_imp z, fun z => by cases z⟩
  | .ite c a b, X, fnc, e, xo, h => by
    cases e with
    | IfExp ec ea eb pos =>
      have h : (okE T X.N fnc X.env.scope c ec && okE T X.N fnc X.env.scope a ea && okE T X.N fnc X.env.scope b eb) = true := h
      simp only [Bool.and_eq_true] at h
      obtain ⟨⟨h1, h2⟩, h3⟩ := h
      refine ⟨PE.imp (pe_ifExp (soundE c X fnc ec xo h1).2.1 (soundE a X fnc ea xo h2).1 (soundE b X fnc eb xo h3).1) ?_, PT.none fun _ _ _ q => q, fun z => by cases z⟩
      rintro σ H Q ⟨φ, ι, σd, S, k, R, RE, w, P⟩
      refine ⟨φ, ι, σd, S, _, R, RE, w, fun t S1 ι1 H1 ht E R1 => ?_⟩
      cases t with
      | true =>
        rw [if_pos rfl]
        exact ⟨φ, ι1, σd, S1, k, R1, RE.mono E, ht.1 rfl, P.step E⟩
      | false =>
        rw [if_neg Bool.false_ne_true]
        exact ⟨φ, ι1, σd, S1, k, R1, RE.mono E, ht.2 rfl, P.step E⟩
    | _ => cases h
  | .call f es, X, fnc, e, xo, h => by
    cases e with
    | Call ef xs kws pos =>
      cases ef with
      | Name x ps =>
        match xs, kws, h with
        | e0 :: xs, [], h =>
          have h : (callOk T f && decide (x = nameD T f) && isG X.env.scope x && okEs T X.N fnc X.env.scope es (e0 :: xs)) = true := h
          simp only [Bool.and_eq_true, decide_eq_true_eq] at h
          obtain ⟨⟨⟨h1, rfl⟩, h3⟩, h4⟩ := h
          obtain ⟨fa, fd, pn, m1, m2, m3, m4⟩ := (xo.fns f h1).ex
          obtain ⟨g1, g2⟩ := gl_of h3
          obtain ⟨s1, s2⟩ := star_cons (env := X.env) h4
          refine ⟨PE.imp (pe_call m4 xo.room g1 m1 m2 m3 .nil pass0 (soundEs es X fnc _ xo h4) g2 s1 (s2 pos)) ?_, PT.none fun _ _ _ q => q, fun z => by cases z⟩
          rintro σ H Q ⟨φ, ι, σd, S, k, R, RE, w, P⟩
          refine ⟨φ, ι, σd, S, _, R, RE, w, fun ds S1 ι1 H1 vs hd E R1 r => ?_⟩
          show spD X.K (callW T n f) (vs ++ []) H1 Q E0
          rw [List.append_nil]
          exact ⟨φ, ι1, S1, ds, k, R1, r, hd, P.step E⟩
      | _ => cases h
    | _ => cases h
  | .bi b es, X, fnc, e, xo, h => by
    cases e with
    | Call ef xs kws pos =>
      cases ef with
      | Name x ps =>
        match xs, kws, h with
        | e0 :: xs, [], h =>
          have h : (decide (x = Str.ofString (biN b)) && isG X.env.scope x && argsChk b (okEs T X.N fnc X.env.scope es) X.env.scope e0 xs) = true := h
          simp only [Bool.and_eq_true, decide_eq_true_eq] at h
          obtain ⟨⟨rfl, h3⟩, h4⟩ := h
          obtain ⟨g1, g2⟩ := gl_of h3
          refine ⟨?_, PT.none fun _ _ _ q => q, fun z => by cases z⟩
          by_cases hi : ∃ t, b = .isI t
          · obtain ⟨t, rfl⟩ := hi
            match xs, h4 with
            | [.Name y py], h4 =>
              have h4 : (decide (y = Str.ofString t) && isG X.env.scope y && decide (t ∈ ["int", "bool", "str", "tuple", "list"]) && okEs T X.N fnc X.env.scope es [e0]) = true := h4
              simp only [Bool.and_eq_true, decide_eq_true_eq] at h4
              obtain ⟨⟨⟨rfl, h5⟩, h6⟩, h7⟩ := h4
              obtain ⟨s1, s2⟩ := star_cons (env := X.env) h7
              have hl := (okEs_star (env := X.env) (pos := pos) h7).2.2
              match es, h7, hl with
              | [p], h7, hl =>
                have h7 : (plainA e0 && okE T X.N fnc X.env.scope p e0 && okEs T X.N fnc X.env.scope [] []) = true := h7
                simp only [Bool.and_eq_true] at h7
                have hc := nameCls xo (pos := py) h6 h5
                have ha := pa_cons (soundE p X fnc e0 xo h7.1.2).1 (pa_cons hc pa_nil rfl) (star_of _ h7.1.1)
                refine PE.imp (pe_callB (callB (X := X) (f := .builtin "isinstance")) g1 (xo.blt (.isI t)) (bi_gl (b := .isI t)) ha (bi_name (b := .isI t)) g2 (star_of _ h7.1.1) rfl) ?_
                rintro σ H Q ⟨φ, ι, σd, S, k, R, RE, w, P⟩
                refine ⟨φ, ι, σd, S, _, R, RE, w, fun d S1 ι1 H1 v hd E R1 r => ?_⟩
                have rr : reps X.K φ ι1 H1 [d] [v] := ⟨v, [], rfl, r, rfl⟩
                exact bi_ok (b := .isI t) xo.calm R1 rr hd (P.step E)
          · have h4 : okEs T X.N fnc X.env.scope es (e0 :: xs) = true := by
              cases b <;> first
                | exact h4
                | exact (hi ⟨_, rfl⟩).elim
            obtain ⟨s1, s2⟩ := star_cons (env := X.env) h4
            have hx : ∀ vs, biX b vs = vs := fun vs => by
              cases b <;> first
                | rfl
                | exact (hi ⟨_, rfl⟩).elim
            have pa := soundEs es X fnc _ xo h4
            have key : ∀ σ H Q, tD X.K (wE (callW T n) (.bi b es)) σ H Q → tCB (CallB X (biV b)) (tDs X.K (wEs (callW T n) es)) σ H Q := by
              rintro σ H Q ⟨φ, ι, σd, S, k, R, RE, w, P⟩
              refine ⟨φ, ι, σd, S, _, R, RE, w, fun ds S1 ι1 H1 vs hd E R1 r => ?_⟩
              have q := bi_ok (b := b) xo.calm R1 r hd (P.step E)
              rw [hx] at q
              exact q
            have hN := bi_name (b := b)
            have hB := bi_gl (b := b)
            have hM := xo.blt b
            generalize biN b = nm at g1 g2 hN hB hM
            cases b <;> first
              | exact PE.imp (pe_callB callB g1 hM hB pa hN g2 s1 (s2 pos)) key
              | exact PE.imp (pe_callTy callB g1 hM hB pa hN g2 s1 (s2 pos)) key
              | exact (hi ⟨_, rfl⟩).elim
      | _ => cases h
    | _ => cases h
  | .meth m o es, X, fnc, e, xo, h => by
    cases e with
    | Call ef xs kws cpos =>
      cases ef with
      | Attribute eo nm apos =>
        match kws, h with
        | [], h =>
          have h : (decide (nm = Str.ofString (mtN m)) && okE T X.N fnc X.env.scope o eo && plainO eo && okEs T X.N fnc X.env.scope es xs && (apos.endLine == cpos.line) && mthLen m xs) = true := h
          simp only [Bool.and_eq_true, decide_eq_true_eq] at h
          obtain ⟨⟨⟨⟨⟨rfl, h2⟩, h3⟩, h4⟩, h5⟩, h6⟩ := h
          refine ⟨?_, PT.none fun _ _ _ q => q, fun z => by cases z⟩
          have hO := (soundE o X fnc eo xo h2).1
          have hA := soundEs es X fnc xs xo h4
          exact meth_sound xo hO hA h3 h4 h5 h6
      | _ => cases h
    | _ => cases h
  | .lrg mu a, X, fnc, e, xo, h => by
    cases e with
    | Call ef xs kws pos =>
      cases ef with
      | Name x ps =>
        match xs, kws, h with
        | [e0], [], h =>
          have hh : (match unArg e0 with
            | some (y, e1) => decide (x = "list") && decide (y = "range") && isG X.env.scope x && isG X.env.scope y && plainA e1 && okE T X.N fnc X.env.scope a e1
            | none => false) = true := h
          clear h
          split at hh
          case h_2 => cases hh
          rename_i y e1 hu
          simp only [Bool.and_eq_true, decide_eq_true_eq] at hh
          obtain ⟨⟨⟨⟨⟨rfl, rfl⟩, h3⟩, h4⟩, h5⟩, h6⟩ := hh
          obtain ⟨py, p2, rfl⟩ := unArg_eq hu
          refine ⟨PE.imp (pe_listRg xo.calm (gl_of h3).1 (xo.blt .list) (prg_1 (gl_of h4).1 xo.rng (soundE a X fnc e1 xo h6).1 (star_of _ h5))) ?_, PT.none fun _ _ _ q => q, fun z => by cases z⟩
          rintro σ H Q ⟨φ, ι, σd, S, k, R, RE, w, P⟩
          refine ⟨φ, ι, σd, S, _, R, RE, w, fun d S1 ι1 H1 v hd E1 R1 r => ?_⟩
          cases d with
          | int m =>
            obtain rfl : v = .int m := r
            obtain ⟨hd1, hd2⟩ := hd
            refine ⟨m, rfl, ⟨by decide, by decide, hd1.1, by omega, by omega⟩, fun p hp => ?_⟩
            have rr := reps_rg (K := X.K) (φ := φ) (ι := ι1) (H := H1) m
            by_cases hm : mu = true
            · rw [if_pos hm] at hd2
              exact (P.step E1).mls R1 hd2 rr hp
            · rw [if_neg hm] at hd2
              exact (P.step E1).ro R1 hd2 rr hp
          | _ => exact (show False from hd).elim
      | _ => cases h
    | _ => cases h
  | .minN a, X, fnc, e, xo, h => by
    have h0 : (match minArg e with
      | some (y, e1) => decide (y = "min") && isG X.env.scope y && plainA e1 && okE T X.N fnc X.env.scope a e1
      | none => false) = true := h
    cases hm : minArg e with
    | none =>
      rw [hm] at h0
      cases h0
    | some ye =>
      obtain ⟨y, e1⟩ := ye
      rw [hm] at h0
      have h0 : (decide (y = "min") && isG X.env.scope y && plainA e1 && okE T X.N fnc X.env.scope a e1) = true := h0
      simp only [Bool.and_eq_true, decide_eq_true_eq] at h0
      obtain ⟨⟨⟨rfl, h2⟩, h3⟩, h4⟩ := h0
      obtain ⟨p, q, c1, c2, c3, rfl⟩ := minArg_eq hm
      obtain ⟨g1, g2⟩ := gl_of h2
      have hs := star_of (env := X.env) [] h3
      exact ⟨PE.imp (pe_callBK (cr_minD xo.calm) g1 (xo.blt .min) (bi_gl (b := .min)) (pa_cons (soundE a X fnc e1 xo h4).1 pa_nil hs) (pk_cons pe_non pk_nil) (bi_name (b := .min)) g2 (by rw [hs]; rfl) (by rw [hs]; rfl) rfl rfl rfl) fun σ H Q q => minN_imp q, PT.none fun _ _ _ q => q, fun z => by cases z⟩
  | .dct ks es, X, fnc, e, xo, h => by
    cases e with
    | Dict keys xs pos =>
      have h : (keysOk ks keys && okEs T X.N fnc X.env.scope es xs && decide (ks.length = es.length) && decide (ks.length ≤ 15) && !ks.isEmpty && decide ks.Nodup) = true := h
      simp only [Bool.and_eq_true, decide_eq_true_eq, Bool.not_eq_true'] at h
      obtain ⟨⟨⟨⟨⟨h1, h2⟩, h3⟩, h4⟩, h5⟩, h6⟩ := h
      obtain ⟨k1, k2⟩ := keysOk_all h1
      have k3 : keys ≠ [] := fun z => by
        rw [z] at k2
        cases ks with
        | nil => cases h5
        | cons _ _ => cases k2
      exact ⟨PE.imp (pe_disp (soundKs es X fnc ks keys xs pos xo h1 h2 h3).1 k1 (soundKs es X fnc ks keys xs pos xo h1 h2 h3).2 k3 (by omega)) fun σ H Q q => disp_imp h3 h4 h6 q, PT.none fun _ _ _ q => q, fun z => by cases z⟩
    | _ => cases h
  | .idx a i, X, fnc, e, xo, h => by
    cases e with
    | Subscript ea ei pos =>
      have h : (okE T X.N fnc X.env.scope a ea && okE T X.N fnc X.env.scope i ei && plainS ei) = true := h
      simp only [Bool.and_eq_true] at h
      exact ⟨PE.imp (pe_ix ixB (soundE a X fnc ea xo h.1.1).1 (soundE i X fnc ei xo h.1.2).1 (plainIx_of h.2)) fun σ H Q q => tD_op (g := idxW) (fun R rx ry g P => idx_ok xo.room.units R rx ry g P) q, PT.none fun _ _ _ q => q, fun z => by cases z⟩
    | _ => cases h
  | .slc a lo hi, X, fnc, e, xo, h => by
    cases e with
    | Subscript ea es pos =>
      cases es with
      | Slice elo ehi est p2 =>
        match est, h with
        | none, h =>
          have h : (okE T X.N fnc X.env.scope a ea && okO T X.N fnc X.env.scope lo elo && okO T X.N fnc X.env.scope hi ehi) = true := h
          simp only [Bool.and_eq_true] at h
          refine ⟨PE.imp (pe_slice slB (soundE a X fnc ea xo h.1.1).1 (soundO lo X fnc elo xo h.1.2) (soundO hi X fnc ehi xo h.2)) ?_, PT.none fun _ _ _ q => q, fun z => by cases z⟩
          rintro σ H Q ⟨φ, ι, σd, S, k, R, RE, w, P⟩
          refine ⟨φ, ι, σd, S, _, R, RE, w, fun d S1 ι1 H1 v hd E1 R1 rd => ⟨φ, ι1, σd, S1, _, R1, RE.mono E1, hd, fun l S2 ι2 H2 hl E2 R2 => ⟨φ, ι2, σd, S2, _, R2, RE.mono (E1.trans E2), hl, fun u S3 ι3 H3 hu E3 R3 => ?_⟩⟩⟩
          exact slc_ok R3 (rep_mono (E2.trans E3) _ _ rd) hu (P.step (E1.trans (E2.trans E3)))
      | _ => exact absurd h (by simp [okE])
    | _ => cases h
  | .comp mu elt p own rng src cond, X, fnc, e, xo, h => by
    refine ⟨?_, PT.none fun _ _ _ q => q, fun z => by cases z⟩
    obtain ⟨eelt, tg, iter, ifs, scope, pos, rfl, h1, h2, h3, h4, h5, h5', h6⟩ := okComp h
    have hb : ∀ (s : Shared) (H : Hp) (C : Addr) (cl : List (Str × Addr)) (fp : List Addr), XOk T n (some scope) (X.blk s H scope (compEnvC scope cl C X.env) fp) := fun s H C cl fp => xo.blk
    have hI : PI X tg iter (tDI X.K (wI (callW T n) rng src)) := by
      cases rng with
      | rg => exact rng_sound xo (fun xs z => soundEs src X fnc xs xo z) h5
      | en => exact en_sound xo (fun xs z => soundEs src X fnc xs xo z) h5 (enTp_tg h2 h5')
      | sq =>
        match src, h5 with
        | [q], h5 =>
          have h5 : (plainA iter && okE T X.N fnc X.env.scope q iter && okEs T X.N fnc X.env.scope [] []) = true := h5
          simp only [Bool.and_eq_true] at h5
          exact PI.imp (pi_seq (soundE q X fnc iter xo h5.1.2).1) fun σ H Q z => seq_imp z
    have hT : ∀ (s : Shared) (H : Hp) (C : Addr) (cl : List (Str × Addr)) (fp : List Addr), PTs (X.blk s H scope (compEnvC scope cl C X.env) fp) ifs (tDT X.K (wC (callW T n) cond)) := fun s H C cl fp =>
      soundC cond (X.blk s H scope (compEnvC scope cl C X.env) fp) (some scope) ifs (hb s H C cl fp) h6
    exact PE.imp (pe_lc (own := own) xo.calm xo.nd hI (blkOk_by h1) (fun s H C cl fp => soundP (hb s H C cl fp) p tg h2) hT
      (fun s H C cl fp => (soundE elt (X.blk s H scope (compEnvC scope cl C X.env) fp) (some scope) eelt (hb s H C cl fp) h3).1) (fold_of h4)) fun σ H Q q => comp_imp q
theorem soundEs : ∀ (ps : List PX) (X : Cx) (fnc : Option Scope) (es : List Expr), XOk T n fnc X → okEs T X.N fnc X.env.scope ps es = true → PA X es (tDs X.K (wEs (callW T n) ps))
  | [], X, fnc, es, xo, h => by
    cases es with
    | nil =>
      refine PA.imp pa_nil ?_
      rintro σ H Q ⟨φ, ι, σd, S, k, R, RE, w, P⟩
      exact P _ _ _ _ _ w .refl R rfl
    | cons _ _ => cases h
  | p :: ps, X, fnc, es, xo, h => by
    cases es with
    | nil => cases h
    | cons e es =>
      have h : (plainA e && okE T X.N fnc X.env.scope p e && okEs T X.N fnc X.env.scope ps es) = true := h
      simp only [Bool.and_eq_true] at h
      exact PA.consD (soundE p X fnc e xo h.1.2).1 (soundEs ps X fnc es xo h.2) (star_of es h.1.1)
theorem soundKs : ∀ (ps : List PX) (X : Cx) (fnc : Option Scope) (ks : List Key) (keys : List (Option Expr)) (es : List Expr) (pos : Pos), XOk T n fnc X → keysOk ks keys = true → okEs T X.N fnc X.env.scope ps es = true → ks.length = ps.length →
    PPs X pos keys es (trsOf X.K (callW T n) ks ps) ∧ keys.length = es.length
  | [], X, fnc, ks, keys, es, pos, xo, h1, h2, h3 => by
    match ks, keys, es, h1, h2, h3 with
    | [], [], [], _, _, _ => exact ⟨pps_nil, rfl⟩
  | p :: ps, X, fnc, ks, keys, es, pos, xo, h1, h2, h3 => by
    match ks, es, h1, h2, h3 with
    | k :: ks, e :: es, h1, h2, h3 =>
      have h2 : (plainA e && okE T X.N fnc X.env.scope p e && okEs T X.N fnc X.env.scope ps es) = true := h2
      simp only [Bool.and_eq_true] at h2
      match k, keys, h1 with
      | .inr s, some (.Constant (.str t) a b) :: keys, h1 =>
        have h1 : (decide (s = t) && keysOk ks keys) = true := h1
        simp only [Bool.and_eq_true, decide_eq_true_eq] at h1
        obtain ⟨rfl, hk⟩ := h1
        have ih := soundKs ps X fnc ks keys es pos xo hk h2.2 (Nat.succ.inj h3)
        exact ⟨pps_cons pe_str (soundE p X fnc e xo h2.1.2).1 ih.1, by simp [ih.2]⟩
      | .inl s, some (.Constant (.int t) a b) :: keys, h1 =>
        have h1 : (s == t && keysOk ks keys) = true := h1
        rw [Bool.and_eq_true] at h1
        obtain ⟨h0, hk⟩ := h1
        obtain rfl := eq_of_beq h0
        have ih := soundKs ps X fnc ks keys es pos xo hk h2.2 (Nat.succ.inj h3)
        exact ⟨pps_cons pe_int (soundE p X fnc e xo h2.1.2).1 ih.1, by simp [ih.2]⟩
theorem soundC : ∀ (o : Option PX) (X : Cx) (fnc : Option Scope) (ifs : List Expr), XOk T n fnc X → okC T X.N fnc X.env.scope o ifs = true → PTs X ifs (tDT X.K (wC (callW T n) o))
  | none, X, fnc, ifs, xo, h => by
    cases ifs with
    | nil => exact PTs.impD pts_nil
    | cons _ _ => cases h
  | some p, X, fnc, ifs, xo, h => by
    match ifs, h with
    | [e], h => exact pts_one (soundE p X fnc e xo h).2.1
theorem soundO : ∀ (o : Option PX) (X : Cx) (fnc : Option Scope) (e : Option Expr), XOk T n fnc X → okO T X.N fnc X.env.scope o e = true → PO X e (tDO X.K (wO (callW T n) o))
  | none, X, fnc, e, xo, h => by
    cases e with
    | none =>
      refine PO.imp po_none ?_
      rintro σ H Q ⟨φ, ι, σd, S, k, R, RE, w, P⟩
      exact P _ _ _ _ w .refl R
    | some _ => cases h
  | some p, X, fnc, e, xo, h => by
    cases e with
    | none => cases h
    | some e =>
      have h : okE T X.N fnc X.env.scope p e = true := h
      refine PO.imp (po_some (soundE p X fnc e xo h).1) ?_
      rintro σ H Q ⟨φ, ι, σd, S, k, R, RE, w, P⟩
      refine ⟨φ, ι, σd, S, _, R, RE, w, fun d S1 ι1 H1 v hd E R1 r => ?_⟩
      cases d with
      | int i => exact ⟨i, r, P _ _ _ _ hd E R1⟩
      | _ => exact (show False from hd).elim
end
theorem iter_sound {X : Cx} {fnc : Option Scope} (xo : XOk T n fnc X) {tg iter : Expr} {rng : IK} {src : List PX} (h5 : iterChk (okEs T X.N fnc X.env.scope src) X.env.scope rng (src.length == 1) iter = true) (ht : rng = .en → ∃ es k pos, tg = .Tuple es k pos) : PI X tg iter (tDI X.K (wI (callW T n) rng src)) := by
  cases rng with
  | rg => exact rng_sound xo (fun xs z => soundEs src X fnc xs xo z) h5
  | en => exact en_sound xo (fun xs z => soundEs src X fnc xs xo z) h5 (ht rfl)
  | sq =>
    match src, h5 with
    | [q], h5 =>
      have h5 : (plainA iter && okE T X.N fnc X.env.scope q iter && okEs T X.N fnc X.env.scope [] []) = true := h5
      simp only [Bool.and_eq_true] at h5
      exact PI.imp (pi_seq (soundE q X fnc iter xo h5.1.2).1) fun σ H Q z => seq_imp z
theorem compParts {X : Cx} {fnc : Option Scope} (xo : XOk T n fnc X) {elt : PX} {p : PP} {own : List (Str × Nat)} {rng : IK} {src : List PX} {cond : Option PX} {eelt tg iter : Expr} {ifs : List Expr} {scope : Scope}
    (h2 : okP X.N (some scope) (relS scope X.env.scope) (own.map (·.2)) p tg = true) (h3 : okE T X.N (some scope) (relS scope X.env.scope) elt eelt = true)
    (h5 : iterChk (okEs T X.N fnc X.env.scope src) X.env.scope rng (src.length == 1) iter = true) (h5' : enTp rng p = true) (h6 : okC T X.N (some scope) (relS scope X.env.scope) cond ifs = true) :
    PI X tg iter (tDI X.K (wI (callW T n) rng src)) ∧
    (∀ (s : Shared) (H : Hp) (C : Addr) (cl : List (Str × Addr)) (fp : List Addr), PG (X.blk s H scope (compEnvC scope cl C X.env) fp) tg (tDG X.K (own.map (·.2)) (bindW p))) ∧
    (∀ (s : Shared) (H : Hp) (C : Addr) (cl : List (Str × Addr)) (fp : List Addr), PTs (X.blk s H scope (compEnvC scope cl C X.env) fp) ifs (tDT X.K (wC (callW T n) cond))) ∧
    (∀ (s : Shared) (H : Hp) (C : Addr) (cl : List (Str × Addr)) (fp : List Addr), PE (X.blk s H scope (compEnvC scope cl C X.env) fp) eelt (tD X.K (wE (callW T n) elt))) :=
  ⟨iter_sound xo h5 (fun e => by subst e; exact enTp_tg h2 h5'), fun s H C cl fp => soundP (XOk.blk xo (s := s) (H := H) (cenv := compEnvC scope cl C X.env) (fp := fp)) p tg h2,
    fun s H C cl fp => soundC cond (X.blk s H scope (compEnvC scope cl C X.env) fp) (some scope) ifs xo.blk h6,
    fun s H C cl fp => (soundE elt (X.blk s H scope (compEnvC scope cl C X.env) fp) (some scope) eelt xo.blk h3).1⟩
end
end Ov
-- OvI
namespace Ov
open PySem PySem.Spec PyProof.Rows L2

/-! ### statements -/
/-- a comprehension that is no store of its own -/
def swF (sc : Scope) (tg : Option Expr) (e : Expr) : Bool :=
  match e with
  | .ListComp _ _ s lpos => match tg with
    | some (.Name t py) => !(decide (sc.names.lookup t = some .local) && py.line == lpos.line && !(s.names.any fun (n, k) => n == t && (k == .local || k == .cell)))
    | some _ => true
    | none => false
  | .SetComp .. => false
  | .DictComp .. => false
  | _ => true
def swT (sc : Scope) (tg : Expr) (e : Expr) : Bool :=
  match tg, e with
  | .Name t py, .ListComp _ _ s lpos => decide (sc.names.lookup t = some .local) && py.line == lpos.line && !(s.names.any fun (n, k) => n == t && (k == .local || k == .cell))
  | _, _ => false
def isTup : Expr → Bool
  | .Tuple .. => true
  | _ => false
def tupLen : Expr → Nat
  | .Tuple es _ _ => es.length
  | _ => 0
/-- no two or three names change places -/
def noSwap (tg e : Expr) : Bool := match tg with
  | .Name .. => true
  | .Tuple ts _ _ => !(isTup e) || decide (4 ≤ ts.length)
  | _ => false
def slots : PP → List Nat
  | .nm i => [i]
  | .tp ps => slotss ps
where slotss : List PP → List Nat
  | [] => []
  | p :: ps => slots p ++ slotss ps
def asgAlt (N : List Str) (sc : Scope) (p : PP) (tg : Expr) (e : PX) (ee : Expr) : Bool :=
  match p, tg, e with
  | .nm i, .Name y _, .comp .. => decide (N[i]? = some y) && swT sc tg ee
  | _, _, _ => false
def augOk (op : BOp) (o : Operator) : Bool :=
  match op, o with
  | .add, .Add => true
  | .sub, .Sub => true
  | _, _ => false
theorem asgAlt_of {N : List Str} {sc : Scope} {p : PP} {tg : Expr} {e : PX} {ee : Expr} (h : asgAlt N sc p tg e ee = true) :
    ∃ i y py mu elt pp own rng src cond, p = .nm i ∧ tg = .Name y py ∧ e = .comp mu elt pp own rng src cond ∧ N[i]? = some y ∧ swT sc tg ee = true := by
  cases p with
  | nm i =>
    cases tg with
    | Name y py =>
      cases e with
      | comp mu elt pp own rng src cond =>
        have h : (decide (N[i]? = some y) && swT sc (.Name y py) ee) = true := h
        rw [Bool.and_eq_true, decide_eq_true_eq] at h
        exact ⟨i, y, py, mu, elt, pp, own, rng, src, cond, rfl, rfl, rfl, h.1, h.2⟩
      | _ => cases h
    | _ => cases h
  | tp _ => cases h
mutual
def okS (T : List DDef) (N : List Str) (sc : Scope) : PSt → Stmt → Bool
  | .asg p e, st => match st with
    | .Assign [tg] ee _ => okE T N none sc e ee && ((okP N none sc (List.range N.length) p tg && swF sc (some tg) ee && noSwap tg ee) || asgAlt N sc p tg e ee)
    | _ => false
  | .sub o i e, st => match st with
    | .Assign [.Subscript eo ei _] ee _ => okE T N none sc e ee && okE T N none sc o eo && okE T N none sc i ei && swF sc (some (.Subscript eo ei ⟨0, 0, 0, 0⟩)) ee && plainS ei
    | _ => false
  | .augS o i op e, st => match st with
    | .AugAssign (.Subscript eo ei _) oo ee _ => okE T N none sc o eo && okE T N none sc i ei && okE T N none sc e ee && augOk op oo && plainS ei
    | _ => false
  | .par _ _ _ _, _ => false
  | .aug i op e, st => match st with
    | .AugAssign (.Name x _) o ee _ => decide (N[i]? = some x) && locB none sc x && augOk op o && okE T N none sc e ee
    | _ => false
  | .expr e, st => match st with
    | .Expr ee _ => okE T N none sc e ee && swF sc none ee
    | _ => false
  | .ret e, st => match st with
    | .Return (some ee) _ => okE T N none sc e ee
    | _ => false
  | .retN, st => match st with
    | .Return none _ => true
    | _ => false
  | .ite c t e, st => match st with
    | .If ec a b _ => okE T N none sc c ec && okSs T N sc t a && okSs T N sc e b
    | _ => false
  | .forS p rng src b, st => match st with
    | .For tg iter body [] _ => okP N none sc (List.range N.length) p tg && plainI iter && iterChk (okEs T N none sc src) sc rng (src.length == 1) iter && enTp rng p && okSs T N sc b body
    | _ => false
  | .whil c b, st => match st with
    | .While ec body [] _ => okE T N none sc c ec && okSs T N sc b body
    | _ => false
  | .pass, st => match st with
    | .Pass _ => true
    | .Expr (.Constant (.str _) _ _) _ => true
    | _ => false
  | .brk, st => match st with
    | .Break _ => true
    | _ => false
  | .cont, st => match st with
    | .Continue _ => true
    | _ => false
termination_by structural p => p
def okSs (T : List DDef) (N : List Str) (sc : Scope) : List PSt → List Stmt → Bool
  | [], sts => sts.isEmpty
  | p :: ps, sts => match sts with
    | [] => false
    | st :: sts => okS T N sc p st && okSs T N sc ps sts
termination_by structural p => p
end

structure EndsOk (K : PySem.W.Frag) (φ ι : List Addr) (H : Hp) (E : DEnds) (D : Ends) : Prop where
  nx : ∀ σd S' ι' H' σ, E.nx σd S' → Ext ι H ι' H' → RelS K φ ι' H' S' → RelE K φ ι' H' σd σ → D.nx σ H'
  rt : Post K φ ι H E.rt D.rt
  bk : ∀ σd S' ι' H' σ, E.bk σd S' → Ext ι H ι' H' → RelS K φ ι' H' S' → RelE K φ ι' H' σd σ → D.bk σ H'
  ct : ∀ σd S' ι' H' σ, E.ct σd S' → Ext ι H ι' H' → RelS K φ ι' H' S' → RelE K φ ι' H' σd σ → D.ct σ H'
theorem EndsOk.step {K : PySem.W.Frag} {φ ι ι' : List Addr} {H H' : Hp} {E : DEnds} {D : Ends} (o : EndsOk K φ ι H E D) (e : Ext ι H ι' H') : EndsOk K φ ι' H' E D :=
  ⟨fun σd S ι2 H2 σ h e2 => o.nx σd S ι2 H2 σ h (e.trans e2), o.rt.step e, fun σd S ι2 H2 σ h e2 => o.bk σd S ι2 H2 σ h (e.trans e2), fun σd S ι2 H2 σ h e2 => o.ct σd S ι2 H2 σ h (e.trans e2)⟩
def tDS (K : PySem.W.Frag) (w : DEnv → Sto → DEnds → Prop) : TS := fun D σ H => ∃ φ ι σd S E, RelS K φ ι H S ∧ RelE K φ ι H σd σ ∧ w σd S E ∧ EndsOk K φ ι H E D

structure XOkS (T : List DDef) (n : Nat) (X : Cx) : Prop extends XOk T n none X where
  kind : X.env.scope.kind = .function
  own : PassesOwn (model X.prog X.w) X.A X.env X.xe

theorem swF_of {env : PySem.Env} {tg : Option Expr} {e : Expr} {l : Nat} (h : swF env.scope tg e = true) (hk : env.scope.kind = .function) : swapsWith e tg l env = pure false := by
  cases e with
  | ListComp elt gs s lpos =>
    cases tg with
    | none => cases h
    | some tg =>
      cases tg with
      | Name t py =>
        have h : (!(decide (env.scope.names.lookup t = some .local) && py.line == lpos.line && !(s.names.any fun (n, k) => n == t && (k == .local || k == .cell)))) = true := h
        have hb : env.blockKind = .function := by unfold Env.blockKind; rw [hk]; rfl
        show (pure (env.blockKind == .function && env.kindOf t == some .local && py.line == lpos.line && !(s.names.any fun (n, k) => n == t && (k == .local || k == .cell))) : Sem Bool) = pure false
        have e1 : (env.kindOf t == some NameKind.local) = decide (env.scope.names.lookup t = some .local) := by
          show (env.scope.names.lookup t == some NameKind.local) = _
          by_cases q : env.scope.names.lookup t = some NameKind.local
          · rw [q]
            rfl
          · rw [decide_eq_false q]
            cases z : env.scope.names.lookup t with
            | none => rfl
            | some k =>
              rw [z] at q
              cases k <;> first
                | rfl
                | exact (q rfl).elim
        rw [hb, e1]
        have e2 : ((ScopeKind.function == ScopeKind.function) && decide (env.scope.names.lookup t = some .local) && py.line == lpos.line && !(s.names.any fun (n, k) => n == t && (k == .local || k == .cell))) = (decide (env.scope.names.lookup t = some .local) && py.line == lpos.line && !(s.names.any fun (n, k) => n == t && (k == .local || k == .cell))) := rfl
        rw [e2]
        rw [Bool.not_eq_true'] at h
        rw [h]
      | _ => rfl
  | SetComp _ _ _ _ => cases h
  | DictComp _ _ _ _ _ => cases h
  | _ => rfl
theorem noSwap_of {env : PySem.Env} {tg e : Expr} (h : noSwap tg e = true) : swappedStores [tg] e env = pure none := by
  cases tg with
  | Name _ _ => cases e <;> rfl
  | Tuple ts k pos =>
    have h : (!(isTup e) || decide (4 ≤ ts.length)) = true := h
    cases e with
    | Tuple vs k2 pos2 =>
      have h : decide (4 ≤ ts.length) = true := by simpa [isTup] using h
      have h : 4 ≤ ts.length := of_decide_eq_true h
      unfold swappedStores
      have e2 : (ts.length == 2) = false := by simp; omega
      have e3 : (ts.length == 3) = false := by simp; omega
      simp only [e2, e3]
      rfl
    | _ => rfl
  | _ => cases h
theorem one_of {env : PySem.Env} {T : List DDef} {N : List Str} {sc : Scope} {vs : List Nat} {fnc : Option Scope} {p : PP} {tg : Expr} (h : okP N fnc sc vs p tg = true) : (assignEach [tg] env).map (·.2) = [assign tg env] := by
  cases p <;> cases tg <;> first
    | rfl
    | cases h

section
variable {T : List DDef} {n : Nat} {K : PySem.W.Frag} {C : Calls}
theorem forW_still {body : D → DEnv → Sto → DEnds → Prop} {src : Option Nat} {all xs : List D} {σ : DEnv} {S : Sto} {E : DEnds} (h : forW body src all xs σ S E) : still src all S := by
  cases xs with
  | nil => exact h.1
  | cons x xs => exact h.1
theorem for_imp {p : PP} {rng : IK} {src : List PX} {b : List PSt} {vs : List Nat} {D : Ends} {σ : L2.St} {H : Hp} (h : tDS K (wS C (.forS p rng src b)) D σ H) :
    tFor (tDI K (wI C rng src)) (tDG K vs (bindW p)) (tDS K (wSs C b)) D σ H := by
  obtain ⟨φ, ι, σd, S, E, RS, RE, w, q⟩ := h
  refine ⟨φ, ι, σd, S, fun xs sr S1 => True ∧ forW (fun x σ1 S2 E2 => bindW p x σ1 fun σ2 => wSs C b σ2 S2 E2) sr xs xs σd S1 E, RS, RE, w, ?_⟩
  intro xs sr S1 ι1 H1 J hc E1 R1 hJ
  have hc := hc.2
  generalize hbody : (fun (x : Ov.D) (σ1 : DEnv) (S2 : Sto) (E2 : DEnds) => bindW p x σ1 fun σ2 => wSs C b σ2 S2 E2) = body at hc
  refine ⟨fun i m σ2 H2 => ∃ ι2 σd2 S2, m = xs.length - i ∧ i ≤ xs.length ∧ RelS K φ ι2 H2 S2 ∧ Ext ι H ι2 H2 ∧ RelE K φ ι2 H2 σd2 σ2 ∧ JIs K φ J ι2 H2 xs sr ∧ forW body sr xs (xs.drop i) σd2 S2 E,
    ⟨xs.length, ι1, σd, S1, by simp, Nat.zero_le _, R1, E1, RE.mono E1, hJ, hc⟩, ?_⟩
  rintro i m σ2 H2 ⟨ι2, σd2, S2, rfl, hi, R2, E2, RE2, J2, hw⟩
  have st := forW_still hw
  cases hd : xs.drop i with
  | nil =>
    have hi2 : xs.length ≤ i := by
      have := congrArg List.length hd
      simp at this
      omega
    rw [hd] at hw
    exact .inl ⟨J2.stop R2 st hi2, q.nx _ _ _ _ _ hw.2 E2 R2 RE2⟩
  | cons x r =>
    obtain ⟨hx, hr, hlt⟩ := drop_cons hd
    obtain ⟨go, yld⟩ := J2.go R2 st hx
    rw [hd] at hw
    refine .inr ⟨go, fun σ' H' => ∃ ι3 σd3 S3, RelS K φ ι3 H' S3 ∧ Ext ι H ι3 H' ∧ RelE K φ ι3 H' σd3 σ' ∧ JIs K φ J ι3 H' xs sr ∧ forW body sr xs (xs.drop (i + 1)) σd3 S3 E, ?_, ?_⟩
    · rintro σ' H' ⟨ι3, σd3, S3, a1, a2, a3, a4, a5⟩
      exact ⟨xs.length - (i + 1), by omega, ι3, σd3, S3, rfl, hlt, a1, a2, a3, a4, a5⟩
    · intro v H' hy
      obtain ⟨sp, rv⟩ := yld v H' hy
      replace E2 : Ext ι H ι2 H' := E2.trans sp.ext
      replace R2 := sp.rel R2
      replace J2 := J2.mono sp.ext
      replace RE2 := RE2.mono sp.ext
      have hw2 := hw.2
      rw [← hbody] at hw2
      refine ⟨φ, ι2, σd2, x, _, RE2, rv, hw2, fun σd3 σ3 h3 RE3 _ => ?_⟩
      refine ⟨φ, ι2, σd3, S2, _, R2, RE3, h3, ?_⟩
      refine ⟨fun σd4 S4 ι4 H4 σ4 h4 E4 R4 RE4 => ?_, fun d S4 ι4 H4 v4 h4 E4 R4 r4 => q.rt d S4 ι4 H4 v4 h4 (E2.trans E4) R4 r4, fun σd4 S4 ι4 H4 σ4 h4 E4 R4 RE4 => q.nx _ _ _ _ _ h4 (E2.trans E4) R4 RE4, fun σd4 S4 ι4 H4 σ4 h4 E4 R4 RE4 => ?_⟩
      · exact ⟨ι4, σd4, S4, R4, E2.trans E4, RE4, J2.mono E4, by rw [hr, ← hbody]; exact h4⟩
      · exact ⟨ι4, σd4, S4, R4, E2.trans E4, RE4, J2.mono E4, by rw [hr, ← hbody]; exact h4⟩
theorem while_imp {c : PX} {b : List PSt} {D : Ends} {σ : L2.St} {H : Hp} (h : tDS K (wS C (.whil c b)) D σ H) : tWhile (tDT K (wT C c)) (tDS K (wSs C b)) D σ H := by
  obtain ⟨φ, ι, σd, S, E, RS, RE, ⟨W, ⟨m0, w0⟩, turn⟩, q⟩ := h
  refine ⟨fun m σ2 H2 => ∃ ι2 σd2 S2, RelS K φ ι2 H2 S2 ∧ Ext ι H ι2 H2 ∧ RelE K φ ι2 H2 σd2 σ2 ∧ W m σd2 S2, ⟨m0, ι, σd, S, RS, .refl, RE, w0⟩, ?_⟩
  rintro m σ2 H2 ⟨ι2, σd2, S2, R2, E2, RE2, hw⟩
  refine ⟨φ, ι2, σd2, S2, _, R2, RE2, turn m σd2 S2 hw, fun t S3 ι3 H3 ht E3 R3 => ?_⟩
  cases t with
  | true =>
    rw [if_pos rfl]
    refine ⟨fun σ' H' => ∃ m', m' < m ∧ ∃ ι4 σd4 S4, RelS K φ ι4 H' S4 ∧ Ext ι H ι4 H' ∧ RelE K φ ι4 H' σd4 σ' ∧ W m' σd4 S4, fun σ' H' ⟨m', hm, z⟩ => ⟨m', hm, z⟩, ?_⟩
    refine ⟨φ, ι3, σd2, S3, _, R3, RE2.mono E3, ht.1 rfl, ?_⟩
    have E23 := E2.trans E3
    refine ⟨fun σd4 S4 ι4 H4 σ4 h4 E4 R4 RE4 => ?_, fun d S4 ι4 H4 v4 h4 E4 R4 r4 => q.rt d S4 ι4 H4 v4 h4 (E23.trans E4) R4 r4, fun σd4 S4 ι4 H4 σ4 h4 E4 R4 RE4 => q.nx _ _ _ _ _ h4 (E23.trans E4) R4 RE4, fun σd4 S4 ι4 H4 σ4 h4 E4 R4 RE4 => ?_⟩
    · obtain ⟨m', hm, hw'⟩ := h4
      exact ⟨m', hm, ι4, σd4, S4, R4, E23.trans E4, RE4, hw'⟩
    · obtain ⟨m', hm, hw'⟩ := h4
      exact ⟨m', hm, ι4, σd4, S4, R4, E23.trans E4, RE4, hw'⟩
  | false =>
    rw [if_neg Bool.false_ne_true]
    exact q.nx _ _ _ _ _ (ht.2 rfl) (E2.trans E3) R3 (RE2.mono E3)
/-- an expression's value, stored -/
theorem asg_imp {e : PX} {p : PP} {vs : List Nat} {D : Ends} {σ : L2.St} {H : Hp} (h : tDS K (wS C (.asg p e)) D σ H) : tAsg (tD K (wE C e)) (tDG K vs (bindW p)) D σ H := by
  obtain ⟨φ, ι, σd, S, E, RS, RE, w, q⟩ := h
  refine ⟨φ, ι, σd, S, _, RS, RE, w, fun d S1 ι1 H1 v hd E1 R1 r => ?_⟩
  exact ⟨φ, ι1, σd, d, _, RE.mono E1, r, hd, fun σd2 σ2 h2 RE2 _ => q.nx _ _ _ _ _ h2 E1 R1 RE2⟩
theorem sub_ok {X : Cx} {φ ι : List Addr} {H : Hp} {S : Sto} {k : Sto → Prop} {x y d : Ov.D} {v u w : V} {Q : Hp → Prop} (R : RelS K φ ι H S) (rx : rep K φ ι H x v) (ry : rep K φ ι H y u) (rd : rep K φ ι H d w) (h : subW x y d S k)
    (q : ∀ S' H', k S' → Ext ι H ι H' → RelS K φ ι H' S' → Q H') : rSetL v u w H Q := by
  unfold subW at h
  split at h
  · obtain ⟨a, ha, rfl⟩ := rx
    obtain rfl : u = _ := ry
    split at h
    · rename_i e
      obtain ⟨b, ws, h1, h2, h3⟩ := R.cell _ _ e
      rw [ha] at h1
      cases h1
      split at h
      · rename_i e1
        exact ⟨a, ws, _, _, rfl, rfl, h2, by rw [reps_len h3]; exact e1, q _ _ h (.set ha) (R.set ha (reps_set _ h3 rd))⟩
      · exact h.elim
    · exact h.elim
  · exact h.elim

theorem range_all {N : List Str} {i : Nat} {y : Str} (h : N[i]? = some y) : i ∈ List.range N.length := List.mem_range.mpr (List.getElem?_eq_some_iff.mp h).1
mutual
theorem soundS : ∀ (s : PSt) (X : Cx) (st : Stmt), XOkS T n X → okS T X.N X.env.scope s st = true → PS X st (tDS X.K (wS (callW T n) s))
  | .asg p e, X, st, xo, h => by
    cases st with
    | Assign tgs ee pos =>
      match tgs, h with
      | [tg], h =>
        have h : (okE T X.N none X.env.scope e ee && ((okP X.N none X.env.scope (List.range X.N.length) p tg && swF X.env.scope (some tg) ee && noSwap tg ee) || asgAlt X.N X.env.scope p tg e ee)) = true := h
        rw [Bool.and_eq_true, Bool.or_eq_true] at h
        obtain ⟨h1, h2 | h2⟩ := h
        · simp only [Bool.and_eq_true] at h2
          obtain ⟨⟨h2, h3⟩, h4⟩ := h2
          refine PS.imp (ps_asg (soundE e X none ee xo.toXOk h1).1 (soundP xo.toXOk p tg h2) (swF_of h3 xo.kind) (noSwap_of h4) (one_of (T := T) h2)) fun D σ H q => asg_imp q
        · obtain ⟨i, y, py, mu, elt, pp, own, rng, src, cond, rfl, rfl, rfl, h2a, h3⟩ := asgAlt_of h2
          obtain ⟨eelt, tg, iter, ifs, scope, pos2, rfl, c1, c2, c3, c4, c5, c5', c6⟩ := okComp h1
          have h3 : (decide (X.env.scope.names.lookup y = some .local) && py.line == pos2.line && !(scope.names.any fun (n, k) => n == y && (k == .local || k == .cell))) = true := h3
          simp only [Bool.and_eq_true, decide_eq_true_eq, Bool.not_eq_true'] at h3
          obtain ⟨⟨h3, h4⟩, h5⟩ := h3
          have pcs := compParts xo.toXOk c2 c3 c5 c5' c6
          refine PS.imp (ps_setLc (own := own) xo.calm xo.nd h2a h3 (sw_true xo.kind h3 h4 h5) pcs.1 (blkOk_by c1) pcs.2.1 pcs.2.2.1 pcs.2.2.2 (fold_of c4)) ?_
          rintro D σ H ⟨φ, ι, σd, S, E, RS, RE, w, q⟩
          have w2 : wE (callW T n) (.comp mu elt pp own rng src cond) σd S (fun d S1 => E.nx (σd.set i (some d)) S1) := w
          have w3 : tD X.K (wE (callW T n) (.comp mu elt pp own rng src cond)) σ H (fun v H' => gName i v σ H' D.nx) := by
            refine ⟨φ, ι, σd, S, _, RS, RE, w2, fun d S1 ι1 H1 v hd E1 R1 r => ?_⟩
            exact q.nx _ _ _ _ _ hd E1 R1 ((RE.mono E1).set r)
          exact comp_imp w3
    | _ => cases h
  | .sub o i e, X, st, xo, h => by
    cases st with
    | Assign tgs ee pos =>
      match tgs, h with
      | [.Subscript eo ei spos], h =>
        have h : (okE T X.N none X.env.scope e ee && okE T X.N none X.env.scope o eo && okE T X.N none X.env.scope i ei && swF X.env.scope (some (.Subscript eo ei ⟨0, 0, 0, 0⟩)) ee && plainS ei) = true := h
        simp only [Bool.and_eq_true] at h
        obtain ⟨⟨⟨⟨h1, h2⟩, h3⟩, h4⟩, h5⟩ := h
        have hs : swapsWith ee (some (.Subscript eo ei spos)) pos.line X.env = pure false := by
          cases ee <;> first
            | rfl
            | cases h4
        have hw : swappedStores [.Subscript eo ei spos] ee X.env = pure none := by cases ee <;> rfl
        refine PS.imp (ps_asg (soundE e X none ee xo.toXOk h1).1 (pg_sub (soundE o X none eo xo.toXOk h2).1 (soundE i X none ei xo.toXOk h3).1 set_list (fun v => by cases ei <;> first | rfl | cases h5)) hs hw) ?_
        rintro D σ H ⟨φ, ι, σd, S, E, RS, RE, w, q⟩
        refine ⟨φ, ι, σd, S, _, RS, RE, w, fun d S1 ι1 H1 v hd E1 R1 r => ?_⟩
        refine ⟨φ, ι1, σd, S1, _, R1, RE.mono E1, hd, fun x S2 ι2 H2 u hx E2 R2 r2 => ?_⟩
        refine ⟨φ, ι2, σd, S2, _, R2, RE.mono (E1.trans E2), hx, fun y S3 ι3 H3 t hy E3 R3 r3 => ?_⟩
        refine sub_ok (X := X) R3 (rep_mono E3 _ _ r2) r3 (rep_mono (E2.trans E3) _ _ r) hy fun S4 H4 z E4 R4 => ?_
        have E := E1.trans (E2.trans (E3.trans E4))
        exact q.nx _ _ _ _ _ z E R4 (RE.mono E)
    | _ => cases h
  | .augS o i op e, X, st, xo, h => by
    cases st with
    | AugAssign tg oo ee pos =>
      cases tg with
      | Subscript eo ei spos =>
        have h : (okE T X.N none X.env.scope o eo && okE T X.N none X.env.scope i ei && okE T X.N none X.env.scope e ee && augOk op oo && plainS ei) = true := h
        simp only [Bool.and_eq_true] at h
        obtain ⟨⟨⟨⟨h1, h2⟩, h3⟩, h4⟩, h5⟩ := h
        have ha : ∀ ov iv new, augStore ei ov iv new = (do holding [new, ov, iv] (setItem ov iv new); release [new, ov, iv] []; pure .next) := fun ov iv new => by
          cases ei <;> first
            | rfl
            | cases h5
        have key : ∀ {f : Int → Int → Int}, (∀ x y (k : Ov.D → Prop), augW op x y k → ∃ a b, x = .int a ∧ y = .int b ∧ k (.int (f a b))) → ∀ D σ H, tDS X.K (wS (callW T n) (.augS o i op e)) D σ H →
            tAugS (tD X.K (wE (callW T n) o)) (tD X.K (wE (callW T n) i)) (tD X.K (wE (callW T n) e)) (rGetL X.K) (ipI f) rSetL D σ H := by
          rintro f hf D σ H ⟨φ, ι, σd, S, E, RS, RE, w, q⟩
          refine ⟨φ, ι, σd, S, _, RS, RE, w, fun x S1 ι1 H1 v hx E1 R1 rx => ?_⟩
          refine ⟨φ, ι1, σd, S1, _, R1, RE.mono E1, hx, fun y S2 ι2 H2 u hy E2 R2 ry => ?_⟩
          have rx2 := rep_mono E2 _ _ rx
          unfold getW at hy
          split at hy
          · rename_i nn j
            split at hy
            · rename_i xs es
              split at hy
              · rename_i d ed
                obtain ⟨j0, hy⟩ := hy
                obtain ⟨a, ha2, rfl⟩ := id rx2
                obtain rfl : u = _ := ry
                obtain ⟨b, ws, g1, g2, g3⟩ := R2.cell _ _ es
                rw [ha2] at g1
                cases g1
                obtain ⟨w1, g4, rd⟩ := atI_reps g3 ed
                refine ⟨a, ws, j, w1, rfl, rfl, j0, SqL.of g2, g4, ?_⟩
                refine ⟨φ, ι2, σd, S2, _, R2, RE.mono (E1.trans E2), hy, fun z S3 ι3 H3 t hz E3 R3 rz => ?_⟩
                obtain ⟨p, r, rfl, rfl, hk⟩ := hf _ _ _ hz
                obtain rfl : w1 = .int p := rd
                obtain rfl : t = .int r := rz
                refine ⟨p, r, rfl, rfl, ?_⟩
                refine sub_ok (X := X) (d := .int (f p r)) R3 (rep_mono E3 _ _ rx2) (y := .int j) rfl rfl hk fun S4 H4 z E4 R4 => ?_
                have E := E1.trans (E2.trans (E3.trans E4))
                exact q.nx _ _ _ _ _ z E R4 (RE.mono E)
              · exact hy.elim
            · exact hy.elim
          · exact hy.elim
        unfold augOk at h4
        split at h4
        · exact PS.imp (ps_augS (soundE o X none eo xo.toXOk h1).1 (soundE i X none ei xo.toXOk h2).1 get_list (soundE e X none ee xo.toXOk h3).1 ip_add set_list ha) (key fun x y k z => by
            cases x <;> cases y <;> first
              | exact ⟨_, _, rfl, rfl, z⟩
              | exact (show False from z).elim)
        · exact PS.imp (ps_augS (soundE o X none eo xo.toXOk h1).1 (soundE i X none ei xo.toXOk h2).1 get_list (soundE e X none ee xo.toXOk h3).1 ip_sub set_list ha) (key fun x y k z => by
            cases x <;> cases y <;> first
              | exact ⟨_, _, rfl, rfl, z⟩
              | exact (show False from z).elim)
        · cases h4
      | _ => cases h
    | _ => cases h
  | .par _ _ _ _, X, st, xo, h => by cases h
  | .aug i op e, X, st, xo, h => by
    cases st with
    | AugAssign tg o ee pos =>
      cases tg with
      | Name x px =>
        have h : (decide (X.N[i]? = some x) && locB none X.env.scope x && augOk op o && okE T X.N none X.env.scope e ee) = true := h
        simp only [Bool.and_eq_true, decide_eq_true_eq] at h
        obtain ⟨⟨⟨h1, h2⟩, h3⟩, h4⟩ := h
        obtain ⟨h5, h6⟩ := loc_of xo.fn h2
        have key : ∀ {f : Int → Int → Int}, (∀ x y (k : Ov.D → Prop), augW op x y k → ∃ a b, x = .int a ∧ y = .int b ∧ k (.int (f a b))) → ∀ D σ H, tDS X.K (wS (callW T n) (.aug i op e)) D σ H → tAug i (tD X.K (wE (callW T n) e)) (ipI f) D σ H := by
          rintro f hf D σ H ⟨φ, ι, σd, S, E, RS, RE, w, q⟩
          have w : (match σd[i]? with
            | some (some x) => wE (callW T n) e σd S fun y S1 => augW op x y fun z => E.nx (σd.set i (some z)) S1
            | _ => False) := w
          split at w
          · rename_i d hd
            obtain ⟨v, e1, rv⟩ := RE.get i d hd
            refine ⟨v, e1, φ, ι, σd, S, _, RS, RE, w, fun y S1 ι1 H1 u hy E1 R1 ry => ?_⟩
            obtain ⟨a, b, rfl, rfl, hk⟩ := hf _ _ _ hy
            exact ⟨a, b, rv, ry, q.nx _ _ _ _ _ hk E1 R1 ((RE.mono E1).set rfl)⟩
          · exact w.elim
        unfold augOk at h3
        split at h3
        · exact PS.imp (ps_aug xo.nd h1 h5 (soundE e X none ee xo.toXOk h4).1 ip_add h6) (key fun x y k z => by
            cases x <;> cases y <;> first
              | exact ⟨_, _, rfl, rfl, z⟩
              | exact (show False from z).elim)
        · exact PS.imp (ps_aug xo.nd h1 h5 (soundE e X none ee xo.toXOk h4).1 ip_sub h6) (key fun x y k z => by
            cases x <;> cases y <;> first
              | exact ⟨_, _, rfl, rfl, z⟩
              | exact (show False from z).elim)
        · cases h3
      | _ => cases h
    | _ => cases h
  | .expr e, X, st, xo, h => by
    cases st with
    | Expr ee pos =>
      have h : (okE T X.N none X.env.scope e ee && swF X.env.scope none ee) = true := h
      simp only [Bool.and_eq_true] at h
      refine PS.imp (ps_expr (soundE e X none ee xo.toXOk h.1).1 (swF_of h.2 xo.kind)) ?_
      rintro D σ H ⟨φ, ι, σd, S, E, RS, RE, w, q⟩
      exact ⟨φ, ι, σd, S, _, RS, RE, w, fun d S1 ι1 H1 v hd E1 R1 r => q.nx _ _ _ _ _ hd E1 R1 (RE.mono E1)⟩
    | _ => cases h
  | .ret e, X, st, xo, h => by
    cases st with
    | Return v pos =>
      match v, h with
      | some ee, h =>
        refine PS.imp (ps_ret (soundE e X none ee xo.toXOk h).1) ?_
        rintro D σ H ⟨φ, ι, σd, S, E, RS, RE, w, q⟩
        exact ⟨φ, ι, σd, S, _, RS, RE, w, q.rt⟩
    | _ => cases h
  | .retN, X, st, xo, h => by
    cases st with
    | Return v pos =>
      match v, h with
      | none, h =>
        refine PS.imp ps_retN ?_
        rintro D σ H ⟨φ, ι, σd, S, E, RS, RE, w, q⟩
        exact q.rt _ _ _ _ _ w .refl RS rfl
    | _ => cases h
  | .ite c t e, X, st, xo, h => by
    cases st with
    | If ec a b pos =>
      have h : (okE T X.N none X.env.scope c ec && okSs T X.N X.env.scope t a && okSs T X.N X.env.scope e b) = true := h
      simp only [Bool.and_eq_true] at h
      refine PS.imp (ps_if (soundE c X none ec xo.toXOk h.1.1).2.1 (soundSs t X a xo h.1.2) (soundSs e X b xo h.2)) ?_
      rintro D σ H ⟨φ, ι, σd, S, E, RS, RE, w, q⟩
      refine ⟨φ, ι, σd, S, _, RS, RE, w, fun b S1 ι1 H1 hb E1 R1 => ?_⟩
      cases b with
      | true =>
        rw [if_pos rfl]
        exact ⟨φ, ι1, σd, S1, E, R1, RE.mono E1, hb.1 rfl, q.step E1⟩
      | false =>
        rw [if_neg Bool.false_ne_true]
        exact ⟨φ, ι1, σd, S1, E, R1, RE.mono E1, hb.2 rfl, q.step E1⟩
    | _ => cases h
  | .forS p rng src b, X, st, xo, h => by
    cases st with
    | For tg iter body els pos =>
      match els, h with
      | [], h =>
        have h : (okP X.N none X.env.scope (List.range X.N.length) p tg && plainI iter && iterChk (okEs T X.N none X.env.scope src) X.env.scope rng (src.length == 1) iter && enTp rng p && okSs T X.N X.env.scope b body) = true := h
        simp only [Bool.and_eq_true] at h
        obtain ⟨⟨⟨⟨h1, h2⟩, h3⟩, h3'⟩, h4⟩ := h
        exact PS.imp (ps_for xo.own xo.calm (iter_sound xo.toXOk h3 (fun e => by subst e; exact enTp_tg h1 h3')) (soundP xo.toXOk p tg h1) (soundSs b X body xo h4) (fold_of h2)) fun D σ H q => for_imp q
    | _ => cases h
  | .whil c b, X, st, xo, h => by
    cases st with
    | While ec body els pos =>
      match els, h with
      | [], h =>
        have h : (okE T X.N none X.env.scope c ec && okSs T X.N X.env.scope b body) = true := h
        simp only [Bool.and_eq_true] at h
        exact PS.imp (ps_while xo.own (soundE c X none ec xo.toXOk h.1).2.1 (soundSs b X body xo h.2)) fun D σ H q => while_imp q
    | _ => cases h
  | .pass, X, st, xo, h => by
    have key : ∀ D σ H, tDS X.K (wS (callW T n) .pass) D σ H → tNext D σ H := by
      rintro D σ H ⟨φ, ι, σd, S, E, RS, RE, w, q⟩
      exact q.nx _ _ _ _ _ w .refl RS RE
    cases st with
    | Pass pos => exact PS.imp ps_pass key
    | Expr e pos =>
      cases e with
      | Constant c k p2 =>
        cases c with
        | str x => exact PS.imp ps_doc key
        | _ => cases h
      | _ => cases h
    | _ => cases h
  | .brk, X, st, xo, h => by
    cases st with
    | Break pos =>
      refine PS.imp ps_break ?_
      rintro D σ H ⟨φ, ι, σd, S, E, RS, RE, w, q⟩
      exact q.bk _ _ _ _ _ w .refl RS RE
    | _ => cases h
  | .cont, X, st, xo, h => by
    cases st with
    | Continue pos =>
      refine PS.imp ps_continue ?_
      rintro D σ H ⟨φ, ι, σd, S, E, RS, RE, w, q⟩
      exact q.ct _ _ _ _ _ w .refl RS RE
    | _ => cases h
theorem soundSs : ∀ (ss : List PSt) (X : Cx) (sts : List Stmt), XOkS T n X → okSs T X.N X.env.scope ss sts = true → PSs X sts (tDS X.K (wSs (callW T n) ss))
  | [], X, sts, xo, h => by
    cases sts with
    | nil =>
      refine PSs.imp pss_nil ?_
      rintro D σ H ⟨φ, ι, σd, S, E, RS, RE, w, q⟩
      exact q.nx _ _ _ _ _ w .refl RS RE
    | cons _ _ => cases h
  | s :: ss, X, sts, xo, h => by
    cases sts with
    | nil => cases h
    | cons st sts =>
      have h : (okS T X.N X.env.scope s st && okSs T X.N X.env.scope ss sts) = true := h
      simp only [Bool.and_eq_true] at h
      refine PSs.imp (pss_cons (soundS s X st xo h.1) (soundSs ss X sts xo h.2)) ?_
      rintro D σ H ⟨φ, ι, σd, S, E, RS, RE, w, q⟩
      refine ⟨φ, ι, σd, S, _, RS, RE, w, ⟨fun σd1 S1 ι1 H1 σ1 h1 E1 R1 RE1 => ?_, q.rt, q.bk, q.ct⟩⟩
      exact ⟨φ, ι1, σd1, S1, E, R1, RE1, h1, q.step E1⟩
end
end
end Ov
-- OvJ
namespace Ov
open PySem PySem.Spec PyProof.Rows L2

/-! ### a whole table -/
def scB (d : DDef) (sc : Scope) : Bool :=
  (match sc.kind with
    | .function => true
    | _ => false) && !sc.isCoroutine && !sc.isGenerator && decide d.names.Nodup && decide (d.np ≤ d.names.length) &&
    ((d.names.take d.np).all fun x => match sc.names.lookup x with
      | some .local => true
      | some .cell => true
      | _ => false) && (sc.names.all fun y => match y.2 with
      | .free => false
      | _ => true)
def chkD (T : List DDef) (d : DDef) (st : Stmt) : Bool := scB d (defScope st) && okSs T d.names (defScope st) d.body (defBody st)
theorem scB_ok {d : DDef} {sc : Scope} (h : scB d sc = true) : FnScope d.names (d.names.take d.np) sc := by
  unfold scB at h
  simp only [Bool.and_eq_true, decide_eq_true_eq, Bool.not_eq_true', List.all_eq_true] at h
  obtain ⟨⟨⟨⟨⟨⟨h1, h2⟩, h3⟩, h4⟩, h5⟩, h6⟩, h7⟩ := h
  refine ⟨?_, h2, h3, h4, ?_, fun x hx => ?_, fun y hy e => ?_⟩
  · split at h1
    · assumption
    · cases h1
  · rw [List.length_take, Nat.min_eq_left h5]
  · have q := h6 x hx
    split at q
    · exact .inl (by assumption)
    · exact .inr (by assumption)
    · cases q
  · have q := h7 y hy
    rw [e] at q
    cases q

structure TabOk (T : List DDef) (st : Nat → Stmt) (K : PySem.W.Frag) (mg : Str → Option Value) : Prop where
  fns : ∀ (f : Nat) (d : DDef), T[f]? = some d → isC d = false → ∃ fa fd, FunD K d.name d.name (defArgs (st f)) (defBody (st f)) (defScope (st f)) [] [] fa fd ∧ mg d.name = some (.ref fa) ∧ Binds K fd (d.names.take d.np) []
  chk : ∀ (f : Nat) (d : DDef), T[f]? = some d → isC d = false → chkD T d (st f) = true
  con : ∀ x i, constIn T x i = true → ∃ t, mg x = some (.int i t)
  enu : mg (Str.ofString "enumerate") = none
  blt : ∀ b : BI, mg (Str.ofString (biN b)) = none
  rng : mg (Str.ofString "range") = none
def constD (p : Str × Int) : DDef := ⟨p.1, [], 1, [.ret (.int p.2)]⟩
theorem con_of {T A : List DDef} {cs : List (Str × Int)} {mg : Str → Option Value} (hT : T = A ++ cs.map constD) (hA : A.all (fun d => !isC d) = true) (h : ∀ p ∈ cs, ∃ t, mg p.1 = some (.int p.2 t)) :
    ∀ x i, constIn T x i = true → ∃ t, mg x = some (.int i t) := by
  intro x i hc
  unfold constIn at hc
  rw [List.any_eq_true] at hc
  obtain ⟨d, hd, hc⟩ := hc
  simp only [Bool.and_eq_true, decide_eq_true_eq] at hc
  obtain ⟨⟨h1, h2⟩, h3⟩ := hc
  rw [hT] at hd
  rcases List.mem_append.mp hd with hd | hd
  · have := List.all_eq_true.mp hA d hd
    rw [h1] at this
    cases this
  · obtain ⟨p, hp, rfl⟩ := List.mem_map.mp hd
    have h2 : p.1 = x := h2
    have h3 : decide (i = p.2) = true := h3
    rw [← h2, of_decide_eq_true h3]
    exact h p hp
theorem nameD_of {T : List DDef} {f : Nat} {d : DDef} (h : T[f]? = some d) : nameD T f = d.name := by
  unfold nameD
  rw [h]
  rfl
theorem tab_ok {P : Program} {w : World} {base : Heap} {T : List DDef} {st : Nat → Stmt} {K : PySem.W.Frag} {mg : Str → Option Value} (O : TabOk T st K mg) :
    ∀ (n f : Nat) (d : DDef), T[f]? = some d → isC d = false → ∀ (fa : Addr) (fd : FuncData), FunD K d.name d.name (defArgs (st f)) (defBody (st f)) (defScope (st f)) [] [] fa fd →
      FnOk P w K mg base CX0 n fa fd (d.names.take d.np) (spD K (callW T n f)) := by
  intro n
  induction n with
  | zero =>
    intro f d hd hn fa fd F
    refine ⟨fun vs H Q E h => ?_, fun A outer s H args us vs Q E hr he hb hv h => ?_⟩
    · obtain ⟨φ, ι, S, ds, k, R, r, w, P⟩ := h
      exact (show False from w).elim
    · obtain ⟨φ, ι, S, ds, k, R, r, w, P⟩ := h
      exact (show False from w).elim
  | succ n ih =>
    intro f d hd hn fa fd F
    have hc := O.chk f d hd hn
    unfold chkD at hc
    rw [Bool.and_eq_true] at hc
    have sc := scB_ok hc.1
    have un : ∀ {ds : List D} {S : Sto} {k : WK}, callW T (n + 1) f ds S k → ds.length = d.np ∧ wSs (callW T n) d.body (startD d ds) S { nx := fun _ S1 => k .non S1, rt := k } := fun {ds S k} h => by
      have h : (match T[f]? with
        | some d => ds.length = d.np ∧ wSs (callW T n) d.body (startD d ds) S { nx := fun _ S1 => k .non S1, rt := k }
        | none => False) := h
      rw [hd] at h
      exact h
    have hnp : (d.names.take d.np).length = d.np := by
      have q := hc.1
      unfold scB at q
      simp only [Bool.and_eq_true, decide_eq_true_eq] at q
      rw [List.length_take, Nat.min_eq_left q.1.1.2]
    refine F.ok sc (fun vs H Q E h => ?_) fun cdv A outer s H vs Q E hr h => ?_
    · obtain ⟨φ, ι, S, ds, k, R, r, w, P⟩ := h
      rw [reps_len r, (un w).1, hnp]
    · have xo : XOkS T n (cxOf CX0 P w K mg base d.names d.name (defScope (st f)) fa cdv A outer s H E).nox := {
        calm := rfl
        nd := sc.nd
        room := hr
        fn := fun x _ => rfl
        fns := fun g hg => by
          obtain ⟨e, he, hne⟩ : ∃ e, T[g]? = some e ∧ isC e = false := by
            unfold callOk at hg
            split at hg
            · rename_i e he
              exact ⟨e, he, by simpa using hg⟩
            · cases hg
          obtain ⟨ga, gd, G, hm, hb⟩ := O.fns g e he hne
          exact ⟨ga, gd, _, by rw [nameD_of he]; exact hm, G.kp, hb, ih g e he hne ga gd G⟩
        blt := O.blt
        rng := O.rng
        con := O.con
        enu := O.enu
        kind := sc.kind
        own := PassesOwn.never }
      refine ⟨_, PSs.nox (soundSs d.body _ (defBody (st f)) xo hc.2), ?_⟩
      obtain ⟨φ, ι, S, ds, k, R, r, w, P⟩ := h
      obtain ⟨w1, w2⟩ := un w
      refine ⟨φ, ι, startD d ds, S, _, R, ⟨?_, fun i e he => ?_⟩, w2, ⟨fun σd S' ι' H' σ q E1 R1 RE1 => P _ _ _ _ _ q E1 R1 rfl, P, fun σd S' ι' H' σ q => q.elim, fun σd S' ι' H' σ q => q.elim⟩⟩
      · unfold startD L2.start
        simp [reps_len r]
      · unfold startD at he
        by_cases hi : i < ds.length
        · rw [List.getElem?_append_left (by simpa using hi), List.getElem?_map] at he
          cases q : ds[i]? with
          | none => rw [q] at he; cases he
          | some e' =>
            rw [q] at he
            cases he
            obtain ⟨v, e1, rv⟩ := reps_get r q
            refine ⟨v, ?_, rv⟩
            unfold L2.start
            have hi2 : i < vs.length := by rw [reps_len r]; exact hi
            rw [List.getElem?_append_left (by simpa using hi2), List.getElem?_map, e1]
            rfl
        · rw [List.getElem?_append_right (by simpa using hi), List.getElem?_replicate] at he
          split at he <;> cases he
/-- the script, the answer True -/
theorem law_sp {T : List DDef} {K : PySem.W.Frag} {n L : Nat} (hl : ∀ ns : List Int, ns.length ≤ 63 → callW T n L [.ro (ns.map D.int)] [] fun d _ => d = .bl true) :
    ∀ (H : Hp) (a : Addr) (ns : List Int), ns.length ≤ 63 → Only H → SqL K H a (ns.map V.int) → spD K (callW T n L) [.ref a] H (fun v _ => v = .bl true) fun _ _ _ => False := by
  intro H a ns hn _ hS
  have R : RelS K [] [] H [] := ⟨rfl, List.nodup_nil, fun a h => (List.not_mem_nil h).elim, fun n xs h => by
    rw [List.getElem?_nil] at h
    cases h⟩
  have rs : ∀ ms : List Int, reps K [] [] H (ms.map D.int) (ms.map V.int) := fun ms => by
    induction ms with
    | nil => rfl
    | cons i ms ih => exact ⟨.int i, ms.map V.int, rfl, rfl, ih⟩
  have f : FixL K [] [] H a (ns.map V.int) := by
    rcases hS with hS | hS
    · exact .inl ⟨hS, List.not_mem_nil, List.not_mem_nil⟩
    · exact .inr (.inr hS)
  have r0 : reps K [] [] H [.ro (ns.map D.int)] [.ref a] := ⟨.ref a, [], rfl, ⟨a, ns.map V.int, rfl, f, rs ns⟩, rfl⟩
  refine ⟨[], [], [], _, _, R, r0, hl ns hn, fun d S' ι' H' v hd _ _ r => ?_⟩
  subst hd
  exact r
end Ov
-- OvK
/-! Working with programs over data; the laws' common defs. -/
namespace Ov
open PySem L2

/-- the lists but t stand as they stood -/
def KeepB (t : Nat) (S S' : Sto) : Prop := S'.length ≥ S.length ∧ ∀ (n : Nat) (xs : List D), n ≠ t → S[n]? = some xs → S'[n]? = some xs
def Keep (S S' : Sto) : Prop := S'.length ≥ S.length ∧ ∀ (n : Nat) (xs : List D), S[n]? = some xs → S'[n]? = some xs
theorem Keep.refl (S : Sto) : Keep S S := ⟨Nat.le_refl _, fun _ _ h => h⟩
theorem Keep.trans {S S1 S2 : Sto} (a : Keep S S1) (b : Keep S1 S2) : Keep S S2 := ⟨Nat.le_trans a.1 b.1, fun n xs h => b.2 n xs (a.2 n xs h)⟩
theorem KeepB.refl (t : Nat) (S : Sto) : KeepB t S S := ⟨Nat.le_refl _, fun _ _ _ h => h⟩
theorem KeepB.trans {t : Nat} {S S1 S2 : Sto} (a : KeepB t S S1) (b : KeepB t S1 S2) : KeepB t S S2 := ⟨Nat.le_trans a.1 b.1, fun n xs e h => b.2 n xs e (a.2 n xs e h)⟩
theorem Keep.b {t : Nat} {S S' : Sto} (a : Keep S S') : KeepB t S S' := ⟨a.1, fun n xs _ h => a.2 n xs h⟩
theorem Keep.app (S : Sto) (x : List (List D)) : Keep S (S ++ x) := ⟨by simp, fun n xs h => by
  have hn : n < S.length := (List.getElem?_eq_some_iff.mp h).1
  rw [List.getElem?_append_left hn]
  exact h⟩
theorem KeepB.set (t : Nat) (S : Sto) (x : List D) : KeepB t S (S.set t x) := ⟨by simp, fun n xs e h => by
  rw [List.getElem?_set_ne (Ne.symm e)]
  exact h⟩

/-- a tape: the script, the place, the number at hand, the total -/
def TapeL (xs : List D) : Prop := ∃ (ns : List Int) (place number total : Int), xs = [.ro (ns.map D.int), .int place, .int number, .int total] ∧ 0 ≤ place ∧ 0 ≤ number ∧ 0 ≤ total ∧ total < 2147483647
def Tape (S : Sto) (t : Nat) : Prop := ∃ xs, S[t]? = some xs ∧ TapeL xs

def dDraw : DDef :=
  ⟨"_law_draw", ["tape", "many", "number", "place"], 2, [
    .ite (.cmp .eq (.idx (.var 0) (.int 2)) (.int 0)) [
      .asg (.nm 3) (.idx (.var 0) (.int 1)),
      .asg (.nm 2) (.int 0),
      .ite (.cmp .lt (.var 3) (.bi .len [(.idx (.var 0) (.int 0))])) [
        .asg (.nm 2) (.bi .abs [(.bi .int [(.idx (.idx (.var 0) (.int 0)) (.var 3))])])] [
        .sub (.var 0) (.int 3) (.bin .mod (.bi .int [(.bin .add (.bin .add (.bin .mul (.idx (.var 0) (.int 3)) (.int 48271)) (.var 3)) (.int 1))]) (.int 2147483647)),
        .asg (.nm 2) (.idx (.var 0) (.int 3))],
      .sub (.var 0) (.int 1) (.bin .add (.var 3) (.int 1)),
      .ite (.cmp .lt (.var 2) (.bin .pow (.int 10) (.int 18))) [
        .asg (.nm 2) (.bin .mod (.bi .int [(.bin .add (.bin .add (.bin .mul (.var 2) (.int 48271)) (.bin .mul (.var 3) (.int 69621))) (.int 5))]) (.int 2147483647)),
        .asg (.nm 2) (.bin .mod (.bi .int [(.bin .mul (.var 2) (.int 69621))]) (.int 2147483629)),
        .ret (.bin .mod (.bi .int [(.var 2)]) (.bi .max [(.var 1), (.int 1)]))] [],
      .sub (.var 0) (.int 2) (.var 2)] [],
    .asg (.nm 2) (.idx (.var 0) (.int 2)),
    .sub (.var 0) (.int 2) (.bin .fdiv (.var 2) (.bi .max [(.var 1), (.int 2)])),
    .ret (.bin .mod (.bi .int [(.var 2)]) (.bi .max [(.var 1), (.int 1)]))]⟩

/-- a table's calls, sealed -/
@[irreducible] def Run (T : List DDef) (n : Nat) : Calls := callW T n
theorem Run_eq (T : List DDef) (n : Nat) : Run T n = callW T n := by unfold Run; rfl
theorem Run_mono (T : List DDef) (n : Nat) : MonoC (Run T n) := by rw [Run_eq]; exact callW_mono T n
theorem run_of {T : List DDef} {f : Nat} {d : DDef} (h : T[f]? = some d) {n : Nat} {ds : List D} {S : Sto} {k : WK} (hl : ds.length = d.np)
    (w : wSs (Run T n) d.body (startD d ds) S { nx := fun _ S1 => k .non S1, rt := k }) : Run T (n + 1) f ds S k := by
  rw [Run_eq] at w ⊢
  show (match T[f]? with
    | some d => ds.length = d.np ∧ wSs (callW T n) d.body (startD d ds) S { nx := fun _ S1 => k .non S1, rt := k }
    | none => False)
  rw [h]
  exact ⟨hl, w⟩

theorem eqI_t {a b : Int} (h : eqD (.int a) (.int b) = true) : a = b := by
  have h : (a == b) = true := h
  exact eq_of_beq h
theorem eqI_f {a b : Int} (h : eqD (.int a) (.int b) = false) : a ≠ b := by
  have h : (a == b) = false := h
  exact fun e => by rw [e, beq_self_eq_true] at h; cases h
theorem at_nat {xs : List D} {i : Int} {d : D} (h0 : 0 ≤ i) (h : xs[i.toNat]? = some d) : atI xs i = some d := by
  have hl : i.toNat < xs.length := (List.getElem?_eq_some_iff.mp h).1
  unfold atI ixN
  rw [if_pos h0, if_pos (by omega)]
  exact h
local macro_rules | `(tactic| walk_at "w") => `(tactic| conv => whnf)
local macro_rules | `(tactic| walk_at "wn") => `(tactic| simp only [List.set_cons_zero, List.set_cons_succ, Int.reduceToNat])
theorem draw_spec {T : List DDef} {f n : Nat} (hf : T[f]? = some dDraw) {S : Sto} {t : Nat} {many : Int} {k : WK} (ht : Tape S t) (hm : many < 1073741824)
    (h : ∀ r S', 0 ≤ r → r < max many 1 → Tape S' t → KeepB t S S' → S'.length = S.length → k (.int r) S') : Run T (n + 1) f [.ptr t, .int many] S k := by
  obtain ⟨xs, e, ns, place, number, total, rfl, h1, h2, h3, h4⟩ := ht
  -- the end: a number at hand is cut
  have cut : ∀ (S1 : Sto) (ns : List Int) (p nu to : Int) (σ : DEnv) (v3 : Option D), S1[t]? = some [.ro (ns.map D.int), .int p, .int nu, .int to] → 0 ≤ p → 0 ≤ nu → 0 ≤ to → to < 2147483647 → KeepB t S S1 → S1.length = S.length →
      (∃ v2, σ = [some (.ptr t), some (.int many), v2, v3]) →
      wSs (Run T n) [.asg (.nm 2) (.idx (.var 0) (.int 2)),
        .sub (.var 0) (.int 2) (.bin .fdiv (.var 2) (.bi .max [(.var 1), (.int 2)])),
        .ret (.bin .mod (.bi .int [(.var 2)]) (.bi .max [(.var 1), (.int 1)]))] σ S1 { nx := fun _ S1 => k .non S1, rt := k } := by
    rintro S1 ns p nu to σ v3 e p0 n0 t0 t1 kb hl ⟨v2, rfl⟩
    walk_at "w"
    rw [show seqOf S1 (.ptr t) = _ from e]
    walk_at "w"
    have hmx : (0 : Int) < (if (2 : Int) > many then 2 else many) ∧ (if (2 : Int) > many then 2 else many) < 1073741824 := by split <;> omega
    refine ⟨hmx, ?_⟩
    walk_at "w"
    rw [e]
    walk_at "w"
    have hm1 : (0 : Int) < (if (1 : Int) > many then 1 else many) := by split <;> omega
    refine ⟨hm1, ?_⟩
    have hr0 := Int.emod_nonneg nu (Int.ne_of_gt hm1)
    have hr1 := Int.emod_lt_of_pos nu hm1
    have ht : t < S1.length := (List.getElem?_eq_some_iff.mp e).1
    refine h _ _ hr0 ?_ ⟨_, List.getElem?_set_self ht, ns, p, _, to, rfl, p0, Int.ediv_nonneg n0 (Int.le_of_lt hmx.1), t0, t1⟩ (kb.trans (KeepB.set _ _ _)) (by rw [List.length_set]; exact hl)
    have : (if (1 : Int) > many then 1 else many) = max many 1 := by rw [Int.max_def]; split <;> split <;> omega
    rw [← this]
    exact hr1
  refine run_of hf rfl ?_
  walk_at "w"
  rw [show seqOf S (.ptr t) = _ from e]
  walk_at "w"
  refine ⟨rfl, ?_⟩
  walk_at "w"
  refine ⟨fun c => ?_, fun c => ?_⟩
  · -- no number at hand
    walk_at "w"
    rw [show seqOf S (.ptr t) = _ from e]
    walk_at "w"
    rw [show seqOf S (.ptr t) = _ from e]
    walk_at "w"
    -- what is left once a number has been found, the tape's lists as they stand
    have rest : ∀ (S1 : Sto) (nu to : Int), S1[t]? = some [.ro (ns.map D.int), .int place, .int number, .int to] → 0 ≤ nu → 0 ≤ to → to < 2147483647 → KeepB t S S1 → S1.length = S.length →
        wSs (Run T n) [.sub (.var 0) (.int 1) (.bin .add (.var 3) (.int 1)),
          .ite (.cmp .lt (.var 2) (.bin .pow (.int 10) (.int 18))) [
            .asg (.nm 2) (.bin .mod (.bi .int [(.bin .add (.bin .add (.bin .mul (.var 2) (.int 48271)) (.bin .mul (.var 3) (.int 69621))) (.int 5))]) (.int 2147483647)),
            .asg (.nm 2) (.bin .mod (.bi .int [(.bin .mul (.var 2) (.int 69621))]) (.int 2147483629)),
            .ret (.bin .mod (.bi .int [(.var 2)]) (.bi .max [(.var 1), (.int 1)]))] [],
          .sub (.var 0) (.int 2) (.var 2)] [some (.ptr t), some (.int many), some (.int nu), some (.int place)] S1
          { nx := fun σ1 S1 => wSs (Run T n) [.asg (.nm 2) (.idx (.var 0) (.int 2)),
              .sub (.var 0) (.int 2) (.bin .fdiv (.var 2) (.bi .max [(.var 1), (.int 2)])),
              .ret (.bin .mod (.bi .int [(.var 2)]) (.bi .max [(.var 1), (.int 1)]))] σ1 S1 { nx := fun _ S1 => k .non S1, rt := k }, rt := k } := by
      intro S1 nu to e n0 t0 t1 kb hl
      have htl : t < S1.length := (List.getElem?_eq_some_iff.mp e).1
      walk_at "w"
      rw [e]
      walk_at "w"
      have e2 : (S1.set t [.ro (ns.map D.int), .int (place + 1), .int number, .int to])[t]? = _ := List.getElem?_set_self htl
      have htl2 : t < (S1.set t [.ro (ns.map D.int), .int (place + 1), .int number, .int to]).length := by rw [List.length_set]; exact htl
      have kb2 := kb.trans (KeepB.set t S1 [.ro (ns.map D.int), .int (place + 1), .int number, .int to])
      have hl2 : (S1.set t [.ro (ns.map D.int), .int (place + 1), .int number, .int to]).length = S.length := by rw [List.length_set]; exact hl
      refine ⟨⟨by decide, by decide, by decide⟩, ?_⟩
      walk_at "w"
      refine ⟨fun c => ?_, fun c => ?_⟩
      · walk_at "w"
        refine ⟨.inr ⟨by decide, by decide⟩, ?_⟩
        walk_at "w"
        refine ⟨.inr ⟨by decide, by decide⟩, ?_⟩
        walk_at "w"
        refine ⟨by decide, ?_⟩
        walk_at "w"
        refine ⟨.inr ⟨by decide, by decide⟩, ?_⟩
        walk_at "w"
        refine ⟨by decide, ?_⟩
        walk_at "w"
        have hm1 : (0 : Int) < (if (1 : Int) > many then 1 else many) := by split <;> omega
        refine ⟨hm1, ?_⟩
        refine h _ _ (Int.emod_nonneg _ (Int.ne_of_gt hm1)) ?_ ⟨_, e2, ns, _, _, to, rfl, by omega, h2, t0, t1⟩ kb2 hl2
        have : (if (1 : Int) > many then 1 else many) = max many 1 := by rw [Int.max_def]; split <;> split <;> omega
        rw [← this]
        exact Int.emod_lt_of_pos _ hm1
      · walk_at "w"
        walk_at "wn"
        rw [e2]
        walk_at "w"
        exact cut _ ns (place + 1) nu to _ (some (.int place)) (List.getElem?_set_self htl2) (by omega) n0 t0 t1 (kb2.trans (KeepB.set _ _ _)) (by rw [List.length_set]; exact hl2) ⟨_, rfl⟩
    refine ⟨fun c2 => ?_, fun c2 => ?_⟩
    · -- from the script
      have hp : place < (ns.length : Int) := by
        have c2 : decide (place < ((ns.map D.int).length : Int)) = true := c2
        have := of_decide_eq_true c2
        rw [List.length_map] at this
        exact this
      have hpn : place.toNat < ns.length := by omega
      walk_at "w"
      rw [show seqOf S (.ptr t) = _ from e]
      walk_at "w"
      rw [show atI (ns.map D.int) place = some (.int ns[place.toNat]) from at_nat h1 (by rw [List.getElem?_map, List.getElem?_eq_getElem hpn]; rfl)]
      walk_at "w"
      exact rest S (if ns[place.toNat] < 0 then -ns[place.toNat] else ns[place.toNat]) total e (by split <;> omega) h3 h4 (KeepB.refl _ _) rfl
    · -- by the total
      walk_at "w"
      rw [show seqOf S (.ptr t) = _ from e]
      walk_at "w"
      refine ⟨.inr ⟨by decide, by decide⟩, ?_⟩
      walk_at "w"
      refine ⟨by decide, ?_⟩
      walk_at "w"
      rw [e]
      have htl : t < S.length := (List.getElem?_eq_some_iff.mp e).1
      walk_at "w"
      walk_at "wn"
      have e2 : (S.set t [.ro (ns.map D.int), .int place, .int number, .int ((total * 48271 + place + 1) % 2147483647)])[t]? = _ := List.getElem?_set_self htl
      rw [show seqOf (S.set t [.ro (ns.map D.int), .int place, .int number, .int ((total * 48271 + place + 1) % 2147483647)]) (.ptr t) = _ from e2]
      walk_at "w"
      exact rest _ _ _ e2 (Int.emod_nonneg _ (by decide)) (Int.emod_nonneg _ (by decide)) (Int.emod_lt_of_pos _ (by decide)) (KeepB.set _ _ _) (by rw [List.length_set])
  · walk_at "w"
    exact cut S ns place number total _ none e h1 h2 h3 h4 (KeepB.refl _ _) rfl ⟨_, rfl⟩
end Ov
-- OvL
/-! Loops and comprehensions over data; common defs of the laws. -/
namespace Ov
open PySem L2
local macro_rules | `(tactic| walk_at "w") => `(tactic| conv => whnf)
local macro_rules | `(tactic| walk_at "wn") => `(tactic| simp only [List.set_cons_zero, List.set_cons_succ, Int.reduceToNat])

/-! ### loops -/
def forB (C : Calls) (p : PP) (b : List PSt) : D → DEnv → Sto → DEnds → Prop := fun x σ S E => bindW p x σ fun σ2 => wSs C b σ2 S E
theorem forB_mono {C : Calls} (hC : MonoC C) (p : PP) (b : List PSt) : ∀ x σ S (E E' : DEnds), E.Le E' → forB C p b x σ S E → forB C p b x σ S E' :=
  fun x σ S E E' i h => bindW_mono (fun σ2 h2 => wSs_mono hC b σ2 S E E' i h2) p x σ h
theorem for_inv' {body : D → DEnv → Sto → DEnds → Prop} (hb : ∀ x σ S (E E' : DEnds), E.Le E' → body x σ S E → body x σ S E') (I : Nat → DEnv → Sto → Prop) {all : List D} {E : DEnds} :
    ∀ (xs : List D) (i : Nat) (σ : DEnv) (S : Sto), all.drop i = xs → i + xs.length = all.length → I i σ S →
    (∀ i x σ S, all[i]? = some x → I i σ S → body x σ S { nx := I (i + 1), rt := E.rt, bk := E.nx, ct := I (i + 1) }) → (∀ σ S, I all.length σ S → E.nx σ S) → forW body none all xs σ S E
  | [], i, σ, S, hd, hi, h0, hs, he => by
    have hi : i = all.length := hi
    subst hi
    exact ⟨trivial, he _ _ h0⟩
  | x :: xs, i, σ, S, hd, hi, h0, hs, he => by
    obtain ⟨hx, hr, _⟩ := drop_cons hd
    have hi2 : i + 1 + xs.length = all.length := by simp at hi; omega
    refine ⟨trivial, hb x σ S _ _ ?_ (hs i x σ S hx h0)⟩
    exact ⟨fun σ1 S1 h1 => for_inv' hb I xs (i + 1) σ1 S1 hr hi2 h1 hs he, fun _ _ h => h, fun _ _ h => h, fun σ1 S1 h1 => for_inv' hb I xs (i + 1) σ1 S1 hr hi2 h1 hs he⟩
/-- a loop by an invariant: over the turn, the slots, the lists -/
theorem for_inv {C : Calls} (hC : MonoC C) {p : PP} {b : List PSt} (I : Nat → DEnv → Sto → Prop) {all : List D} {E : DEnds} {σ : DEnv} {S : Sto} (h0 : I 0 σ S)
    (hs : ∀ i x σ S, all[i]? = some x → I i σ S → forB C p b x σ S { nx := I (i + 1), rt := E.rt, bk := E.nx, ct := I (i + 1) }) (he : ∀ σ S, I all.length σ S → E.nx σ S) : forW (forB C p b) none all all σ S E :=
  for_inv' (forB_mono hC p b) I all 0 σ S rfl (Nat.zero_add _) h0 hs he

/-! ### comprehensions -/
def compB (C : Calls) (elt : PX) (p : PP) (σ : DEnv) (cond : Option PX) : D → Sto → (Bool → D → Sto → Prop) → Prop := fun x S2 kk => bindW p x σ fun σ1 => wC C cond σ1 S2 fun b S3 => (b = true → wE C elt σ1 S3 fun d S4 => kk true d S4) ∧ (b = false → kk false .non S3)
theorem compB_mono {C : Calls} (hC : MonoC C) (elt : PX) (p : PP) (σ : DEnv) (cond : Option PX) : ∀ x S (k k' : Bool → D → Sto → Prop), (∀ b d S, k b d S → k' b d S) → compB C elt p σ cond x S k → compB C elt p σ cond x S k' :=
  fun x S k k' i h => bindW_mono (fun σ1 h3 => wC_mono hC cond σ1 S _ _ (fun b S3 h4 => ⟨fun e => wE_mono hC elt σ1 S3 _ _ (fun d S4 h5 => i _ _ _ h5) (h4.1 e), fun e => i _ _ _ (h4.2 e)⟩) h3) p x _ h
def collect (p : D → Bool) (f : D → D) (xs : List D) : List D := (xs.filter p).map f
/-- a comprehension that changes nothing -/
theorem comp_pure {body : D → Sto → (Bool → D → Sto → Prop) → Prop} {all : List D} {S : Sto} (p : D → Bool) (f : D → D) :
    ∀ (xs : List D) (k : List D → Sto → Prop), (∀ x ∈ xs, ∀ kk : Bool → D → Sto → Prop, kk (p x) (f x) S → body x S kk) → k (collect p f xs) S → compW body none all xs S k
  | [], k, _, h => ⟨trivial, h⟩
  | x :: xs, k, hb, h => by
    refine ⟨trivial, hb x List.mem_cons_self _ ?_⟩
    refine comp_pure p f xs _ (fun y hy => hb y (List.mem_cons_of_mem _ hy)) ?_
    unfold collect at h
    cases hp : p x with
    | true =>
      rw [List.filter_cons_of_pos hp] at h
      exact h
    | false =>
      rw [List.filter_cons_of_neg (by rw [hp]; exact Bool.false_ne_true)] at h
      exact h
/-- .. with a choice -/
theorem comp_pick {body : D → Sto → (Bool → D → Sto → Prop) → Prop} {all : List D} {S : Sto} (p : D → Bool) (f : D → D) :
    ∀ (xs : List D) (k : List D → Sto → Prop), (∀ x ∈ xs, ∀ kk : Bool → D → Sto → Prop, (p x = true → kk true (f x) S) → (p x = false → kk false .non S) → body x S kk) → k (collect p f xs) S → compW body none all xs S k
  | [], k, _, h => ⟨trivial, h⟩
  | x :: xs, k, hb, h => by
    unfold collect at h
    cases hp : p x with
    | true =>
      rw [List.filter_cons_of_pos hp] at h
      exact ⟨trivial, hb x List.mem_cons_self _ (fun _ => comp_pick p f xs _ (fun y hy => hb y (List.mem_cons_of_mem _ hy)) h) fun e => by rw [hp] at e; cases e⟩
    | false =>
      rw [List.filter_cons_of_neg (by rw [hp]; exact Bool.false_ne_true)] at h
      exact ⟨trivial, hb x List.mem_cons_self _ (fun e => by rw [hp] at e; cases e) fun _ => comp_pick p f xs _ (fun y hy => hb y (List.mem_cons_of_mem _ hy)) h⟩
/-- .. by an invariant: over the turn, what is made so far, the lists -/
theorem comp_inv' {body : D → Sto → (Bool → D → Sto → Prop) → Prop} (hb : ∀ x S (k k' : Bool → D → Sto → Prop), (∀ b d S, k b d S → k' b d S) → body x S k → body x S k') (I : Nat → List D → Sto → Prop) {all : List D} :
    ∀ (xs : List D) (i : Nat) (out : List D) (S : Sto) (k : List D → Sto → Prop), all.drop i = xs → i + xs.length = all.length → I i out S →
    (∀ i x out S, all[i]? = some x → I i out S → body x S fun b d S1 => I (i + 1) (if b = true then out ++ [d] else out) S1) → (∀ o S, I all.length (out ++ o) S → k o S) → compW body none all xs S k
  | [], i, out, S, k, hd, hi, h0, hs, he => by
    have hi : i = all.length := hi
    subst hi
    exact ⟨trivial, he [] S (by rw [List.append_nil]; exact h0)⟩
  | x :: xs, i, out, S, k, hd, hi, h0, hs, he => by
    obtain ⟨hx, hr, _⟩ := drop_cons hd
    have hi2 : i + 1 + xs.length = all.length := by simp at hi; omega
    refine ⟨trivial, hb x S _ _ (fun b d S1 h1 => ?_) (hs i x out S hx h0)⟩
    refine comp_inv' hb I xs (i + 1) _ S1 _ hr hi2 h1 hs fun o S2 h2 => he _ S2 ?_
    cases b with
    | true =>
      simp only [if_true] at h2 ⊢
      rw [List.append_assoc] at h2
      exact h2
    | false => exact h2
theorem comp_inv {C : Calls} (hC : MonoC C) {elt : PX} {p : PP} {σ : DEnv} {cond : Option PX} (I : Nat → List D → Sto → Prop) {all : List D} {S : Sto} {k : List D → Sto → Prop} (h0 : I 0 [] S)
    (hs : ∀ i x out S, all[i]? = some x → I i out S → compB C elt p σ cond x S fun b d S1 => I (i + 1) (if b = true then out ++ [d] else out) S1) (he : ∀ o S, I all.length o S → k o S) : compW (compB C elt p σ cond) none all all S k :=
  comp_inv' (compB_mono hC elt p σ cond) I all 0 [] S k rfl (Nat.zero_add _) h0 hs fun o S h => he o S h

/-! ### the tape -/
def dTape : DDef :=
  ⟨"_law_tape", ["script", "total", "cell"], 1, [
    .asg (.nm 1) (.int 7),
    .forS (.nm 2) .sq [(.var 0)] [
      .asg (.nm 1) (.bin .mod (.bi .int [(.bin .add (.bin .mul (.var 1) (.int 31)) (.bi .abs [(.bi .int [(.var 2)])]))]) (.int 2147483647))],
    .ret (.mls [(.bi .list [(.var 0)]), (.int 0), (.int 0), (.var 1)])]⟩
theorem tape_spec {T : List DDef} {f n : Nat} (hf : T[f]? = some dTape) {S : Sto} {ns : List Int} {k : WK} (h : ∀ S', Tape S' S.length → S'.length = S.length + 1 → Keep S S' → k (.ptr S.length) S') : Run T (n + 1) f [.ro (ns.map D.int)] S k := by
  refine run_of hf rfl ?_
  walk_at "w"
  refine ⟨trivial, ?_⟩
  refine for_inv (Run_mono T n) (fun i σ S1 => S1 = S ∧ ∃ (t : Int) (v : Option D), σ = [some (.ro (ns.map D.int)), some (.int t), v] ∧ 0 ≤ t ∧ t < 2147483647) ⟨rfl, 7, none, rfl, by decide, by decide⟩ ?_ ?_
  · rintro i x σ S1 hx ⟨rfl, t, v, rfl, h1, h2⟩
    rw [List.getElem?_map] at hx
    obtain ⟨m, _, rfl⟩ := Option.map_eq_some_iff.mp hx
    walk_at "w"
    refine ⟨.inr ⟨by decide, by decide⟩, ?_⟩
    walk_at "w"
    refine ⟨by decide, ?_⟩
    exact ⟨rfl, _, _, rfl, Int.emod_nonneg _ (by decide), Int.emod_lt_of_pos _ (by decide)⟩
  · rintro σ S1 ⟨rfl, t, v, rfl, h1, h2⟩
    walk_at "w"
    refine h _ ⟨_, List.getElem?_concat_length .., ns, 0, 0, t, rfl, by decide, by decide, h1, h2⟩ (by simp) (Keep.app _ _)

/-! ### equal data -/
def dSame (f : Nat) : DDef :=
  ⟨"_law_same", ["told", "due", "k"], 2, [
    .ite (.cmp .is (.var 1) .non) [
      .ret (.cmp .is (.var 0) .non)] [],
    .ite (.tru (.bi (.isI "tuple") [(.var 1)])) [
      .ite (.orv (.notv (.tru (.bi (.isI "tuple") [(.var 0)]))) (.one (.cmp .ne (.bi .len [(.var 0)]) (.bi .len [(.var 1)])))) [
        .ret (.bl false)] [],
      .ret (.cmp .eq (.bi .len [(.comp false (.var 2) (.nm 2) [("k", 2)] .rg [(.bi .len [(.var 1)])] (some (.notv (.tru (.call f [(.idx (.var 0) (.var 2)), (.idx (.var 1) (.var 2))])))))]) (.int 0))] [],
    .ite (.tru (.bi (.isI "str") [(.var 1)])) [
      .ret (.andv (.bi (.isI "str") [(.var 0)]) (.one (.cmp .eq (.var 0) (.var 1))))] [],
    .ret (.andv (.bi (.isI "int") [(.var 0)]) (.andv (.cmp .eq (.bi (.isI "bool") [(.var 0)]) (.bi (.isI "bool") [(.var 1)])) (.one (.cmp .eq (.var 0) (.var 1)))))]⟩
mutual
/-- data without lists, at most m deep, with lengths in bounds -/
def good : Nat → D → Prop
  | _, .non => True
  | _, .bl _ => True
  | _, .int _ => True
  | _, .str _ => True
  | 0, .tup _ => False
  | m + 1, .tup xs => xs.length < 1000000 ∧ goods m xs
  | _, .ro _ => False
  | _, .ptr _ => False
  | _, .dic _ _ => False
  | _, .rng _ _ => False
def goods : Nat → List D → Prop
  | _, [] => True
  | m, x :: xs => good m x ∧ goods m xs
end
theorem goods_mem : ∀ {m : Nat} {xs : List D} {x : D}, goods m xs → x ∈ xs → good m x
  | m, y :: ys, x, h, hx => by
    have h : good m y ∧ goods m ys := h
    rcases List.mem_cons.mp hx with e | hx
    · rw [e]; exact h.1
    · exact goods_mem h.2 hx
theorem eqS_refl (s : Str) : eqD (.str s) (.str s) = true := by
  show (s == s) = true
  exact beq_self_eq_true s
theorem eqI_refl (i : Int) : eqD (.int i) (.int i) = true := by
  show (i == i) = true
  exact beq_self_eq_true i
theorem range_mem {lo : Int} {n : Nat} {x : D} (h : x ∈ rangeD lo n) : ∃ i : Nat, i < n ∧ x = .int (lo + i) := by
  unfold rangeD at h
  obtain ⟨i, hi, e⟩ := List.mem_map.mp h
  exact ⟨i, List.mem_range.mp hi, e.symm⟩
theorem same_spec {T : List DDef} {f : Nat} (hf : T[f]? = some (dSame f)) : ∀ (m n : Nat) (x : D) (S : Sto) (k : WK), good m x → k (.bl true) S → Run T (n + m + 1) f [x, x] S k := by
  intro m
  have flat : ∀ (n : Nat) (x : D) (S : Sto) (k : WK), flatD x = true → k (.bl true) S → Run T (n + 1) f [x, x] S k := by
    intro n x S k hg hk
    refine run_of hf rfl ?_
    cases x with
    | non =>
      walk_at "w"
      exact ⟨fun _ => hk, fun h => by cases h⟩
    | int i =>
      walk_at "w"
      refine ⟨fun h => (by cases h), fun _ => ?_⟩
      walk_at "w"
      refine ⟨fun h => (by cases h), fun _ => ?_⟩
      walk_at "w"
      refine ⟨fun h => (by cases h), fun _ => ?_⟩
      walk_at "w"
      refine ⟨rfl, ?_⟩
      walk_at "w"
      refine ⟨rfl, ?_⟩
      show k (.bl (eqD (.int i) (.int i))) S
      rw [eqI_refl]
      exact hk
    | bl i =>
      walk_at "w"
      refine ⟨fun h => (by cases h), fun _ => ?_⟩
      walk_at "w"
      refine ⟨fun h => (by cases h), fun _ => ?_⟩
      walk_at "w"
      refine ⟨fun h => (by cases h), fun _ => ?_⟩
      walk_at "w"
      refine ⟨rfl, ?_⟩
      walk_at "w"
      refine ⟨rfl, ?_⟩
      cases i <;> exact hk
    | str i =>
      walk_at "w"
      refine ⟨fun h => (by cases h), fun _ => ?_⟩
      walk_at "w"
      refine ⟨fun h => (by cases h), fun _ => ?_⟩
      walk_at "w"
      refine ⟨fun _ => ?_, fun h => by cases h⟩
      walk_at "w"
      refine ⟨rfl, ?_⟩
      show k (.bl (eqD (.str i) (.str i))) S
      rw [eqS_refl]
      exact hk
    | _ => cases hg
  induction m with
  | zero =>
    intro n x S k hg hk
    cases x with
    | tup _ => exact hg.elim
    | ro _ => exact hg.elim
    | ptr _ => exact hg.elim
    | dic _ _ => exact hg.elim
    | rng _ _ => exact hg.elim
    | _ => exact flat n _ S k rfl hk
  | succ m ih =>
    intro n x S k hg hk
    cases x with
    | ro _ => exact hg.elim
    | ptr _ => exact hg.elim
    | dic _ _ => exact hg.elim
    | rng _ _ => exact hg.elim
    | tup xs =>
      obtain ⟨hl, hg⟩ := hg
      refine run_of hf rfl ?_
      walk_at "w"
      refine ⟨fun h => (by cases h), fun _ => ?_⟩
      walk_at "w"
      refine ⟨fun _ => ?_, fun h => by cases h⟩
      walk_at "w"
      refine ⟨fun h => (by cases h), fun _ => ?_⟩
      walk_at "w"
      refine ⟨rfl, ?_⟩
      have e0 : eqD (.int (xs.length : Int)) (.int (xs.length : Int)) = true := eqI_refl _
      refine ⟨fun h => ?_, fun _ => ?_⟩
      · have h : (!eqD (.int (xs.length : Int)) (.int (xs.length : Int))) = true := h
        rw [e0] at h
        cases h
      walk_at "w"
      have hb : big62 (xs.length : Int) := ⟨by omega, by omega⟩
      refine ⟨hb, ?_⟩
      have hlen : (rangeD 0 (xs.length : Int).toNat).length < sizeLine := by rw [rangeD_len]; show _ < 16777216; omega
      refine ⟨hlen, ?_⟩
      refine comp_pure (fun _ => false) (fun _ => .non) _ _ (fun y hy kk hkk => ?_) ?_
      · obtain ⟨i, hi, rfl⟩ := range_mem hy
        have hi : i < xs.length := by omega
        have ha : atI xs (0 + (i : Int)) = some xs[i] := at_nat (by omega) (by rw [show (0 + (i : Int)).toNat = i by omega]; exact List.getElem?_eq_getElem hi)
        walk_at "w"
        rw [ha]
        walk_at "w"
        rw [ha]
        walk_at "w"
        refine ih n xs[i] S _ (goods_mem hg (List.getElem_mem hi)) ?_
        walk_at "w"
        exact ⟨fun h => (by cases h), fun _ => hkk⟩
      · have e : collect (fun _ => false) (fun _ => .non) (rangeD 0 (xs.length : Int).toNat) = [] := by
          unfold collect
          rw [List.filter_eq_nil_iff.mpr (fun a _ => Bool.false_ne_true)]
          rfl
        rw [e]
        walk_at "w"
        exact ⟨rfl, hk⟩
    | _ => exact flat (n + m + 1) _ S k rfl hk
end Ov
-- OvN
/-! Business days: the mathematics, and what program and laws say of them. -/
namespace Ov
open PySem L2
local macro_rules | `(tactic| walk_at "w") => `(tactic| conv => whnf)
local macro_rules | `(tactic| walk_at "wn") => `(tactic| simp only [List.set_cons_zero, List.set_cons_succ, Int.reduceToNat])

theorem least_at {p : Nat → Bool} : ∀ {m : Nat}, p m = true → ∃ i, i ≤ m ∧ p i = true ∧ ∀ j, j < i → p j = false := by
  intro m
  induction m using Nat.strongRecOn with
  | ind m ih =>
    intro h
    by_cases hx : ∃ j, j < m ∧ p j = true
    · obtain ⟨j, hj, e⟩ := hx
      obtain ⟨i, hi, e2, e3⟩ := ih j hj e
      exact ⟨i, by omega, e2, e3⟩
    · refine ⟨m, Nat.le_refl _, h, fun j hj => ?_⟩
      cases e : p j with
      | false => rfl
      | true => exact (hx ⟨j, hj, e⟩).elim
theorem nodup_le : ∀ {l m : List Int}, l.Nodup → (∀ x ∈ l, x ∈ m) → l.length ≤ m.length
  | [], m, _, _ => Nat.zero_le _
  | x :: l, m, hn, hs => by
    have hx : x ∈ m := hs x List.mem_cons_self
    have ih : l.length ≤ (m.erase x).length := nodup_le (List.nodup_cons.mp hn).2 fun y hy => by
      have hne : y ≠ x := fun e => (List.nodup_cons.mp hn).1 (e ▸ hy)
      exact (List.mem_erase_of_ne hne).mpr (hs y (List.mem_cons_of_mem _ hy))
    rw [List.length_erase_of_mem hx] at ih
    have : 0 < m.length := List.length_pos_of_mem hx
    rw [List.length_cons]
    omega

/-- a week's signs and closed days -/
structure Cal (wk : List Nat) (cl : List Int) : Prop where
  len : wk.length = 7
  one : ∃ i, i < 7 ∧ wk[i]? = some 49
  few : cl.length ≤ 10
def calD (wk : List Nat) (cl : List Int) : D := .tup [.str ⟨wk.toArray⟩, .tup (cl.map D.int)]
def biz (wk : List Nat) (cl : List Int) (d : Int) : Bool := (wk.getD (d % 7).toNat 0 == 49) && !(cl.any fun c => c == d)

theorem biz_of {wk : List Nat} {cl : List Int} {d : Int} (h1 : wk[(d % 7).toNat]? = some 49) (h2 : d ∉ cl) : biz wk cl d = true := by
  unfold biz
  rw [List.getD_eq_getElem?_getD, h1]
  simp only [Option.getD_some, beq_self_eq_true, Bool.true_and, Bool.not_eq_true', List.any_eq_false, beq_iff_eq]
  exact fun x hx e => h2 (e ▸ hx)
/-- among eleven days a week apart one is open -/
theorem pigeon {cl : List Int} (h : cl.length ≤ 10) (e : Int) : ∃ i : Nat, i ≤ 10 ∧ e + 7 * (i : Int) ∉ cl := by
  refine Classical.byContradiction fun hc => ?_
  have hall : ∀ i : Nat, i ≤ 10 → e + 7 * (i : Int) ∈ cl := fun i hi => Classical.byContradiction fun hn => hc ⟨i, hi, hn⟩
  have hn : ((List.range 11).map fun (i : Nat) => e + 7 * (i : Int)).Nodup := by
    rw [List.nodup_iff_pairwise_ne]
    refine List.Pairwise.map (R := fun (a b : Nat) => a ≠ b) _ (fun a b hab e => ?_) (List.nodup_iff_pairwise_ne.mp List.nodup_range)
    omega
  have := nodup_le hn fun x hx => by
    obtain ⟨i, hi, rfl⟩ := List.mem_map.mp hx
    exact hall i (by have := List.mem_range.mp hi; omega)
  simp at this
  omega
theorem Cal.next {wk : List Nat} {cl : List Int} (c : Cal wk cl) (d : Int) : ∃ m : Nat, m ≤ 76 ∧ biz wk cl (d + m) = true ∧ ∀ j : Nat, j < m → biz wk cl (d + j) = false := by
  obtain ⟨i, hi, e⟩ := c.one
  have hr : ∃ r : Nat, r < 7 ∧ (d + r) % 7 = i := ⟨(((i : Int) - d) % 7).toNat, by omega, by omega⟩
  obtain ⟨r, hr, hr2⟩ := hr
  obtain ⟨q, hq, hq2⟩ := pigeon c.few (d + r)
  have hb : biz wk cl (d + ((r + 7 * q : Nat) : Int)) = true := by
    refine biz_of ?_ ?_
    · rw [show ((d + ((r + 7 * q : Nat) : Int)) % 7).toNat = i by omega]
      exact e
    · rw [show d + ((r + 7 * q : Nat) : Int) = d + r + 7 * (q : Int) by omega]
      exact hq2
  obtain ⟨m, h1, h2, h3⟩ := least_at (p := fun j => biz wk cl (d + (j : Int))) hb
  exact ⟨m, by omega, h2, h3⟩
theorem Cal.prev {wk : List Nat} {cl : List Int} (c : Cal wk cl) (d : Int) : ∃ m : Nat, m ≤ 76 ∧ biz wk cl (d - m) = true ∧ ∀ j : Nat, j < m → biz wk cl (d - j) = false := by
  obtain ⟨i, hi, e⟩ := c.one
  have hr : ∃ r : Nat, r < 7 ∧ (d - r) % 7 = i := ⟨((d - (i : Int)) % 7).toNat, by omega, by omega⟩
  obtain ⟨r, hr, hr2⟩ := hr
  obtain ⟨q, hq, hq2⟩ := pigeon c.few (d - r - 70)
  have hb : biz wk cl (d - ((r + (70 - 7 * q) : Nat) : Int)) = true := by
    refine biz_of ?_ ?_
    · rw [show ((d - ((r + (70 - 7 * q) : Nat) : Int)) % 7).toNat = i by omega]
      exact e
    · rw [show d - ((r + (70 - 7 * q) : Nat) : Int) = d - r - 70 + 7 * (q : Int) by omega]
      exact hq2
  obtain ⟨m, h1, h2, h3⟩ := least_at (p := fun j => biz wk cl (d - (j : Int))) hb
  exact ⟨m, by omega, h2, h3⟩

/-! ### readings -/
theorem flats_map (cl : List Int) : (cl.map D.int).all flatD = true := by
  rw [List.all_map]
  exact List.all_eq_true.mpr fun _ _ => rfl
theorem any_map (cl : List Int) (d : Int) : ((cl.map D.int).any fun z => eqD z (.int d)) = cl.any fun c => c == d := by
  rw [List.any_map]
  rfl
theorem wk_at {wk : List Nat} {cl : List Int} (c : Cal wk cl) (d : Int) : atI (wk.toArray.toList) (d % 7) = some (wk.getD (d % 7).toNat 0) ∧ Str.length ⟨wk.toArray⟩ ≤ sizeLine := by
  have h0 := Int.emod_nonneg d (by decide : (7 : Int) ≠ 0)
  have h1 := Int.emod_lt_of_pos d (by decide : (0 : Int) < 7)
  have hl : (d % 7).toNat < wk.length := by rw [c.len]; omega
  constructor
  · unfold atI ixN
    have hl2 : d % 7 < ((wk.toArray.toList).length : Int) := by simp; rw [c.len]; omega
    rw [if_pos h0, if_pos hl2]
    show wk.toArray.toList[(d % 7).toNat]? = _
    rw [List.getD_eq_getElem?_getD, List.toList_toArray, List.getElem?_eq_getElem hl]
    rfl
  · show wk.toArray.size ≤ 16777216
    simp
    rw [c.len]
    decide
theorem one_eq (c : Nat) : eqD (.str ⟨#[c]⟩) (.str "1") = (c == 49) := by
  show ((⟨#[c]⟩ : Str) == (Str.ofString "1")) = (c == 49)
  have e : Str.ofString "1" = ⟨#[49]⟩ := by decide +kernel
  rw [e]
  rw [Bool.eq_iff_iff]
  simp
end Ov
-- OvO
/-! Calendars: the laws' defs. -/
namespace Ov
open PySem L2
local macro_rules | `(tactic| walk_at "w") => `(tactic| conv => whnf)
local macro_rules | `(tactic| walk_at "wn") => `(tactic| simp only [List.set_cons_zero, List.set_cons_succ, Int.reduceToNat])

theorem range_at {lo : Int} {n i : Nat} {x : D} (h : (rangeD lo n)[i]? = some x) : i < n ∧ x = .int (lo + i) := by
  unfold rangeD at h
  rw [List.getElem?_map] at h
  obtain ⟨j, hj, e⟩ := Option.map_eq_some_iff.mp h
  have hl := (List.getElem?_eq_some_iff.mp hj).1
  rw [List.length_range] at hl
  rw [List.getElem?_range hl] at hj
  cases hj
  exact ⟨hl, e.symm⟩
theorem down_at {lo : Int} {n i : Nat} {x : D} (h : (downD lo n)[i]? = some x) : i < n ∧ x = .int (lo - i) := by
  unfold downD at h
  rw [List.getElem?_map] at h
  obtain ⟨j, hj, e⟩ := Option.map_eq_some_iff.mp h
  have hl := (List.getElem?_eq_some_iff.mp hj).1
  rw [List.length_range] at hl
  rw [List.getElem?_range hl] at hj
  cases hj
  exact ⟨hl, e.symm⟩
theorem down_len (lo : Int) (n : Nat) : (downD lo n).length = n := by unfold downD; simp

/-! ### mixed -/
def dMixed : DDef :=
  ⟨"_law_mixed", ["one", "two", "k"], 3, [
    .ite (.cmp .lt (.var 2) (.int 0)) [
      .ret (.var 0)] [],
    .ret (.bin .add (.bin .add (.slc (.var 0) none (some (.var 2))) (.tup [(.idx (.var 1) (.var 2))])) (.slc (.var 0) (some (.bin .add (.var 2) (.int 1))) none))]⟩

/-! ### base -/
def dBase (fd : Nat) : DDef :=
  ⟨"_law_base", ["tape", "choice"], 1, [
    .asg (.nm 1) (.call fd [(.var 0), (.int 5)]),
    .ret (.bin .add (.idx (.ls [(.int 0), (.int 1), (.int 0), (.int 0), (.int 392)]) (.var 1)) (.call fd [(.var 0), (.idx (.ls [(.int 1), (.int 13), (.int 100), (.int 401), (.int 9)]) (.var 1))]))]⟩
theorem base_spec {T : List DDef} {f fd n : Nat} (hf : T[f]? = some (dBase fd)) (hd : T[fd]? = some dDraw) {S : Sto} {t : Nat} {k : WK} (ht : Tape S t)
    (h : ∀ b S', 0 ≤ b → b ≤ 400 → Tape S' t → KeepB t S S' → S'.length = S.length → k (.int b) S') : Run T (n + 2) f [.ptr t] S k := by
  refine run_of hf rfl ?_
  walk_at "w"
  refine draw_spec hd ht (by decide) fun r S1 r0 r1 ht1 kb1 hl1 => ?_
  walk_at "w"
  have r1 : r < 5 := r1
  rcases (by omega : r = 0 ∨ r = 1 ∨ r = 2 ∨ r = 3 ∨ r = 4) with rfl | rfl | rfl | rfl | rfl
  all_goals
    walk_at "w"
    refine draw_spec hd ht1 (by decide) fun r S2 r2 r3 ht2 kb2 hl2 => ?_
    walk_at "w"
    exact h _ _ (by omega) (by omega) ht2 (kb1.trans kb2) (by rw [hl2, hl1])

/-! ### week -/
def dWeek (fd : Nat) : DDef :=
  ⟨"_law_week", ["tape", "number", "k"], 1, [
    .asg (.nm 1) (.idx (.ls [(.int 127), (.int 62), (.bin .add (.int 1) (.call fd [(.var 0), (.int 127)]))]) (.call fd [(.var 0), (.int 3)])),
    .ite (.cmp .eq (.call fd [(.var 0), (.int 6)]) (.int 0)) [
      .asg (.nm 1) (.idx (.ls [(.int 1), (.int 2), (.int 4), (.int 8), (.int 16), (.int 32), (.int 64)]) (.call fd [(.var 0), (.int 7)]))] [],
    .ret (.meth .join (.str "") [(.comp false (.bi .str [(.bin .mod (.bin .fdiv (.var 1) (.idx (.ls [(.int 1), (.int 2), (.int 4), (.int 8), (.int 16), (.int 32), (.int 64)]) (.var 2))) (.int 2))]) (.nm 2) [("k", 2)] .rg [(.int 7)] none)])]⟩
def bitD (m : Int) : D → D
  | .int i => .str (Str.ofString (toString (m / (2 ^ i.toNat) % 2)))
  | _ => .non
def sign (z : Int) : Nat := if z = 0 then 48 else 49
def signs (m : Int) : List Nat := [sign (m / 1 % 2), sign (m / 2 % 2), sign (m / 4 % 2), sign (m / 8 % 2), sign (m / 16 % 2), sign (m / 32 % 2), sign (m / 64 % 2)]
theorem bit_str {z : Int} (h : z = 0 ∨ z = 1) : Str.ofString (toString z) = ⟨#[sign z]⟩ := by
  rcases h with rfl | rfl <;> decide +kernel
theorem log_bit {z : Int} (h : z = 0 ∨ z = 1) : Nat.log2 z.natAbs < 1920 := by
  rcases h with rfl | rfl <;> decide
theorem bits_eq (m : Int) : (collect (fun _ => true) (bitD m) (rangeD 0 7)) = (signs m).map fun c => D.str ⟨#[c]⟩ := by
  have e : (collect (fun _ => true) (bitD m) (rangeD 0 7)) = [.str (Str.ofString (toString (m / 1 % 2))), .str (Str.ofString (toString (m / 2 % 2))), .str (Str.ofString (toString (m / 4 % 2))), .str (Str.ofString (toString (m / 8 % 2))), .str (Str.ofString (toString (m / 16 % 2))), .str (Str.ofString (toString (m / 32 % 2))), .str (Str.ofString (toString (m / 64 % 2)))] := rfl
  rw [e]
  have h : ∀ q : Int, Str.ofString (toString (m / q % 2)) = ⟨#[sign (m / q % 2)]⟩ := fun q => bit_str (by omega)
  simp only [h]
  rfl
theorem signs_one {m : Int} (h1 : 1 ≤ m) (h2 : m ≤ 127) : ∃ i, i < 7 ∧ (signs m)[i]? = some 49 := by
  have s : ∀ z : Int, z = 1 → sign z = 49 := fun z h => by rw [h]; rfl
  rcases (by omega : m / 1 % 2 = 1 ∨ m / 2 % 2 = 1 ∨ m / 4 % 2 = 1 ∨ m / 8 % 2 = 1 ∨ m / 16 % 2 = 1 ∨ m / 32 % 2 = 1 ∨ m / 64 % 2 = 1) with h | h | h | h | h | h | h
  · exact ⟨0, by decide, congrArg some (s _ h)⟩
  · exact ⟨1, by decide, congrArg some (s _ h)⟩
  · exact ⟨2, by decide, congrArg some (s _ h)⟩
  · exact ⟨3, by decide, congrArg some (s _ h)⟩
  · exact ⟨4, by decide, congrArg some (s _ h)⟩
  · exact ⟨5, by decide, congrArg some (s _ h)⟩
  · exact ⟨6, by decide, congrArg some (s _ h)⟩
theorem join_signs (m : Int) : Txt.join "" ((signs m).map fun c => ⟨#[c]⟩) = ⟨(signs m).toArray⟩ := by rfl
theorem week_spec {T : List DDef} {f fd n : Nat} (hf : T[f]? = some (dWeek fd)) (hd : T[fd]? = some dDraw) {S : Sto} {t : Nat} {k : WK} (ht : Tape S t)
    (h : ∀ (wk : List Nat) S', wk.length = 7 → (∃ i, i < 7 ∧ wk[i]? = some 49) → Tape S' t → KeepB t S S' → S'.length = S.length → k (.str ⟨wk.toArray⟩) S') : Run T (n + 2) f [.ptr t] S k := by
  refine run_of hf rfl ?_
  walk_at "w"
  have rest : ∀ (m : Int) (S1 : Sto), 1 ≤ m → m ≤ 127 → Tape S1 t → KeepB t S S1 → S1.length = S.length → wSs (Run T (n + 1)) [.ret (.meth .join (.str "") [(.comp false (.bi .str [(.bin .mod (.bin .fdiv (.var 1) (.idx (.ls [(.int 1), (.int 2), (.int 4), (.int 8), (.int 16), (.int 32), (.int 64)]) (.var 2))) (.int 2))]) (.nm 2) [("k", 2)] .rg [(.int 7)] none)])]
      [some (.ptr t), some (.int m), none] S1 { nx := fun _ S1 => k .non S1, rt := k } := by
    intro m S1 h1 h2 ht1 kb1 hl1
    walk_at "w"
    refine ⟨trivial, ?_⟩
    walk_at "w"
    refine ⟨⟨by decide, by decide⟩, ?_⟩
    refine ⟨by decide, ?_⟩
    refine comp_pure (fun _ => true) (bitD m) _ _ (fun x hx kk hkk => ?_) ?_
    · obtain ⟨i, hi, rfl⟩ := range_mem hx
      have hi : i < 7 := hi
      rcases (by omega : i = 0 ∨ i = 1 ∨ i = 2 ∨ i = 3 ∨ i = 4 ∨ i = 5 ∨ i = 6) with rfl | rfl | rfl | rfl | rfl | rfl | rfl
      all_goals
        walk_at "w"
        refine ⟨fun _ => ?_, fun h => by cases h⟩
        walk_at "w"
        refine ⟨⟨by decide, by decide⟩, ?_⟩
        walk_at "w"
        refine ⟨by decide, ?_⟩
        walk_at "w"
        refine ⟨?_, hkk⟩
        exact log_bit (by omega)
    · rw [show (7 : Int).toNat = 7 from rfl, bits_eq]
      walk_at "w"
      refine ⟨(by decide : (7 : Nat) + 7 * 0 ≤ 16777216), ?_⟩
      exact h (signs m) S1 rfl (signs_one h1 h2) ht1 kb1 hl1
  refine draw_spec hd ht (by decide) fun r S1 r0 r1 ht1 kb1 hl1 => ?_
  walk_at "w"
  refine draw_spec hd ht1 (by decide) fun q S2 q0 q1 ht2 kb2 hl2 => ?_
  walk_at "w"
  have r1 : r < 127 := r1
  have q1 : q < 3 := q1
  have next : ∀ m : Int, 1 ≤ m → m ≤ 127 → wSs (Run T (n + 1)) [.ite (.cmp .eq (.call fd [(.var 0), (.int 6)]) (.int 0)) [
      .asg (.nm 1) (.idx (.ls [(.int 1), (.int 2), (.int 4), (.int 8), (.int 16), (.int 32), (.int 64)]) (.call fd [(.var 0), (.int 7)]))] [],
    .ret (.meth .join (.str "") [(.comp false (.bi .str [(.bin .mod (.bin .fdiv (.var 1) (.idx (.ls [(.int 1), (.int 2), (.int 4), (.int 8), (.int 16), (.int 32), (.int 64)]) (.var 2))) (.int 2))]) (.nm 2) [("k", 2)] .rg [(.int 7)] none)])]
      [some (.ptr t), some (.int m), none] S2 { nx := fun _ S1 => k .non S1, rt := k } := by
    intro m h1 h2
    walk_at "w"
    refine draw_spec hd ht2 (by decide) fun p S3 p0 p1 ht3 kb3 hl3 => ?_
    walk_at "w"
    refine ⟨rfl, ?_⟩
    have kb4 := (kb1.trans kb2).trans kb3
    have hl4 : S3.length = S.length := by rw [hl3, hl2, hl1]
    refine ⟨fun _ => ?_, fun _ => rest m S3 h1 h2 ht3 kb4 hl4⟩
    walk_at "w"
    refine draw_spec hd ht3 (by decide) fun p S4 p0 p1 ht4 kb5 hl5 => ?_
    have p1 : p < 7 := p1
    walk_at "w"
    rcases (by omega : p = 0 ∨ p = 1 ∨ p = 2 ∨ p = 3 ∨ p = 4 ∨ p = 5 ∨ p = 6) with rfl | rfl | rfl | rfl | rfl | rfl | rfl
    all_goals exact rest _ S4 (by decide) (by decide) ht4 (kb4.trans kb5) (by rw [hl5, hl4])
  rcases (by omega : q = 0 ∨ q = 1 ∨ q = 2) with rfl | rfl | rfl
  · exact next 127 (by decide) (by decide)
  · exact next 62 (by decide) (by decide)
  · exact next (1 + r) (by omega) (by omega)
end Ov
-- OvP
/-! Closed days, calendars, what works. -/
namespace Ov
open PySem L2
local macro_rules | `(tactic| walk_at "w") => `(tactic| conv => whnf)
local macro_rules | `(tactic| walk_at "wn") => `(tactic| simp only [List.set_cons_zero, List.set_cons_succ, Int.reduceToNat])

theorem KeepB.own {t p : Nat} {S S1 : Sto} (h : KeepB t S S1) (hp : S.length ≤ p) (x : List D) : KeepB t S (S1.set p x) := ⟨by rw [List.length_set]; exact h.1, fun n xs e h1 => by
  have hn := (List.getElem?_eq_some_iff.mp h1).1
  rw [List.getElem?_set_ne (by omega)]
  exact h.2 n xs e h1⟩
theorem Tape.own {t p : Nat} {S : Sto} (h : Tape S t) (hp : p ≠ t) (x : List D) : Tape (S.set p x) t := by
  obtain ⟨xs, e, r⟩ := h
  exact ⟨xs, by rw [List.getElem?_set_ne hp]; exact e, r⟩
theorem Tape.app {t : Nat} {S : Sto} (h : Tape S t) (x : List (List D)) : Tape (S ++ x) t := by
  obtain ⟨xs, e, r⟩ := h
  exact ⟨xs, (Keep.app S x).2 t xs e, r⟩
theorem Tape.lt {t : Nat} {S : Sto} (h : Tape S t) : t < S.length := by
  obtain ⟨xs, e, r⟩ := h
  exact (List.getElem?_eq_some_iff.mp e).1

def dClosed (fd : Nat) : DDef :=
  ⟨"_law_closed", ["tape", "base", "most", "closed", "day", "pace", "k"], 3, [
    .asg (.nm 3) (.mls []),
    .asg (.nm 4) (.bi .max [(.bin .sub (.var 1) (.call fd [(.var 0), (.int 9)])), (.int 0)]),
    .asg (.nm 5) (.idx (.ls [(.int 1), (.int 7), (.int 0), (.int 0)]) (.call fd [(.var 0), (.int 4)])),
    .forS (.nm 6) .rg [(.idx (.ls [(.int 0), (.int 1), (.int 3), (.call fd [(.var 0), (.bin .add (.var 2) (.int 1))]), (.var 2)]) (.call fd [(.var 0), (.int 5)]))] [
      .ite (.cmp .le (.var 4) (.int 400)) [
        .expr (.meth .append (.var 3) [(.var 4)])] [],
      .ite (.cmp .gt (.var 5) (.int 0)) [
        .asg (.nm 4) (.bin .add (.var 4) (.var 5))] [
        .asg (.nm 4) (.bin .add (.bin .add (.var 4) (.int 1)) (.call fd [(.var 0), (.idx (.ls [(.int 3), (.int 20)]) (.call fd [(.var 0), (.int 2)]))]))]],
    .ret (.bi .tuple [(.var 3)])]⟩
theorem max0 (x : Int) : 0 ≤ (if (0 : Int) > x then 0 else x) := by split <;> omega
theorem closed_spec {T : List DDef} {f fd n : Nat} (hf : T[f]? = some (dClosed fd)) (hd : T[fd]? = some dDraw) {S : Sto} {t : Nat} {base most : Int} {k : WK} (ht : Tape S t) (hm0 : 0 ≤ most) (hm : most ≤ 1000)
    (h : ∀ (cl : List Int) S', (cl.length : Int) ≤ max 3 most → (∀ c ∈ cl, 0 ≤ c ∧ c ≤ 400) → Tape S' t → KeepB t S S' → S'.length = S.length + 1 → k (.tup (cl.map D.int)) S') : Run T (n + 2) f [.ptr t, .int base, .int most] S k := by
  refine run_of hf rfl ?_
  have ht0 := ht.lt
  walk_at "w"
  refine draw_spec hd (ht.app [[]]) (by decide) fun r S1 r0 r1 ht1 kb1 hl1 => ?_
  walk_at "w"
  refine draw_spec hd ht1 (by decide) fun q S2 q0 q1 ht2 kb2 hl2 => ?_
  have q1 : q < 4 := q1
  have kb3 : KeepB t S S2 := ((Keep.app S [[]]).b.trans kb1).trans kb2
  have hl3 : S2.length = S.length + 1 := by rw [hl2, hl1]; simp
  have hp0 : S2[S.length]? = some [] := kb2.2 _ _ (by omega) (kb1.2 _ _ (by omega) (List.getElem?_concat_length ..))
  have main : ∀ pace : Int, 0 ≤ pace → wSs (Run T (n + 1)) [.forS (.nm 6) .rg [(.idx (.ls [(.int 0), (.int 1), (.int 3), (.call fd [(.var 0), (.bin .add (.var 2) (.int 1))]), (.var 2)]) (.call fd [(.var 0), (.int 5)]))] [
        .ite (.cmp .le (.var 4) (.int 400)) [
          .expr (.meth .append (.var 3) [(.var 4)])] [],
        .ite (.cmp .gt (.var 5) (.int 0)) [
          .asg (.nm 4) (.bin .add (.var 4) (.var 5))] [
          .asg (.nm 4) (.bin .add (.bin .add (.var 4) (.int 1)) (.call fd [(.var 0), (.idx (.ls [(.int 3), (.int 20)]) (.call fd [(.var 0), (.int 2)]))]))]],
      .ret (.bi .tuple [(.var 3)])]
      [some (.ptr t), some (.int base), some (.int most), some (.ptr S.length), some (.int (if (0 : Int) > base - r then 0 else base - r)), some (.int pace), none] S2 { nx := fun _ S1 => k .non S1, rt := k } := by
    intro pace hpace
    generalize hday : (if (0 : Int) > base - r then 0 else base - r) = day
    have hday0 : 0 ≤ day := hday ▸ max0 _
    walk_at "w"
    refine draw_spec hd ht2 (by omega) fun m S3 m0 m1 ht4 kb4 hl4 => ?_
    walk_at "w"
    refine draw_spec hd ht4 (by decide) fun s S5 s0 s1 ht5 kb5 hl5 => ?_
    have s1 : s < 5 := s1
    have m1 : m ≤ most := by rw [Int.max_def] at m1; split at m1 <;> omega
    have kb6 := (kb3.trans kb4).trans kb5
    have hl6 : S5.length = S.length + 1 := by rw [hl5, hl4, hl3]
    have hp6 : S5[S.length]? = some [] := kb5.2 _ _ (by omega) (kb4.2 _ _ (by omega) hp0)
    walk_at "w"
    have loop : ∀ c : Int, 0 ≤ c → c ≤ max 3 most → itW .rg [.int c] S5 fun xs sr => True ∧
        forW (forB (Run T (n + 1)) (.nm 6) [
        .ite (.cmp .le (.var 4) (.int 400)) [
          .expr (.meth .append (.var 3) [(.var 4)])] [],
        .ite (.cmp .gt (.var 5) (.int 0)) [
          .asg (.nm 4) (.bin .add (.var 4) (.var 5))] [
          .asg (.nm 4) (.bin .add (.bin .add (.var 4) (.int 1)) (.call fd [(.var 0), (.idx (.ls [(.int 3), (.int 20)]) (.call fd [(.var 0), (.int 2)]))]))]]) sr xs xs
        [some (.ptr t), some (.int base), some (.int most), some (.ptr S.length), some (.int day), some (.int pace), none] S5 { nx := fun σ1 S1 => wSs (Run T (n + 1)) [.ret (.bi .tuple [(.var 3)])] σ1 S1 { nx := fun _ S1 => k .non S1, rt := k }, rt := k } := by
      intro c c0 c1
      have c2 : c ≤ 1000 := by rw [Int.max_def] at c1; split at c1 <;> omega
      refine ⟨⟨by omega, by omega⟩, trivial, ?_⟩
      refine for_inv (Run_mono T (n + 1)) (fun i σ S1 => ∃ (cl : List Int) (day : Int) (v : Option D), σ = [some (.ptr t), some (.int base), some (.int most), some (.ptr S.length), some (.int day), some (.int pace), v] ∧ 0 ≤ day ∧
        S1[S.length]? = some (cl.map D.int) ∧ cl.length ≤ i ∧ (∀ c ∈ cl, 0 ≤ c ∧ c ≤ 400) ∧ Tape S1 t ∧ KeepB t S S1 ∧ S1.length = S.length + 1) ⟨[], day, none, rfl, hday0, hp6, Nat.le_refl _, (fun _ h => nomatch h), ht5, kb6, hl6⟩ ?_ ?_
      · rintro i x σ S1 hx ⟨cl, day, v, rfl, d0, e, hc, hcs, ht7, kb7, hl7⟩
        obtain ⟨hi, rfl⟩ := range_at hx
        walk_at "w"
        have second : ∀ (cl : List Int) (S1 : Sto), S1[S.length]? = some (cl.map D.int) → cl.length ≤ i + 1 → (∀ c ∈ cl, 0 ≤ c ∧ c ≤ 400) → Tape S1 t → KeepB t S S1 → S1.length = S.length + 1 →
            ∀ (w : D) (rt : WK) (bk : DEnv → Sto → Prop), wSs (Run T (n + 1)) [.ite (.cmp .gt (.var 5) (.int 0)) [
              .asg (.nm 4) (.bin .add (.var 4) (.var 5))] [
              .asg (.nm 4) (.bin .add (.bin .add (.var 4) (.int 1)) (.call fd [(.var 0), (.idx (.ls [(.int 3), (.int 20)]) (.call fd [(.var 0), (.int 2)]))]))]]
            [some (.ptr t), some (.int base), some (.int most), some (.ptr S.length), some (.int day), some (.int pace), some w] S1
            { nx := fun σ S1 => ∃ (cl : List Int) (day : Int) (v : Option D), σ = [some (.ptr t), some (.int base), some (.int most), some (.ptr S.length), some (.int day), some (.int pace), v] ∧ 0 ≤ day ∧
        S1[S.length]? = some (cl.map D.int) ∧ cl.length ≤ i + 1 ∧ (∀ c ∈ cl, 0 ≤ c ∧ c ≤ 400) ∧ Tape S1 t ∧ KeepB t S S1 ∧ S1.length = S.length + 1, rt := rt, bk := bk, ct := fun σ S1 => ∃ (cl : List Int) (day : Int) (v : Option D), σ = [some (.ptr t), some (.int base), some (.int most), some (.ptr S.length), some (.int day), some (.int pace), v] ∧ 0 ≤ day ∧
        S1[S.length]? = some (cl.map D.int) ∧ cl.length ≤ i + 1 ∧ (∀ c ∈ cl, 0 ≤ c ∧ c ≤ 400) ∧ Tape S1 t ∧ KeepB t S S1 ∧ S1.length = S.length + 1 } := by
          intro cl S1 e hc hcs ht7 kb7 hl7 w rt bk
          walk_at "w"
          refine ⟨fun _ => ⟨cl, _, some w, rfl, by omega, e, hc, hcs, ht7, kb7, hl7⟩, fun _ => ?_⟩
          walk_at "w"
          refine draw_spec hd ht7 (by decide) fun a S8 a0 a1 ht8 kb8 hl8 => ?_
          have a1 : a < 2 := a1
          walk_at "w"
          rcases (by omega : a = 0 ∨ a = 1) with rfl | rfl
          all_goals
            walk_at "w"
            refine draw_spec hd ht8 (by decide) fun b S9 b0 b1 ht9 kb9 hl9 => ?_
            walk_at "w"
            exact ⟨cl, _, some w, rfl, by omega, kb9.2 _ _ (by omega) (kb8.2 _ _ (by omega) e), hc, hcs, ht9, (kb7.trans kb8).trans kb9, by rw [hl9, hl8, hl7]⟩
        refine ⟨fun c => ?_, fun _ => second cl S1 e (by omega) hcs ht7 kb7 hl7 _ _ _⟩
        have c : day ≤ 400 := of_decide_eq_true c
        walk_at "w"
        refine ⟨trivial, ?_⟩
        walk_at "w"
        rw [e]
        have hlen : (cl.map D.int).length < sizeLine := by rw [List.length_map]; show _ < 16777216; omega
        refine ⟨hlen, ?_⟩
        have hpl : S.length < S1.length := by omega
        refine second (cl ++ [day]) _ ?_ (by simp; omega) (fun z hz => ?_) (ht7.own (by omega) _) (kb7.own (Nat.le_refl _) _) (by rw [List.length_set]; exact hl7) _ _ _
        · rw [List.getElem?_set_self hpl, List.map_append]
          rfl
        · rcases List.mem_append.mp hz with hz | hz
          · exact hcs z hz
          · rw [List.mem_singleton.mp hz]
            exact ⟨d0, c⟩
      · rintro σ S1 ⟨cl, day, v, rfl, d0, e, hc, hcs, ht7, kb7, hl7⟩
        walk_at "w"
        rw [show seqOf S1 (.ptr S.length) = _ from e]
        refine h cl S1 ?_ hcs ht7 kb7 hl7
        rw [rangeD_len] at hc
        omega
    rcases (by omega : s = 0 ∨ s = 1 ∨ s = 2 ∨ s = 3 ∨ s = 4) with rfl | rfl | rfl | rfl | rfl
    · exact loop 0 (by omega) (by omega)
    · exact loop 1 (by omega) (by omega)
    · exact loop 3 (by omega) (by omega)
    · exact loop m (by omega) (by omega)
    · exact loop most (by omega) (by omega)
  walk_at "w"
  rcases (by omega : q = 0 ∨ q = 1 ∨ q = 2 ∨ q = 3) with rfl | rfl | rfl | rfl
  · exact main 1 (by decide)
  · exact main 7 (by decide)
  · exact main 0 (by decide)
  · exact main 0 (by decide)

def dCalendar (fw fc : Nat) : DDef :=
  ⟨"_law_calendar", ["tape", "base", "week"], 2, [
    .asg (.nm 2) (.call fw [(.var 0)]),
    .ret (.tup [(.var 2), (.call fc [(.var 0), (.var 1), (.int 10)])])]⟩
theorem calendar_spec {T : List DDef} {f fw fc fd n : Nat} (hf : T[f]? = some (dCalendar fw fc)) (hw : T[fw]? = some (dWeek fd)) (hc : T[fc]? = some (dClosed fd)) (hd : T[fd]? = some dDraw) {S : Sto} {t : Nat} {base : Int} {k : WK} (ht : Tape S t)
    (h : ∀ wk cl S', Cal wk cl → (∀ c ∈ cl, 0 ≤ c ∧ c ≤ 400) → Tape S' t → KeepB t S S' → S'.length = S.length + 1 → k (calD wk cl) S') : Run T (n + 3) f [.ptr t, .int base] S k := by
  refine run_of hf rfl ?_
  walk_at "w"
  refine week_spec hw hd ht fun wk S1 w1 w2 ht1 kb1 hl1 => ?_
  walk_at "w"
  refine closed_spec hc hd ht1 (by decide) (by decide) fun cl S2 c1 c2 ht2 kb2 hl2 => ?_
  have c1 : (cl.length : Int) ≤ 10 := c1
  walk_at "w"
  exact h wk cl S2 ⟨w1, w2, by omega⟩ c2 ht2 (kb1.trans kb2) (by rw [hl2, hl1])
end Ov
-- OvQ
/-! What works, the next and the last before. -/
namespace Ov
open PySem L2
local macro_rules | `(tactic| walk_at "w") => `(tactic| conv => whnf)
local macro_rules | `(tactic| walk_at "wn") => `(tactic| simp only [List.set_cons_zero, List.set_cons_succ, Int.reduceToNat])

def dWorks : DDef :=
  ⟨"_law_works", ["calendar", "day"], 2, [
    .ret (.andv (.cmp .eq (.idx (.idx (.var 0) (.int 0)) (.bin .mod (.bi .int [(.var 1)]) (.int 7))) (.str "1")) (.one (.cmp .notIn (.var 1) (.idx (.var 0) (.int 1)))))]⟩
theorem works_spec {T : List DDef} {f n : Nat} (hf : T[f]? = some dWorks) {wk : List Nat} {cl : List Int} (c : Cal wk cl) (d : Int) {S : Sto} {k : WK} (h : k (.bl (biz wk cl d)) S) : Run T (n + 1) f [calD wk cl, .int d] S k := by
  refine run_of hf rfl ?_
  walk_at "w"
  refine ⟨by decide, ?_⟩
  walk_at "w"
  refine ⟨(wk_at c d).2, ?_⟩
  rw [(wk_at c d).1]
  walk_at "w"
  refine ⟨rfl, ?_⟩
  rw [one_eq]
  cases hb : (wk.getD (d % 7).toNat 0 == 49) with
  | true =>
    walk_at "w"
    refine ⟨rfl, flats_map cl, ?_⟩
    rw [any_map]
    unfold biz at h
    rw [hb] at h
    exact h
  | false =>
    unfold biz at h
    rw [hb] at h
    exact h
def dNext (fw : Nat) : DDef :=
  ⟨"_law_next", ["calendar", "day", "k"], 2, [
    .forS (.nm 2) .rg [(.int 80)] [
      .ite (.tru (.call fw [(.var 0), (.var 1)])) [
        .ret (.var 1)] [],
      .asg (.nm 1) (.bin .add (.var 1) (.int 1))],
    .ret (.var 1)]⟩
theorem next_spec {T : List DDef} {f fw n : Nat} (hf : T[f]? = some (dNext fw)) (hw : T[fw]? = some dWorks) {wk : List Nat} {cl : List Int} (c : Cal wk cl) {d : Int} {m : Nat} (h0 : m ≤ 76) (h1 : biz wk cl (d + m) = true) (h2 : ∀ j : Nat, j < m → biz wk cl (d + j) = false)
    {S : Sto} {k : WK} (h : k (.int (d + m)) S) : Run T (n + 2) f [calD wk cl, .int d] S k := by
  refine run_of hf rfl ?_
  walk_at "w"
  refine ⟨⟨by decide, by decide⟩, trivial, ?_⟩
  refine for_inv (Run_mono T (n + 1)) (fun i σ S1 => S1 = S ∧ i ≤ m ∧ ∃ v, σ = [some (calD wk cl), some (.int (d + i)), v]) ⟨rfl, Nat.zero_le _, none, by rw [show d + ((0 : Nat) : Int) = d by omega]; rfl⟩ ?_ ?_
  · rintro i x σ S1 hx ⟨rfl, hi, v, rfl⟩
    walk_at "w"
    refine works_spec hw c _ ?_
    walk_at "w"
    refine ⟨fun hb => ?_, fun hb => ?_⟩
    · have he : i = m := Classical.byContradiction fun hne => by
        rw [h2 i (by omega)] at hb
        cases hb
      rw [he]
      exact h
    · have hne : i ≠ m := fun he => by
        rw [he, h1] at hb
        cases hb
      exact ⟨rfl, by omega, some x, by rw [show d + ((i + 1 : Nat) : Int) = d + i + 1 by omega]; rfl⟩
  · rintro σ S1 ⟨rfl, hi, v, rfl⟩
    rw [rangeD_len] at hi
    have hi : 80 ≤ m := hi
    omega

theorem range_split (lo : Int) (a b : Nat) : rangeD lo (a + b) = rangeD lo a ++ rangeD (lo + a) b := by
  unfold rangeD
  rw [List.range_add, List.map_append, List.map_map]
  congr 1
  refine List.map_congr_left fun i _ => ?_
  show D.int (lo + ((a + i : Nat) : Int)) = D.int (lo + a + i)
  congr 1
  omega
def isInt (p : Int → Bool) : D → Bool
  | .int i => p i
  | _ => false
theorem collect_none {p : Int → Bool} {lo : Int} {n : Nat} (h : ∀ j : Nat, j < n → p (lo + j) = false) : collect (isInt p) (fun x => x) (rangeD lo n) = [] := by
  unfold collect
  rw [List.filter_eq_nil_iff.mpr, List.map_nil]
  intro x hx
  obtain ⟨i, hi, rfl⟩ := range_mem hx
  show ¬(p (lo + i) = true)
  rw [h i hi]
  exact Bool.false_ne_true
theorem collect_app (p : D → Bool) (f : D → D) (a b : List D) : collect p f (a ++ b) = collect p f a ++ collect p f b := by
  unfold collect
  rw [List.filter_append, List.map_append]
theorem at_last (a : List D) (x : D) : atI (a ++ [x]) (-1) = some x := by
  unfold atI ixN
  rw [if_neg (by decide), List.length_append, List.length_singleton]
  rw [if_pos (by omega)]
  show (a ++ [x])[_]? = some x
  rw [show -1 + ((a.length + 1 : Nat) : Int) = (a.length : Int) by omega]
  exact List.getElem?_concat_length ..
theorem collect_last {p : Int → Bool} {lo d : Int} {n m : Nat} (hn : lo + n = d + 1) (hm : m < n) (h1 : p (d - m) = true) (h2 : ∀ j : Nat, j < m → p (d - j) = false) :
    ∃ a, collect (isInt p) (fun x => x) (rangeD lo n) = a ++ [.int (d - m)] := by
  refine ⟨collect (isInt p) (fun x => x) (rangeD lo (n - m - 1)), ?_⟩
  rw [show n = n - m - 1 + (1 + m) by omega, range_split, collect_app, range_split, collect_app]
  rw [show n - m - 1 + (1 + m) - m - 1 = n - m - 1 by omega]
  rw [show lo + ((n - m - 1 : Nat) : Int) = d - m by omega]
  rw [collect_none (p := p) (lo := d - m + (1 : Nat)) (n := m) fun j hj => ?_]
  · rw [List.append_nil]
    congr 1
    have e : collect (isInt p) (fun x => x) [.int (d - m)] = [.int (d - m)] := by
      unfold collect
      rw [List.filter_cons_of_pos (show isInt p (.int (d - m)) = true from h1)]
      rfl
    rw [show rangeD (d - m) 1 = [.int (d - m)] from by
      show [D.int (d - m + ((0 : Nat) : Int))] = _
      rw [show d - (m : Int) + ((0 : Nat) : Int) = d - m by omega]]
    exact e
  · rw [show d - (m : Int) + ((1 : Nat) : Int) + (j : Int) = d - ((m - 1 - j : Nat) : Int) by omega]
    exact h2 _ (by omega)
def dPrev (fw : Nat) : DDef :=
  ⟨"_law_previous", ["calendar", "day", "found", "early"], 2, [
    .asg (.nm 2) (.comp false (.var 3) (.nm 3) [("early", 3)] .rg [(.bi .max [(.bin .sub (.var 1) (.int 80)), (.int 0)]), (.bin .add (.var 1) (.int 1))] (some (.tru (.call fw [(.var 0), (.var 3)])))),
    .ite (.tru (.var 2)) [
      .ret (.idx (.var 2) (.neg (.int 1)))] [],
    .ret .non]⟩
/-- the last business day up to d, none before day 0 -/
inductive Last (wk : List Nat) (cl : List Int) (d : Int) : D → Prop
  | some (m : Nat) (h0 : m ≤ 76) (hm : (m : Int) ≤ d) (h1 : biz wk cl (d - m) = true) (h2 : ∀ j : Nat, j < m → biz wk cl (d - j) = false) : Last wk cl d (.int (d - m))
  | none (h : ∀ j : Nat, (j : Int) ≤ d → biz wk cl (d - j) = false) : Last wk cl d .non
theorem Cal.last {wk : List Nat} {cl : List Int} (c : Cal wk cl) (d : Int) : ∃ x, Last wk cl d x := by
  obtain ⟨m, h0, h1, h2⟩ := c.prev d
  by_cases hm : (m : Int) ≤ d
  · exact ⟨_, .some m h0 hm h1 h2⟩
  · exact ⟨_, .none fun j hj => h2 j (by omega)⟩
theorem previous_spec {T : List DDef} {f fw n : Nat} (hf : T[f]? = some (dPrev fw)) (hw : T[fw]? = some dWorks) {wk : List Nat} {cl : List Int} (c : Cal wk cl) {d : Int} (hd : -1000000 < d ∧ d < 1000000) {x : D} (hl : Last wk cl d x)
    {S : Sto} {k : WK} (h : k x S) : Run T (n + 2) f [calD wk cl, .int d] S k := by
  refine run_of hf rfl ?_
  walk_at "w"
  generalize hlo : (if (0 : Int) > d - 80 then 0 else d - 80) = lo
  have hlo2 : 0 ≤ lo ∧ d - 80 ≤ lo ∧ (lo = 0 ∨ lo = d - 80) := by rw [← hlo]; split <;> omega
  clear hlo
  refine ⟨⟨⟨by omega, by omega⟩, ⟨by omega, by omega⟩⟩, ?_⟩
  refine ⟨?_, ?_⟩
  · rw [rangeD_len]
    show _ < 16777216
    omega
  refine comp_pick (isInt (biz wk cl)) (fun x => x) _ _ (fun y hy kk hk1 hk2 => ?_) ?_
  · obtain ⟨i, hi, rfl⟩ := range_mem hy
    walk_at "w"
    refine works_spec hw c _ ?_
    walk_at "w"
    exact ⟨fun hb => hk1 hb, fun hb => hk2 hb⟩
  · cases hl with
    | some m h0 hm h1 h2 =>
      obtain ⟨a, e⟩ := collect_last (p := biz wk cl) (lo := lo) (d := d) (n := (d + 1 - lo).toNat) (m := m) (by omega) (by omega) h1 h2
      rw [e]
      walk_at "w"
      refine ⟨fun _ => ?_, fun hb => ?_⟩
      · walk_at "w"
        rw [at_last]
        exact h
      · have hb : (!(a ++ [D.int (d - m)]).isEmpty) = false := hb
        simp at hb
    | none h2 =>
      rw [collect_none (p := biz wk cl) (lo := lo) (n := (d + 1 - lo).toNat) fun j hj => by
        rw [show lo + (j : Int) = d - ((d - lo - j).toNat : Int) by omega]
        exact h2 _ (by omega)]
      walk_at "w"
      exact ⟨(fun hb => nomatch hb), fun _ => h⟩

/-! ### the program's own -/
def dIsBiz : DDef :=
  ⟨"is_business_day", ["calendar", "day", "week", "closed"], 2, [
    .asg (.tp [(.nm 2), (.nm 3)]) (.var 0),
    .ret (.andv (.cmp .eq (.idx (.var 2) (.bin .mod (.var 1) (.int 7))) (.str "1")) (.one (.cmp .notIn (.var 1) (.var 3))))]⟩
theorem isBiz_spec {T : List DDef} {f n : Nat} (hf : T[f]? = some dIsBiz) {wk : List Nat} {cl : List Int} (c : Cal wk cl) (d : Int) {S : Sto} {k : WK} (h : k (.bl (biz wk cl d)) S) : Run T (n + 1) f [calD wk cl, .int d] S k := by
  refine run_of hf rfl ?_
  walk_at "w"
  refine ⟨rfl, ?_⟩
  walk_at "w"
  refine ⟨by decide, ?_⟩
  walk_at "w"
  refine ⟨(wk_at c d).2, ?_⟩
  rw [(wk_at c d).1]
  walk_at "w"
  refine ⟨rfl, ?_⟩
  rw [one_eq]
  cases hb : (wk.getD (d % 7).toNat 0 == 49) with
  | true =>
    walk_at "w"
    refine ⟨rfl, flats_map cl, ?_⟩
    rw [any_map]
    unfold biz at h
    rw [hb] at h
    exact h
  | false =>
    unfold biz at h
    rw [hb] at h
    exact h
def dNextBiz (fb : Nat) : DDef :=
  ⟨"next_business_day", ["calendar", "day"], 2, [
    .whil (.notv (.tru (.call fb [(.var 0), (.var 1)]))) [
      .aug 1 .add (.int 1)],
    .ret (.var 1)]⟩
theorem nextBiz_spec {T : List DDef} {f fb n : Nat} (hf : T[f]? = some (dNextBiz fb)) (hb : T[fb]? = some dIsBiz) {wk : List Nat} {cl : List Int} (c : Cal wk cl) {d : Int} {m : Nat} (h1 : biz wk cl (d + m) = true) (h2 : ∀ j : Nat, j < m → biz wk cl (d + j) = false)
    {S : Sto} {k : WK} (h : k (.int (d + m)) S) : Run T (n + 2) f [calD wk cl, .int d] S k := by
  refine run_of hf rfl ?_
  walk_at "w"
  refine ⟨fun μ σ S1 => S1 = S ∧ ∃ j : Nat, j ≤ m ∧ μ = m - j ∧ σ = [some (calD wk cl), some (.int (d + j))], ⟨m, rfl, 0, Nat.zero_le _, rfl, by rw [show d + ((0 : Nat) : Int) = d by omega]; rfl⟩, ?_⟩
  rintro μ σ S1 ⟨rfl, j, hj, rfl, rfl⟩
  walk_at "w"
  refine isBiz_spec hb c _ ?_
  walk_at "w"
  refine ⟨fun hx => ?_, fun hx => ?_⟩
  · have hne : j ≠ m := fun e => by
      rw [e, h1] at hx
      cases hx
    walk_at "w"
    exact ⟨m - (j + 1), by omega, rfl, j + 1, by omega, rfl, by rw [show d + ((j + 1 : Nat) : Int) = d + j + 1 by omega]; rfl⟩
  · have he : j = m := Classical.byContradiction fun hne => by
      rw [h2 j (by omega)] at hx
      cases hx
    rw [he]
    exact h
def dPrevBiz (fb : Nat) : DDef :=
  ⟨"previous_business_day", ["calendar", "day", "candidate"], 2, [
    .forS (.nm 2) .rg [(.var 1), (.neg (.int 1)), (.neg (.int 1))] [
      .ite (.tru (.call fb [(.var 0), (.var 2)])) [
        .ret (.var 2)] []],
    .ret .non]⟩
theorem prevBiz_spec {T : List DDef} {f fb n : Nat} (hf : T[f]? = some (dPrevBiz fb)) (hb : T[fb]? = some dIsBiz) {wk : List Nat} {cl : List Int} (c : Cal wk cl) {d : Int} (hd : -1000000 < d ∧ d < 1000000) {x : D} (hl : Last wk cl d x)
    {S : Sto} {k : WK} (h : k x S) : Run T (n + 2) f [calD wk cl, .int d] S k := by
  refine run_of hf rfl ?_
  walk_at "w"
  refine ⟨rfl, ⟨⟨by omega, by omega⟩, ⟨by decide, by decide⟩⟩, trivial, ?_⟩
  cases hl with
  | some m h0 hm h1 h2 =>
    refine for_inv (Run_mono T (n + 1)) (fun i σ S1 => S1 = S ∧ i ≤ m ∧ ∃ v, σ = [some (calD wk cl), some (.int d), v]) ⟨rfl, Nat.zero_le _, none, rfl⟩ ?_ ?_
    · rintro i y σ S1 hx ⟨rfl, hi, v, rfl⟩
      obtain ⟨hi2, rfl⟩ := down_at hx
      walk_at "w"
      refine isBiz_spec hb c _ ?_
      walk_at "w"
      refine ⟨fun hx => ?_, fun hx => ?_⟩
      · have he : i = m := Classical.byContradiction fun hne => by
          rw [h2 i (by omega)] at hx
          cases hx
        rw [he]
        exact h
      · have hne : i ≠ m := fun e => by
          rw [e, h1] at hx
          cases hx
        exact ⟨rfl, by omega, _, rfl⟩
    · rintro σ S1 ⟨rfl, hi, v, rfl⟩
      rw [down_len] at hi
      omega
  | none h2 =>
    refine for_inv (Run_mono T (n + 1)) (fun i σ S1 => S1 = S ∧ ∃ v, σ = [some (calD wk cl), some (.int d), v]) ⟨rfl, none, rfl⟩ ?_ ?_
    · rintro i y σ S1 hx ⟨rfl, v, rfl⟩
      obtain ⟨hi2, rfl⟩ := down_at hx
      walk_at "w"
      refine isBiz_spec hb c _ ?_
      walk_at "w"
      refine ⟨fun hx => ?_, fun hx => ⟨rfl, _, rfl⟩⟩
      rw [h2 i (by omega)] at hx
      cases hx
    · rintro σ S1 ⟨rfl, v, rfl⟩
      exact h
end Ov
-- OvR
/-! Orders, places, parts of two rows put together; business days counted. -/
namespace Ov
open PySem L2
local macro_rules | `(tactic| walk_at "w") => `(tactic| conv => whnf)
local macro_rules | `(tactic| walk_at "wn") => `(tactic| simp only [List.set_cons_zero, List.set_cons_succ, Int.reduceToNat])

/-! ### order -/
def dOrder (fd : Nat) : DDef :=
  ⟨"_law_order", ["tape", "many", "left", "order", "k"], 2, [
    .asg (.nm 2) (.lrg true (.var 1)),
    .asg (.nm 3) (.mls []),
    .forS (.nm 4) .rg [(.var 1)] [
      .expr (.meth .append (.var 3) [(.meth .pop (.var 2) [(.call fd [(.var 0), (.bi .len [(.var 2)])])])])],
    .ret (.var 3)]⟩
/-- numbers from 0 up to m -/
def Below (m : Nat) (xs : List D) : Prop := ∀ x ∈ xs, ∃ i : Nat, i < m ∧ x = .int i
theorem seqIx {r : Int} {n : Nat} (h0 : 0 ≤ r) (h1 : r < n) : seqIndex? r n = some r.toNat := by
  unfold seqIndex?
  have e : ¬ r < 0 := by omega
  simp only [if_neg e]
  rw [if_pos (by simp only [Bool.and_eq_true, decide_eq_true_eq]; exact ⟨h0, h1⟩)]
theorem Below.range (m : Nat) : Below m (rangeD 0 m) := fun x hx => by
  obtain ⟨i, hi, rfl⟩ := range_mem hx
  exact ⟨i, hi, by rw [Int.zero_add]⟩
theorem mem_erase {l : List D} {r : Nat} (hr : r < l.length) {x : D} (h : x ∈ l) : x ∈ l.eraseIdx r ∨ x = l[r] := by
  obtain ⟨i, hi, rfl⟩ := List.mem_iff_getElem.mp h
  by_cases he : i = r
  · subst he
    exact .inr rfl
  · refine .inl (List.mem_eraseIdx_iff_getElem.mpr ⟨i, hi, he, rfl⟩)
theorem order_all {T : List DDef} {f fd n : Nat} (hf : T[f]? = some (dOrder fd)) (hd : T[fd]? = some dDraw) {S : Sto} {t : Nat} {many : Nat} {k : WK} (ht : Tape S t) (hm : many < 100000)
    (h : ∀ (p : Nat) (os : List D) S', S'[p]? = some os → Below many os → os.length = many → (∀ i : Nat, i < many → D.int i ∈ os) → Tape S' t → KeepB t S S' → p ≥ S.length → k (.ptr p) S') : Run T (n + 2) f [.ptr t, .int many] S k := by
  refine run_of hf rfl ?_
  have ht0 := ht.lt
  walk_at "w"
  refine ⟨⟨by omega, by omega⟩, ?_⟩
  walk_at "w"
  refine ⟨⟨by omega, by omega⟩, trivial, ?_⟩
  have hl0 : (S ++ [rangeD 0 (many : Int).toNat]).length = S.length + 1 := by simp
  have e1 : ((S ++ [rangeD 0 (many : Int).toNat]) ++ [[]])[S.length]? = some (rangeD 0 (many : Int).toNat) := (Keep.app (S ++ [rangeD 0 (many : Int).toNat]) [[]]).2 _ _ (List.getElem?_concat_length ..)
  have e2 : ((S ++ [rangeD 0 (many : Int).toNat]) ++ [[]])[S.length + 1]? = some [] := by
    have := List.getElem?_concat_length (l := S ++ [rangeD 0 (many : Int).toNat]) (a := ([] : List D))
    rw [hl0] at this
    exact this
  refine for_inv (Run_mono T (n + 1)) (fun i σ S1 => ∃ (ls os : List D) (v : Option D), σ = [some (.ptr t), some (.int many), some (.ptr S.length), some (.ptr (S ++ [rangeD 0 (many : Int).toNat]).length), v] ∧
    S1[S.length]? = some ls ∧ S1[S.length + 1]? = some os ∧ Below many ls ∧ Below many os ∧ ls.length + i = many ∧ os.length = i ∧ (∀ q : Nat, q < many → D.int q ∈ ls ∨ D.int q ∈ os) ∧ Tape S1 t ∧ KeepB t S S1 ∧ S1.length = S.length + 2)
    ⟨_, [], none, rfl, e1, e2, by rw [Int.toNat_natCast]; exact Below.range many, (fun x hx => nomatch hx), by rw [rangeD_len, Int.toNat_natCast]; rfl, rfl, (fun q hq => .inl (by rw [Int.toNat_natCast]; exact List.mem_map.mpr ⟨q, List.mem_range.mpr hq, by rw [Int.zero_add]⟩)), (ht.app _).app _, ((Keep.app S _).trans (Keep.app _ _)).b, by simp⟩ ?_ ?_
  · rintro i x σ S1 hx ⟨ls, os, v, rfl, l1, l2, b1, b2, n1, n2, al, ht1, kb1, hl1⟩
    obtain ⟨hi, rfl⟩ := range_at hx
    rw [Int.toNat_natCast] at hi
    walk_at "w"
    refine ⟨trivial, ?_⟩
    walk_at "w"
    refine ⟨trivial, ?_⟩
    walk_at "w"
    rw [show seqOf S1 (.ptr S.length) = _ from l1]
    walk_at "w"
    refine draw_spec hd ht1 (by omega) fun r S2 r0 r1 ht2 kb2 hl2 => ?_
    have r2 : r < (ls.length : Int) := by rw [Int.max_def] at r1; split at r1 <;> omega
    have l1' := kb2.2 _ _ (show S.length ≠ t by omega) l1
    have l2' := kb2.2 _ _ (show S.length + 1 ≠ t by omega) l2
    have hr : r.toNat < ls.length := by omega
    walk_at "w"
    rw [l1']
    walk_at "w"
    rw [seqIx r0 r2]
    walk_at "w"
    rw [List.getElem?_eq_getElem hr]
    refine ⟨⟨by omega, by omega⟩, ?_⟩
    walk_at "w"
    have l3 : (S2.set S.length (ls.eraseIdx r.toNat))[(S ++ [rangeD 0 (many : Int).toNat]).length]? = some os := by
      rw [hl0, List.getElem?_set_ne (by omega)]
      exact l2'
    rw [l3]
    have hp : (S ++ [rangeD 0 (many : Int).toNat]).length < (S2.set S.length (ls.eraseIdx r.toNat)).length := by rw [List.length_set, hl0]; omega
    refine ⟨by show os.length < 16777216; omega, ?_⟩
    obtain ⟨j, hj, ej⟩ := b1 ls[r.toNat] (List.getElem_mem hr)
    refine ⟨ls.eraseIdx r.toNat, os ++ [ls[r.toNat]], _, rfl, ?_, ?_, fun y hy => b1 y (List.eraseIdx_subset hy), fun y hy => ?_, ?_, ?_, fun q hq => ?_, ?_, ?_, ?_⟩
    · rw [hl0, List.getElem?_set_ne (by omega), List.getElem?_set_self (by omega)]
    · have := List.getElem?_set_self (a := os ++ [ls[r.toNat]]) hp
      rw [hl0] at this ⊢
      exact this
    · rcases List.mem_append.mp hy with hy | hy
      · exact b2 y hy
      · rw [List.mem_singleton.mp hy]
        exact ⟨j, hj, ej⟩
    · rw [List.length_eraseIdx_of_lt hr]
      omega
    · rw [List.length_append, n2]
      rfl
    · rcases al q hq with h1 | h1
      · rcases mem_erase hr h1 with h2 | h2
        · exact .inl h2
        · exact .inr (List.mem_append_right _ (List.mem_singleton.mpr h2))
      · exact .inr (List.mem_append_left _ h1)
    · exact (ht2.own (by omega) _).own (by rw [hl0]; omega) _
    · exact ((kb1.trans kb2).own (Nat.le_refl _) _).own (by rw [hl0]; omega) _
    · rw [List.length_set, List.length_set]
      omega
  · rintro σ S1 ⟨ls, os, v, rfl, l1, l2, b1, b2, n1, n2, al, ht1, kb1, hl1⟩
    rw [rangeD_len, Int.toNat_natCast] at n1 n2
    exact h _ os S1 (by rw [hl0]; exact l2) b2 n2 (fun q hq => (al q hq).resolve_left fun hm => by
      have := List.length_pos_of_mem hm
      omega) ht1 kb1 (by rw [hl0]; omega)

theorem order_spec {T : List DDef} {f fd n : Nat} (hf : T[f]? = some (dOrder fd)) (hd : T[fd]? = some dDraw) {S : Sto} {t : Nat} {many : Nat} {k : WK} (ht : Tape S t) (hm : many < 100000)
    (h : ∀ (p : Nat) (os : List D) S', S'[p]? = some os → Below many os → os.length = many → Tape S' t → KeepB t S S' → p ≥ S.length → k (.ptr p) S') : Run T (n + 2) f [.ptr t, .int many] S k :=
  order_all hf hd ht hm fun p os S' a b c _ d e g => h p os S' a b c d e g

/-! ### places -/
def dPlaces (fo : Nat) : DDef :=
  ⟨"_law_places", ["tape", "many", "few"], 3, [
    .ret (.bin .add (.bin .add (.ls [(.neg (.int 1))]) (.slc (.call fo [(.var 0), (.var 1)]) none (some (.var 2)))) (.ls [(.neg (.int 1))]))]⟩
theorem cutD_sub (xs : List D) (lo hi : Option Int) {x : D} (h : x ∈ cutD xs lo hi) : x ∈ xs := List.mem_of_mem_drop (List.mem_of_mem_take h)
theorem cutD_le (xs : List D) (lo hi : Option Int) : (cutD xs lo hi).length ≤ xs.length := by
  unfold cutD
  rw [List.length_take, List.length_drop]
  omega
theorem places_last {T : List DDef} {f fo fd n : Nat} (hf : T[f]? = some (dPlaces fo)) (ho : T[fo]? = some (dOrder fd)) (hd : T[fd]? = some dDraw) {S : Sto} {t : Nat} {many : Nat} {few : Int} {k : WK} (ht : Tape S t) (hm : many < 100000)
    (h : ∀ (ys : List D) S', (∀ x ∈ ys, x = .int (-1) ∨ ∃ i : Nat, i < many ∧ x = .int i) → Tape S' t → KeepB t S S' → k (.ro (ys ++ [.int (-1)])) S') : Run T (n + 3) f [.ptr t, .int many, .int few] S k := by
  refine run_of hf rfl ?_
  walk_at "w"
  refine order_spec ho hd ht hm fun p os S1 e b hl ht1 kb1 _ => ?_
  walk_at "w"
  rw [show listOf S1 (.ptr p) = _ from e]
  walk_at "w"
  have hc := cutD_le os none (some few)
  refine ⟨?_, ?_⟩
  · show 1 + _ ≤ 16777216
    omega
  walk_at "w"
  refine ⟨?_, ?_⟩
  · rw [List.length_append]
    show 1 + _ + 1 ≤ 16777216
    omega
  refine h _ S1 (fun x hx => ?_) ht1 kb1
  rcases List.mem_append.mp hx with hx | hx
  · exact .inl (List.mem_singleton.mp hx)
  · exact .inr (b x (cutD_sub _ _ _ hx))
theorem places_spec {T : List DDef} {f fo fd n : Nat} (hf : T[f]? = some (dPlaces fo)) (ho : T[fo]? = some (dOrder fd)) (hd : T[fd]? = some dDraw) {S : Sto} {t : Nat} {many : Nat} {few : Int} {k : WK} (ht : Tape S t) (hm : many < 100000)
    (h : ∀ (xs : List D) S', (∀ x ∈ xs, x = .int (-1) ∨ ∃ i : Nat, i < many ∧ x = .int i) → Tape S' t → KeepB t S S' → k (.ro xs) S') : Run T (n + 3) f [.ptr t, .int many, .int few] S k :=
  places_last hf ho hd ht hm fun ys S' hy a b => h _ S' (fun x hx => (List.mem_append.mp hx).elim (hy x) fun h => .inl (List.mem_singleton.mp h)) a b

/-! ### rows mixed -/
/-- a row of n parts, each of its kind -/
def Row (n : Nat) (P : Nat → D → Prop) (xs : List D) : Prop := xs.length = n ∧ ∀ i x, xs[i]? = some x → P i x
theorem cutD_take (xs : List D) {i : Nat} (h : i ≤ xs.length) : cutD xs none (some (i : Int)) = xs.take i := by
  unfold cutD
  rw [HT.sIx_nat, HT.sIx_none]
  simp [Nat.min_eq_left h]
theorem cutD_drop (xs : List D) {i : Nat} (h : i ≤ xs.length) : cutD xs (some (i : Int)) none = xs.drop i := by
  unfold cutD
  rw [HT.sIx_nat, HT.sIx_none, Nat.min_eq_left h]
  exact List.take_of_length_le (by rw [List.length_drop]; omega)
theorem mixed_one {T : List DDef} {f n : Nat} (hf : T[f]? = some dMixed) {m : Nat} {P : Nat → D → Prop} {one two : List D} (hm : m < 1000000) (h1 : Row m P one) (h2 : Row m P two) {x : D} (hx : x = .int (-1) ∨ ∃ i : Nat, i < m ∧ x = .int i) {S : Sto} {k : WK}
    (h : ∀ zs, Row m P zs → (x = .int (-1) → zs = one) → k (.tup zs) S) : Run T (n + 1) f [.tup one, .tup two, x] S k := by
  refine run_of hf rfl ?_
  rcases hx with rfl | ⟨i, hi, rfl⟩
  · walk_at "w"
    exact ⟨fun _ => h one h1 fun _ => rfl, (fun hb => nomatch hb)⟩
  · walk_at "w"
    refine ⟨fun hb => ?_, fun _ => ?_⟩
    · have hb : decide ((i : Int) < 0) = true := hb
      have := of_decide_eq_true hb
      omega
    have i1 : i < one.length := by rw [h1.1]; exact hi
    have i2 : i < two.length := by rw [h2.1]; exact hi
    walk_at "w"
    rw [show atI two (i : Int) = some two[i] from at_nat (by omega) (by rw [Int.toNat_natCast]; exact List.getElem?_eq_getElem i2)]
    walk_at "w"
    have s1 := h1.1
    refine ⟨?_, ?_⟩
    · have := cutD_le one none (some (i : Int))
      show _ + 1 ≤ 16777216
      omega
    walk_at "w"
    refine ⟨?_, ?_⟩
    · have := cutD_le one none (some (i : Int))
      have := cutD_le one (some ((i : Int) + 1)) none
      rw [List.length_append]
      show _ + 1 + _ ≤ 16777216
      omega
    refine h _ ?_ fun e => absurd (D.int.inj e) (by omega)
    rw [show (i : Int) + 1 = ((i + 1 : Nat) : Int) by omega, cutD_take one (by omega), cutD_drop one (by omega)]
    have e : one.take i ++ [two[i]] ++ one.drop (i + 1) = one.set i two[i] := by
      rw [List.set_eq_take_append_cons_drop, if_pos i1, List.append_assoc]
      rfl
    rw [e]
    refine ⟨by rw [List.length_set]; exact s1, fun j y hy => ?_⟩
    by_cases hj : i = j
    · subst hj
      rw [List.getElem?_set_self i1] at hy
      cases hy
      exact h2.2 i _ (List.getElem?_eq_getElem i2)
    · rw [List.getElem?_set_ne hj] at hy
      exact h1.2 j y hy
theorem mixed_spec {T : List DDef} {f n : Nat} (hf : T[f]? = some dMixed) {m : Nat} {P : Nat → D → Prop} {one two : List D} (hm : m < 1000000) (h1 : Row m P one) (h2 : Row m P two) {x : D} (hx : x = .int (-1) ∨ ∃ i : Nat, i < m ∧ x = .int i) {S : Sto} {k : WK}
    (h : ∀ zs, Row m P zs → k (.tup zs) S) : Run T (n + 1) f [.tup one, .tup two, x] S k := mixed_one hf hm h1 h2 hx fun zs r _ => h zs r
end Ov
-- OvZ
/-! Numbers drawn between bounds. -/
namespace Ov
open PySem L2
local macro_rules | `(tactic| walk_at "w") => `(tactic| conv => whnf)
local macro_rules | `(tactic| walk_at "y") => `(tactic| refine ⟨fun _ => ?_, fun hb => by cases hb⟩)
local macro_rules | `(tactic| walk_at "n") => `(tactic| refine ⟨(fun hb => by cases hb), fun _ => ?_⟩)

def dNumb (fd : Nat) : DDef :=
  ⟨"_law_number", ["tape", "low", "top", "choice", "reach"], 3, [
    .asg (.nm 3) (.call fd [(.var 0), (.int 8)]),
    .ite (.cmp .lt (.var 3) (.int 3)) [
      .ret (.idx (.ls [(.var 1), (.var 2), (.bi .min [(.var 2), (.bin .add (.var 1) (.int 1))])]) (.var 3))] [],
    .asg (.nm 4) (.idx (.ls [(.int 3), (.int 6), (.int 12), (.int 60), (.bin .add (.bin .sub (.var 2) (.var 1)) (.int 1))]) (.bin .sub (.var 3) (.int 3))),
    .ret (.bin .add (.var 1) (.call fd [(.var 0), (.bi .min [(.var 4), (.bin .add (.bin .sub (.var 2) (.var 1)) (.int 1))])]))]⟩
theorem numb_spec {T : List DDef} {f fd n : Nat} (hf : T[f]? = some (dNumb fd)) (hd : T[fd]? = some dDraw) {S : Sto} {t : Nat} {low top : Int} {k : WK} (ht : Tape S t) (hlt : low ≤ top) (hb : top - low < 1000000000)
    (h : ∀ r S', low ≤ r → r ≤ top → Tape S' t → KeepB t S S' → S'.length = S.length → k (.int r) S') : Run T (n + 2) f [.ptr t, .int low, .int top] S k := by
  refine run_of hf rfl ?_
  walk_at "w"
  refine draw_spec hd ht (by decide) fun c S1 c0 c1 ht1 kb1 hl1 => ?_
  have c1 : c < 8 := c1
  walk_at "w"
  rcases (by omega : c = 0 ∨ c = 1 ∨ c = 2 ∨ c = 3 ∨ c = 4 ∨ c = 5 ∨ c = 6 ∨ c = 7) with rfl | rfl | rfl | rfl | rfl | rfl | rfl | rfl
  · walk_at "y"
    walk_at "w"
    exact h _ _ (by omega) hlt ht1 kb1 hl1
  · walk_at "y"
    walk_at "w"
    exact h _ _ hlt (by omega) ht1 kb1 hl1
  · walk_at "y"
    walk_at "w"
    exact h _ _ (by split <;> omega) (by split <;> omega) ht1 kb1 hl1
  all_goals
    walk_at "n"
    walk_at "w"
    refine draw_spec hd ht1 (by split <;> omega) fun r S2 r0 r1 ht2 kb2 hl2 => ?_
    walk_at "w"
    exact h _ _ (by omega) (by split at r1 <;> omega) ht2 (kb1.trans kb2) (hl2.trans hl1)
def dSmall (fd : Nat) : DDef :=
  ⟨"_law_small", ["tape", "low", "top", "choice", "reach"], 3, [
    .asg (.nm 3) (.call fd [(.var 0), (.int 9)]),
    .ite (.cmp .eq (.var 3) (.int 8)) [
      .ret (.var 2)] [],
    .asg (.nm 4) (.idx (.ls [(.int 1), (.int 2), (.int 4), (.int 9), (.int 21), (.int 21), (.int 61), (.bin .add (.bin .sub (.var 2) (.var 1)) (.int 1))]) (.var 3)),
    .ret (.bin .add (.var 1) (.call fd [(.var 0), (.bi .min [(.var 4), (.bin .add (.bin .sub (.var 2) (.var 1)) (.int 1))])]))]⟩
theorem small_spec {T : List DDef} {f fd n : Nat} (hf : T[f]? = some (dSmall fd)) (hd : T[fd]? = some dDraw) {S : Sto} {t : Nat} {low top : Int} {k : WK} (ht : Tape S t) (hlt : low ≤ top) (hb : top - low < 1000000000)
    (h : ∀ r S', low ≤ r → r ≤ top → Tape S' t → KeepB t S S' → S'.length = S.length → k (.int r) S') : Run T (n + 2) f [.ptr t, .int low, .int top] S k := by
  refine run_of hf rfl ?_
  walk_at "w"
  refine draw_spec hd ht (by decide) fun c S1 c0 c1 ht1 kb1 hl1 => ?_
  have c1 : c < 9 := c1
  walk_at "w"
  refine ⟨rfl, ?_⟩
  rcases (by omega : c = 8 ∨ c = 0 ∨ c = 1 ∨ c = 2 ∨ c = 3 ∨ c = 4 ∨ c = 5 ∨ c = 6 ∨ c = 7) with rfl | rfl | rfl | rfl | rfl | rfl | rfl | rfl | rfl
  · walk_at "y"
    walk_at "w"
    exact h _ _ hlt (by omega) ht1 kb1 hl1
  all_goals
    walk_at "n"
    walk_at "w"
    refine draw_spec hd ht1 (by split <;> omega) fun r S2 r0 r1 ht2 kb2 hl2 => ?_
    walk_at "w"
    exact h _ _ (by omega) (by split at r1 <;> omega) ht2 (kb1.trans kb2) (hl2.trans hl1)
theorem ints_map : ∀ ns : List Int, intsOf (ns.map D.int) = some ns
  | [] => rfl
  | n :: ns => by
    show (intsOf (ns.map D.int)).map (n :: ·) = _
    rw [ints_map ns]
    rfl
theorem sum_app (a b : List Int) : (a ++ b).sum = a.sum + b.sum := by
  induction a with
  | nil => simp
  | cons x a ih => rw [List.cons_append, List.sum_cons, List.sum_cons, ih, Int.add_assoc]
theorem sum_one (x : Int) : [x].sum = x := by
  rw [List.sum_cons]
  exact Int.add_zero x
/-! ### told numbers -/
def dNumbers : DDef :=
  ⟨"_law_numbers", ["told", "many", "x"], 2, [
    .ite (.orv (.notv (.tru (.bi (.isI "tuple") [(.var 0)]))) (.one (.cmp .ne (.bi .len [(.var 0)]) (.var 1)))) [
      .ret (.bl false)] [],
    .ret (.cmp .eq (.bi .len [(.comp false (.var 2) (.nm 2) [("x", 2)] .sq [(.var 0)] (some (.orv (.notv (.tru (.bi (.isI "int") [(.var 2)]))) (.one (.tru (.bi (.isI "bool") [(.var 2)]))))))]) (.int 0))]⟩
theorem numbers_spec {T : List DDef} {f n : Nat} (hf : T[f]? = some dNumbers) {ns : List Int} (hl : ns.length < 1000000) {m : Int} (hm : m = ns.length) {S : Sto} {k : WK} (h : k (.bl true) S) : Run T (n + 1) f [.tup (ns.map .int), .int m] S k := by
  refine run_of hf rfl ?_
  walk_at "w"
  walk_at "n"
  walk_at "w"
  refine ⟨rfl, ?_⟩
  rw [show eqD (.int ((ns.map D.int).length : Nat)) (.int m) = true from by
    rw [List.length_map, hm]
    exact eqI_refl _]
  walk_at "n"
  walk_at "w"
  refine ⟨by rw [List.length_map]; show _ < 16777216; omega, ?_⟩
  refine comp_pure (fun _ => false) (fun _ => .non) _ _ (fun y hy kk hkk => ?_) ?_
  · obtain ⟨a, _, rfl⟩ := List.mem_map.mp hy
    walk_at "w"
    walk_at "n"
    walk_at "w"
    walk_at "n"
    exact hkk
  · have e : ∀ xs : List D, collect (fun _ => false) (fun _ => .non) xs = [] := fun xs => by
      unfold collect
      rw [List.filter_eq_nil_iff.mpr (fun a _ => Bool.false_ne_true)]
      rfl
    rw [e]
    walk_at "w"
    exact ⟨rfl, h⟩
/-! ### parts of a whole -/
def dParts (fd : Nat) : DDef :=
  ⟨"_law_parts", ["tape", "whole", "parts", "left", "k", "part"], 2, [
    .asg (.nm 2) (.mls []),
    .asg (.nm 3) (.var 1),
    .forS (.nm 4) .rg [(.call fd [(.var 0), (.int 4)])] [
      .asg (.nm 5) (.call fd [(.var 0), (.bin .add (.var 3) (.int 1))]),
      .expr (.meth .append (.var 2) [(.var 5)]),
      .asg (.nm 3) (.bin .sub (.var 3) (.var 5))],
    .ret (.bin .add (.var 2) (.ls [(.var 3)]))]⟩
theorem parts_spec {T : List DDef} {f fd n : Nat} (hf : T[f]? = some (dParts fd)) (hd : T[fd]? = some dDraw) {S : Sto} {t : Nat} {whole : Int} {k : WK} (ht : Tape S t) (h0 : 0 ≤ whole) (h1 : whole ≤ 10000000)
    (h : ∀ (ps : List Int) S', (∀ p ∈ ps, 0 ≤ p ∧ p ≤ whole) → ps.sum = whole → 1 ≤ ps.length → ps.length ≤ 4 → Tape S' t → KeepB t S S' → k (.ro (ps.map .int)) S') : Run T (n + 2) f [.ptr t, .int whole] S k := by
  refine run_of hf rfl ?_
  have ht0 := ht.lt
  walk_at "w"
  refine draw_spec hd (ht.app [[]]) (by decide) fun m S1 m0 m1 ht1 kb1 hl1 => ?_
  have m1 : m < 4 := m1
  have kb2 : KeepB t S S1 := (Keep.app S [[]]).b.trans kb1
  have hl2 : S1.length = S.length + 1 := by rw [hl1]; simp
  have hp : S1[S.length]? = some [] := kb1.2 _ _ (by omega) (List.getElem?_concat_length ..)
  walk_at "w"
  refine ⟨⟨by omega, by omega⟩, trivial, ?_⟩
  refine for_inv (Run_mono T (n + 1)) (fun i σ S1 => ∃ (ps : List Int) (left : Int) (v4 v5 : Option D), σ = [some (.ptr t), some (.int whole), some (.ptr S.length), some (.int left), v4, v5] ∧ S1[S.length]? = some (ps.map D.int) ∧ ps.length = i ∧ ps.sum + left = whole ∧ 0 ≤ left ∧ left ≤ whole ∧
    (∀ p ∈ ps, 0 ≤ p ∧ p ≤ whole) ∧ Tape S1 t ∧ KeepB t S S1 ∧ S1.length = S.length + 1) ⟨[], whole, none, none, rfl, hp, rfl, by simp, h0, Int.le_refl _, (fun _ h => nomatch h), ht1, kb2, hl2⟩ ?_ ?_
  · rintro i x σ S2 hx ⟨ps, left, v4, v5, rfl, e, hl, hs, l0, l1, hps, ht2, kb3, hl3⟩
    have hx2 := (List.getElem?_eq_some_iff.mp hx).1
    rw [rangeD_len] at hx2
    walk_at "w"
    refine draw_spec hd ht2 (by omega) fun r S3 r0 r1 ht3 kb4 hl4 => ?_
    have r1 : r ≤ left := by omega
    have e2 := kb4.2 _ _ (show S.length ≠ t by omega) e
    walk_at "w"
    refine ⟨trivial, ?_⟩
    walk_at "w"
    rw [e2]
    refine ⟨by rw [List.length_map]; show _ < 16777216; omega, ?_⟩
    refine ⟨ps ++ [r], left - r, _, _, rfl, ?_, by simp [hl], ?_, by omega, by omega, fun p hp => ?_, ht3.own (by omega) _, (kb3.trans kb4).own (Nat.le_refl _) _, by rw [List.length_set, hl4, hl3]⟩
    · rw [List.getElem?_set_self (by rw [hl4, hl3]; omega), List.map_append]
      rfl
    · rw [sum_app, sum_one]
      omega
    · rcases List.mem_append.mp hp with hp | hp
      · exact hps p hp
      · rw [List.mem_singleton.mp hp]
        exact ⟨r0, by omega⟩
  · rintro σ S2 ⟨ps, left, v4, v5, rfl, e, hl, hs, l0, l1, hps, ht2, kb3, hl3⟩
    rw [rangeD_len] at hl
    walk_at "w"
    rw [show listOf S2 (.ptr S.length) = _ from e]
    refine ⟨by rw [List.length_map]; show ps.length + 1 ≤ 16777216; omega, ?_⟩
    rw [show ps.map D.int ++ [.int left] = (ps ++ [left]).map D.int by rw [List.map_append]; rfl]
    refine h _ S2 (fun p hp => ?_) (by rw [sum_app, sum_one, hs]) (by simp) (by rw [List.length_append, hl]; show m.toNat + 1 ≤ 4; omega) ht2 kb3
    rcases List.mem_append.mp hp with hp | hp
    · exact hps p hp
    · rw [List.mem_singleton.mp hp]
      exact ⟨l0, l1⟩
/-! ### tuples of ints are equal -/
theorem ints_lay : ∀ ns : List Int, PyData.canLayAll0 (toPys (ns.map D.int)) = true
  | [] => rfl
  | n :: ns => by
    show (PyData.canLay0 (.int n) && PyData.canLayAll0 (toPys (ns.map D.int))) = true
    rw [ints_lay ns]
    rfl
theorem ints_depth : ∀ ns : List Int, PyData.depthAll (toPys (ns.map D.int)) = 0
  | [] => rfl
  | n :: ns => by
    show max (PyData.depth (.int n)) (PyData.depthAll (toPys (ns.map D.int))) = 0
    rw [ints_depth ns]
    rfl
theorem ints_noPtr : ∀ ns : List Int, noPtrs (ns.map D.int) = true
  | [] => rfl
  | n :: ns => by
    show (true && noPtrs (ns.map D.int)) = true
    rw [ints_noPtr ns]
    rfl
theorem ints_okEq (ns : List Int) : okEq (.tup (ns.map D.int)) = true := by
  show (noPtrs (ns.map D.int) && (PyData.canLayAll0 (toPys (ns.map D.int)) && decide (PyData.depthAll (toPys (ns.map D.int)) + 1 ≤ 64))) = true
  rw [ints_noPtr, ints_lay, ints_depth]
  rfl
theorem ints_eq : ∀ ns ms : List Int, PyData.eqvAll (toPys (ns.map D.int)) (toPys (ms.map D.int)) = decide (ns = ms)
  | [], [] => rfl
  | [], _ :: _ => rfl
  | _ :: _, [] => rfl
  | n :: ns, m :: ms => by
    show ((n == m) && PyData.eqvAll (toPys (ns.map D.int)) (toPys (ms.map D.int))) = _
    rw [ints_eq ns ms]
    by_cases h : n = m
    · subst h
      simp
    · simp [h]
theorem ints_eqD (ns ms : List Int) : eqD (.tup (ns.map D.int)) (.tup (ms.map D.int)) = decide (ns = ms) := ints_eq ns ms
theorem ints_eqOk (ns ms : List Int) : eqOk (.tup (ns.map D.int)) (.tup (ms.map D.int)) = true := by
  unfold eqOk
  rw [ints_okEq, ints_okEq, Bool.or_eq_true]
  exact .inr rfl
theorem at_n {xs : List D} {i : Nat} {d : D} (h : xs[i]? = some d) : atI xs (i : Int) = some d := at_nat (by omega) (by rw [Int.toNat_natCast]; exact h)
theorem at_hd (x : D) (q : List D) : atI (x :: q) 0 = some x := at_n (i := 0) rfl
theorem Keep.own {S S1 : Sto} (h : Keep S S1) {p : Nat} (hp : S.length ≤ p) (x : List D) : Keep S (S1.set p x) := ⟨by rw [List.length_set]; exact h.1, fun n xs h1 => by
  have hn := (List.getElem?_eq_some_iff.mp h1).1
  rw [List.getElem?_set_ne (by omega)]
  exact h.2 n xs h1⟩
/-- a comprehension whose calls make lists of their own -/
theorem comp_keep {body : D → Sto → (Bool → D → Sto → Prop) → Prop} {all : List D} (p : D → Bool) (f : D → D) :
    ∀ (xs : List D) (S : Sto) (k : List D → Sto → Prop), (∀ x ∈ xs, ∀ (S1 : Sto), Keep S S1 → ∀ kk : Bool → D → Sto → Prop, (p x = true → ∀ S2, Keep S1 S2 → kk true (f x) S2) → (p x = false → ∀ S2, Keep S1 S2 → kk false .non S2) → body x S1 kk) → (∀ S', Keep S S' → k (collect p f xs) S') → compW body none all xs S k
  | [], S, k, _, h => ⟨trivial, h S (Keep.refl S)⟩
  | x :: xs, S, k, hb, h => by
    have next : ∀ S2, Keep S S2 → ∀ k' : List D → Sto → Prop, (∀ S', Keep S S' → k' (collect p f xs) S') → compW body none all xs S2 k' := fun S2 h2 k' h' =>
      comp_keep p f xs S2 k' (fun y hy S1 h1 => hb y (List.mem_cons_of_mem _ hy) S1 (h2.trans h1)) fun S' h3 => h' S' (h2.trans h3)
    unfold collect at h
    cases hp : p x with
    | true =>
      rw [List.filter_cons_of_pos hp] at h
      exact ⟨trivial, hb x List.mem_cons_self S (Keep.refl S) _ (fun _ S2 h2 => next S2 h2 _ h) fun e => by rw [hp] at e; cases e⟩
    | false =>
      rw [List.filter_cons_of_neg (by rw [hp]; exact Bool.false_ne_true)] at h
      exact ⟨trivial, hb x List.mem_cons_self S (Keep.refl S) _ (fun e => by rw [hp] at e; cases e) fun _ S2 h2 => next S2 h2 _ h⟩
theorem goods_int : ∀ {xs : List D}, (∀ x ∈ xs, ∃ i : Int, x = .int i) → goods 0 xs
  | [], _ => trivial
  | x :: xs, h => by
    obtain ⟨i, rfl⟩ := h x List.mem_cons_self
    exact ⟨trivial, goods_int fun y hy => h y (List.mem_cons_of_mem _ hy)⟩
theorem good_int {xs : List D} (hl : xs.length < 1000000) (h : ∀ x ∈ xs, ∃ i : Int, x = .int i) : good 1 (.tup xs) := ⟨hl, goods_int h⟩
theorem cut_hd (xs : List D) (i : Nat) : cutD xs none (some (i : Int)) = xs.take i := by
  unfold cutD
  rw [HT.sIx_nat, HT.sIx_none]
  simp
theorem ixN_nat {len j : Nat} (h : j < len) : ixN len (j : Int) = some j := by
  unfold ixN
  rw [if_pos (by omega), if_pos (by omega), Int.toNat_natCast]
theorem eqI_no {a b : Int} (h : a ≠ b) : eqD (.int a) (.int b) = false := beq_eq_false_iff_ne.mpr h
theorem pairs_map : ∀ ps : List (Int × Int), pairsOf (ps.map pairI) = some ps
  | [] => rfl
  | p :: ps => by
    show (pairsOf (ps.map pairI)).map (p :: ·) = _
    rw [pairs_map ps]
    rfl
theorem enum_mem {ws : List Int} {y : D} (h : y ∈ enumD (ws.map D.int)) : ∃ (i : Nat) (w : Int), ws[i]? = some w ∧ y = .tup [.int i, .int w] := by
  unfold enumD at h
  obtain ⟨p, hp, rfl⟩ := List.mem_map.mp h
  obtain ⟨i, hi⟩ := List.mem_iff_getElem?.mp hp
  rw [List.getElem?_zipIdx, List.getElem?_map] at hi
  cases e : ws[i]? with
  | none => rw [e] at hi; cases hi
  | some w =>
    rw [e] at hi
    have hi := Option.some.inj hi
    rw [← hi]
    exact ⟨i, w, e, by show D.tup [.int ((0 + i : Nat) : Int), .int w] = _; rw [Nat.zero_add]⟩
end Ov
-- OvMc
/-! Loops over a list that stands; tests on numbers. -/
namespace Ov
open PySem L2
theorem for_live' {body : D → DEnv → Sto → DEnds → Prop} (hb : ∀ x σ S (E E' : DEnds), E.Le E' → body x σ S E → body x σ S E') (I : Nat → DEnv → Sto → Prop) {q : Nat} {all : List D} {E : DEnds} (hst : ∀ i σ S, I i σ S → S[q]? = some all) :
    ∀ (xs : List D) (i : Nat) (σ : DEnv) (S : Sto), all.drop i = xs → i + xs.length = all.length → I i σ S →
    (∀ i x σ S, all[i]? = some x → I i σ S → body x σ S { nx := I (i + 1), rt := E.rt, bk := E.nx, ct := I (i + 1) }) → (∀ σ S, I all.length σ S → E.nx σ S) → forW body (some q) all xs σ S E
  | [], i, σ, S, hd, hi, h0, hs, he => by
    have hi : i = all.length := hi
    subst hi
    exact ⟨hst _ _ _ h0, he _ _ h0⟩
  | x :: xs, i, σ, S, hd, hi, h0, hs, he => by
    obtain ⟨hx, hr, _⟩ := drop_cons hd
    have hi2 : i + 1 + xs.length = all.length := by simp at hi; omega
    refine ⟨hst _ _ _ h0, hb x σ S _ _ ?_ (hs i x σ S hx h0)⟩
    exact ⟨fun σ1 S1 h1 => for_live' hb I hst xs (i + 1) σ1 S1 hr hi2 h1 hs he, fun _ _ h => h, fun _ _ h => h, fun σ1 S1 h1 => for_live' hb I hst xs (i + 1) σ1 S1 hr hi2 h1 hs he⟩
/-- a loop over a list that stands, by an invariant -/
theorem for_live {C : Calls} (hC : MonoC C) {p : PP} {b : List PSt} (I : Nat → DEnv → Sto → Prop) {q : Nat} {all : List D} {E : DEnds} {σ : DEnv} {S : Sto} (hst : ∀ i σ S, I i σ S → S[q]? = some all) (h0 : I 0 σ S)
    (hs : ∀ i x σ S, all[i]? = some x → I i σ S → forB C p b x σ S { nx := I (i + 1), rt := E.rt, bk := E.nx, ct := I (i + 1) }) (he : ∀ σ S, I all.length σ S → E.nx σ S) : forW (forB C p b) (some q) all all σ S E :=
  for_live' (forB_mono hC p b) I hst all 0 σ S rfl (Nat.zero_add _) h0 hs he
theorem y_end {P : Prop} (h : true = false) : P := Bool.noConfusion h
theorem n_end {P : Prop} (h : false = true) : P := Bool.noConfusion h
theorem neI_t {a b : Int} (h : (!eqD (.int a) (.int b)) = true) : a ≠ b := eqI_f (by rwa [Bool.not_eq_true'] at h)
theorem neI_f {a b : Int} (h : (!eqD (.int a) (.int b)) = false) : a = b := eqI_t (by rwa [Bool.not_eq_false'] at h)
theorem notD_t {p : Prop} [Decidable p] (h : (!decide p) = true) : ¬p := by simpa using h
theorem notD_f {p : Prop} [Decidable p] (h : (!decide p) = false) : p := by simpa using h
end Ov
-- OvSv
/-! Service of documents: attempts, time rules. -/
namespace Ov
open PySem L2
local macro_rules | `(tactic| walk_at "w") => `(tactic| conv => whnf)
local macro_rules | `(tactic| walk_at "y") => `(tactic| refine ⟨fun _ => ?_, fun hb => y_end hb⟩)
local macro_rules | `(tactic| walk_at "n") => `(tactic| refine ⟨(fun hb => n_end hb), fun _ => ?_⟩)

inductive Md | hand | post | notice
def mdD : Md → D
  | .hand => .str "hand"
  | .post => .str "post"
  | .notice => .str "notice"
structure At where
  day : Int
  md : Md
  und : Bool
def atD (a : At) : D := .tup [.int a.day, mdD a.md, .bl a.und]
structure Rl where
  wk : List Nat
  cl : List Int
  cross : Int
  stop : Int
  post : Int
  notice : Int
  ans : Int
def rlD (r : Rl) : D := .tup [.str ⟨r.wk.toArray⟩, .tup (r.cl.map D.int), .int r.cross, .int r.stop, .int r.post, .int r.notice, .int r.ans]
abbrev Rl.cal (r : Rl) : Prop := Cal r.wk r.cl
open Classical in
noncomputable def nextI (wk : List Nat) (cl : List Int) (d : Int) : Int :=
  if h : ∃ m : Nat, m ≤ 76 ∧ biz wk cl (d + m) = true ∧ ∀ j : Nat, j < m → biz wk cl (d + j) = false then d + ((Classical.choose h : Nat) : Int) else d
theorem nextI_spec {wk : List Nat} {cl : List Int} (c : Cal wk cl) (d : Int) : ∃ m : Nat, nextI wk cl d = d + m ∧ m ≤ 76 ∧ biz wk cl (d + m) = true ∧ ∀ j : Nat, j < m → biz wk cl (d + j) = false := by
  have h := c.next d
  refine ⟨Classical.choose h, ?_, Classical.choose_spec h⟩
  unfold nextI
  rw [dif_pos h]
def later (r : Rl) : Md → Int
  | .hand => 0
  | .post => r.post
  | .notice => r.notice
noncomputable def effI (r : Rl) (a : At) : Int := nextI r.wk r.cl (a.day + later r a.md)

/-! ### the program's -/
def dCalOf : DDef :=
  ⟨"calendar_of", ["rules"], 1, [
    .ret (.slc (.var 0) none (some (.int 2)))]⟩
def dEffect (fn fc : Nat) : DDef :=
  ⟨"effect_day", ["rules", "attempt", "delays", "day", "method", "_", "post_days", "notice_days"], 2, [
    .asg (.tp [(.nm 3), (.nm 4), (.nm 5)]) (.var 1),
    .asg (.tp [(.nm 6), (.nm 7)]) (.slc (.var 0) (some (.int 4)) (some (.int 6))),
    .asg (.nm 2) (.dct [.inr "hand", .inr "post", .inr "notice"] [(.int 0), (.var 6), (.var 7)]),
    .ret (.call fn [(.call fc [(.var 0)]), (.bin .add (.var 3) (.idx (.var 2) (.var 4)))])]⟩
theorem effect_spec {T : List DDef} {fe fn fc fb n : Nat} (hf : T[fe]? = some (dEffect fn fc)) (hn : T[fn]? = some (dNextBiz fb)) (hb : T[fb]? = some dIsBiz) (hc : T[fc]? = some dCalOf) {r : Rl} (c : r.cal) (a : At) {S : Sto} {k : WK} (h : k (.int (effI r a)) S) : Run T (n + 3) fe [rlD r, atD a] S k := by
  refine run_of hf rfl ?_
  obtain ⟨m, e, m76, h1, h2⟩ := nextI_spec c (a.day + later r a.md)
  unfold effI at h
  rw [e] at h
  obtain ⟨day, md, und⟩ := a
  cases md
  all_goals
    walk_at "w"
    refine ⟨rfl, ?_⟩
    walk_at "w"
    refine ⟨rfl, ?_⟩
    walk_at "w"
    refine run_of hc rfl ?_
    walk_at "w"
    exact nextBiz_spec hn hb c h1 h2 h
def opD : Option Int → D
  | none => .non
  | some i => .int i
theorem opD_ok (a b : Option Int) : eqOk (opD a) (opD b) = true := by cases a <;> cases b <;> rfl
theorem opD_eq (a b : Option Int) : eqD (opD a) (opD b) = decide (a = b) := by
  cases a <;> cases b
  · rfl
  · rfl
  · rfl
  · rename_i i j
    show (i == j) = _
    by_cases h : i = j
    · subst h
      simp
    · simp [h]
/-- a comprehension over parts made by g -/
theorem comp_map {α : Type} {body : D → Sto → (Bool → D → Sto → Prop) → Prop} {all : List D} {S : Sto} (g : α → D) (p : α → Bool) (f : α → D) :
    ∀ (xs : List α) (k : List D → Sto → Prop), (∀ a ∈ xs, ∀ kk : Bool → D → Sto → Prop, (p a = true → kk true (f a) S) → (p a = false → kk false .non S) → body (g a) S kk) → k ((xs.filter p).map f) S → compW body none all (xs.map g) S k
  | [], k, _, h => ⟨trivial, h⟩
  | x :: xs, k, hb, h => by
    cases hp : p x with
    | true =>
      rw [List.filter_cons_of_pos hp] at h
      exact ⟨trivial, hb x List.mem_cons_self _ (fun _ => comp_map g p f xs _ (fun y hy => hb y (List.mem_cons_of_mem _ hy)) h) fun e => by rw [hp] at e; cases e⟩
    | false =>
      rw [List.filter_cons_of_neg (by rw [hp]; exact Bool.false_ne_true)] at h
      exact ⟨trivial, hb x List.mem_cons_self _ (fun e => by rw [hp] at e; cases e) fun _ => comp_map g p f xs _ (fun y hy => hb y (List.mem_cons_of_mem _ hy)) h⟩
noncomputable def effs (r : Rl) (as : List At) : List Int := (as.filter fun a => !a.und).map (effI r)
noncomputable def servI (r : Rl) (as : List At) : Option Int := (effs r as).min?
theorem effs_D (r : Rl) (as : List At) : ((as.filter fun a => !a.und).map fun a => D.int (effI r a)) = (effs r as).map D.int := by
  unfold effs
  rw [List.map_map]
  rfl
theorem min_of {L : List Int} {m : Int} (h1 : m ∈ L) (h2 : ∀ y, y ∈ L → m ≤ y) : L.min? = some m := List.min?_eq_some_iff.mpr ⟨h1, h2⟩
theorem minN_ints {L : List Int} {S : Sto} {k : WK} (h : k (opD L.min?) S) : minNW (.ro (L.map D.int)) S k := by
  unfold minNW
  rw [show (seqOf S (.ro (L.map D.int))).bind intsOf = some L from ints_map L]
  refine ⟨fun e => ?_, fun m h1 h2 => ?_⟩
  · subst e
    exact h
  · rw [min_of h1 h2] at h
    exact h
theorem ret_minN {C : Calls} {σ : DEnv} {S : Sto} {E : DEnds} {i : Nat} {L : List Int} (hi : σ[i]? = some (some (.ro (L.map D.int)))) (h : E.rt (opD L.min?) S) : wSs C [.ret (.minN (.var i))] σ S E := by
  show (match σ[i]? with
    | some (some d) => minNW d S E.rt
    | _ => False)
  rw [hi]
  exact minN_ints h
theorem ret_min {C : Calls} {σ : DEnv} {S : Sto} {E : DEnds} {i : Nat} {L : List Int} (hi : σ[i]? = some (some (.ro (L.map D.int)))) (hl : L ≠ []) (h : E.rt (opD L.min?) S) {r : List PSt} : wSs C (.ret (.bi .min [(.var i)]) :: r) σ S E := by
  show (match σ[i]? with
    | some (some d) => biW .min [d] S E.rt
    | _ => False)
  rw [hi]
  show (match (seqOf S (.ro (L.map D.int))).bind intsOf with
    | some ns => 0 < ns.length ∧ ∀ m, m ∈ ns → (∀ y, y ∈ ns → m ≤ y) → E.rt (.int m) S
    | none => False)
  rw [show (seqOf S (.ro (L.map D.int))).bind intsOf = some L from ints_map L]
  refine ⟨List.length_pos_iff.mpr hl, fun m h1 h2 => ?_⟩
  rw [min_of h1 h2] at h
  exact h
def dService (fe : Nat) : DDef :=
  ⟨"service_day", ["rules", "attempts", "effects", "attempt"], 2, [
    .asg (.nm 2) (.comp false (.call fe [(.var 0), (.var 3)]) (.nm 3) [("attempt", 3)] .sq [(.var 1)] (some (.notv (.tru (.idx (.var 3) (.int 2)))))),
    .ret (.minN (.var 2))]⟩
theorem service_spec {T : List DDef} {fs fe fn fc fb n : Nat} (hs : T[fs]? = some (dService fe)) (hf : T[fe]? = some (dEffect fn fc)) (hn : T[fn]? = some (dNextBiz fb)) (hb : T[fb]? = some dIsBiz) (hc : T[fc]? = some dCalOf) {r : Rl} (c : r.cal) {as : List At} (hl : as.length ≤ 1000) {S : Sto} {k : WK} (h : k (opD (servI r as)) S) : Run T (n + 4) fs [rlD r, .tup (as.map atD)] S k := by
  refine run_of hs rfl ?_
  walk_at "w"
  refine ⟨by rw [List.length_map]; show _ < 16777216; omega, ?_⟩
  refine comp_map atD (fun a => !a.und) (fun a => .int (effI r a)) as _ (fun a _ kk k1 k2 => ?_) ?_
  · walk_at "w"
    refine ⟨fun hu => ?_, fun hu => k2 hu⟩
    walk_at "w"
    exact effect_spec hf hn hb hc c a (k1 hu)
  · rw [effs_D]
    have q : wSs (Run T (n + 3)) [.ret (.minN (.var 2))] [some (rlD r), some (.tup (as.map atD)), some (.ro ((effs r as).map D.int)), none] S { nx := fun _ S1 => k .non S1, rt := k } := ret_minN rfl h
    conv at q => whnf
    walk_at "w"
    exact q
/-! ### the law's -/
def dLEffect (fx : Nat) : DDef :=
  ⟨"_law_effect", ["rules", "attempt", "day"], 2, [
    .asg (.nm 2) (.idx (.var 1) (.int 0)),
    .ite (.cmp .eq (.idx (.var 1) (.int 1)) (.str "post")) [
      .asg (.nm 2) (.bin .add (.var 2) (.idx (.var 0) (.int 4)))] [],
    .ite (.cmp .eq (.idx (.var 1) (.int 1)) (.str "notice")) [
      .asg (.nm 2) (.bin .add (.var 2) (.idx (.var 0) (.int 5)))] [],
    .ret (.call fx [(.slc (.var 0) none (some (.int 2))), (.var 2)])]⟩
theorem lEffect_spec {T : List DDef} {fe fx fw n : Nat} (hf : T[fe]? = some (dLEffect fx)) (hx : T[fx]? = some (dNext fw)) (hw : T[fw]? = some dWorks) {r : Rl} (c : r.cal) (a : At) {S : Sto} {k : WK} (h : k (.int (effI r a)) S) : Run T (n + 3) fe [rlD r, atD a] S k := by
  refine run_of hf rfl ?_
  obtain ⟨m, e, m76, h1, h2⟩ := nextI_spec c (a.day + later r a.md)
  unfold effI at h
  rw [e] at h
  obtain ⟨day, md, und⟩ := a
  cases md with
  | hand =>
    have e0 : day + later r .hand = day := Int.add_zero _
    simp only [e0] at h h1 h2
    walk_at "w"
    refine ⟨rfl, ?_⟩
    walk_at "n"
    walk_at "w"
    refine ⟨rfl, ?_⟩
    walk_at "n"
    walk_at "w"
    exact next_spec hx hw c m76 h1 h2 h
  | post =>
    walk_at "w"
    refine ⟨rfl, ?_⟩
    walk_at "y"
    walk_at "w"
    refine ⟨rfl, ?_⟩
    walk_at "n"
    walk_at "w"
    exact next_spec hx hw c m76 h1 h2 h
  | notice =>
    walk_at "w"
    refine ⟨rfl, ?_⟩
    walk_at "n"
    walk_at "w"
    refine ⟨rfl, ?_⟩
    walk_at "y"
    walk_at "w"
    exact next_spec hx hw c m76 h1 h2 h
def dLServed (fe : Nat) : DDef :=
  ⟨"_law_served", ["rules", "attempts", "days", "attempt"], 2, [
    .asg (.nm 2) (.comp false (.call fe [(.var 0), (.var 3)]) (.nm 3) [("attempt", 3)] .sq [(.var 1)] (some (.notv (.tru (.idx (.var 3) (.int 2)))))),
    .ite (.tru (.var 2)) [
      .ret (.bi .min [(.var 2)])] [],
    .ret .non]⟩
theorem lServed_spec {T : List DDef} {fs fe fx fw n : Nat} (hs : T[fs]? = some (dLServed fe)) (hf : T[fe]? = some (dLEffect fx)) (hx : T[fx]? = some (dNext fw)) (hw : T[fw]? = some dWorks) {r : Rl} (c : r.cal) {as : List At} (hl : as.length ≤ 1000) {S : Sto} {k : WK} (h : k (opD (servI r as)) S) : Run T (n + 4) fs [rlD r, .tup (as.map atD)] S k := by
  refine run_of hs rfl ?_
  walk_at "w"
  refine ⟨by rw [List.length_map]; show _ < 16777216; omega, ?_⟩
  refine comp_map atD (fun a => !a.und) (fun a => .int (effI r a)) as _ (fun a _ kk k1 k2 => ?_) ?_
  · walk_at "w"
    refine ⟨fun hu => ?_, fun hu => k2 hu⟩
    walk_at "w"
    exact lEffect_spec hf hx hw c a (k1 hu)
  · rw [effs_D]
    unfold servI at h
    cases he : effs r as with
    | nil =>
      rw [he] at h
      walk_at "w"
      walk_at "n"
      walk_at "w"
      exact h
    | cons i L =>
      have q : wSs (Run T (n + 3)) [.ret (.bi .min [(.var 2)])] [some (rlD r), some (.tup (as.map atD)), some (.ro ((i :: L).map D.int)), none] S { nx := fun σ1 S1 => wSs (Run T (n + 3)) [.ret .non] σ1 S1 { nx := fun _ S1 => k .non S1, rt := k }, rt := k } := ret_min rfl (by simp) (by rw [he] at h; exact h)
      walk_at "w"
      walk_at "y"
      walk_at "w"
      conv at q => whnf
      exact q

/-! ### without one of them -/
theorem cut_less (as : List At) {i : Nat} (hi : i < as.length) : cutD (as.map atD) none (some (i : Int)) ++ cutD (as.map atD) (some ((i : Int) + 1)) none = (as.eraseIdx i).map atD := by
  rw [cutD_take _ (by rw [List.length_map]; omega), show (i : Int) + 1 = ((i + 1 : Nat) : Int) by omega, cutD_drop _ (by rw [List.length_map]; omega), ← List.map_take, ← List.map_drop, ← List.map_append, List.eraseIdx_eq_take_drop_succ]
noncomputable def decP (r : Rl) (as : List At) (i : Nat) : Bool := !decide (servI r (as.eraseIdx i) = servI r as)
noncomputable def decL (r : Rl) (as : List At) : List Int := ((List.range as.length).filter (decP r as)).map fun i : Nat => (i : Int)
theorem range_filter (p : Nat → Bool) (i : Nat) : ((List.range (i + 1)).filter p).map (fun j : Nat => D.int j) = ((List.range i).filter p).map (fun j : Nat => D.int j) ++ (if p i = true then [D.int i] else []) := by
  rw [List.range_succ, List.filter_append, List.map_append]
  cases h : p i with
  | true => simp [h]
  | false => simp [h]
theorem decL_D (r : Rl) (as : List At) : ((List.range as.length).filter (decP r as)).map (fun j : Nat => D.int j) = (decL r as).map D.int := by
  unfold decL
  rw [List.map_map]
  rfl
theorem decL_len (r : Rl) (as : List At) : (decL r as).length ≤ as.length := by
  unfold decL
  rw [List.length_map]
  exact Nat.le_trans (List.length_filter_le _ _) (by rw [List.length_range]; exact Nat.le_refl _)
theorem filt_len (p : Nat → Bool) (i : Nat) : (((List.range i).filter p).map (fun j : Nat => D.int j)).length ≤ i := by
  rw [List.length_map]
  exact Nat.le_trans (List.length_filter_le _ _) (by rw [List.length_range]; exact Nat.le_refl _)
def dDecisive (fs : Nat) : DDef :=
  ⟨"decisive_attempts", ["rules", "attempts", "served", "decisive", "number", "others"], 2, [
    .asg (.nm 2) (.call fs [(.var 0), (.var 1)]),
    .asg (.nm 3) (.mls []),
    .forS (.nm 4) .rg [(.bi .len [(.var 1)])] [
      .asg (.nm 5) (.bin .add (.slc (.var 1) none (some (.var 4))) (.slc (.var 1) (some (.bin .add (.var 4) (.int 1))) none)),
      .ite (.cmp .ne (.call fs [(.var 0), (.var 5)]) (.var 2)) [
        .expr (.meth .append (.var 3) [(.var 4)])] []],
    .ret (.bi .tuple [(.var 3)])]⟩
theorem ne_dec {r : Rl} {as : List At} {i : Nat} {b : Bool} (h : (!eqD (opD (servI r (as.eraseIdx i))) (opD (servI r as))) = b) : decP r as i = b := by
  rw [opD_eq] at h
  exact h
theorem decisive_spec {T : List DDef} {fd fs fe fn fc fb n : Nat} (hd : T[fd]? = some (dDecisive fs)) (hs : T[fs]? = some (dService fe)) (hf : T[fe]? = some (dEffect fn fc)) (hn : T[fn]? = some (dNextBiz fb)) (hb : T[fb]? = some dIsBiz) (hc : T[fc]? = some dCalOf) {r : Rl} (c : r.cal) {as : List At} (hl : as.length ≤ 1000) {S : Sto} {k : WK} (h : ∀ S', Keep S S' → k (.tup ((decL r as).map D.int)) S') : Run T (n + 5) fd [rlD r, .tup (as.map atD)] S k := by
  refine run_of hd rfl ?_
  walk_at "w"
  refine service_spec hs hf hn hb hc c hl ?_
  walk_at "w"
  rw [List.length_map]
  refine ⟨⟨by omega, by omega⟩, trivial, ?_⟩
  refine for_inv (Run_mono T (n + 4)) (fun i σ S1 => Keep S S1 ∧ S1[S.length]? = some (((List.range i).filter (decP r as)).map fun j : Nat => D.int j) ∧ ∃ v4 v5 : Option D, σ = [some (rlD r), some (.tup (as.map atD)), some (opD (servI r as)), some (.ptr S.length), v4, v5]) ⟨Keep.app _ _, List.getElem?_concat_length .., none, none, rfl⟩ ?_ ?_
  · rintro i x σ S1 hx ⟨kp, e, v4, v5, rfl⟩
    obtain ⟨hi, rfl⟩ := range_at hx
    rw [Int.toNat_natCast] at hi
    rw [Int.zero_add]
    have hlt := (List.getElem?_eq_some_iff.mp e).1
    walk_at "w"
    rw [cut_less as hi]
    refine ⟨?_, ?_⟩
    · rw [← List.length_append, cut_less as hi, List.length_map, List.length_eraseIdx_of_lt hi]
      show _ ≤ 16777216
      omega
    walk_at "w"
    refine service_spec hs hf hn hb hc c (as := as.eraseIdx i) (by rw [List.length_eraseIdx_of_lt hi]; omega) ?_
    walk_at "w"
    refine ⟨opD_ok _ _, fun hq => ?_, fun hq => ?_⟩
    · have hq := ne_dec hq
      walk_at "w"
      refine ⟨trivial, ?_⟩
      walk_at "w"
      rw [e]
      refine ⟨?_, kp.own (Nat.le_refl _) _, ?_, _, _, rfl⟩
      · have := filt_len (decP r as) i
        show _ < 16777216
        omega
      · rw [List.getElem?_set_self hlt, range_filter, hq]
        rfl
    · have hq := ne_dec hq
      refine ⟨kp, ?_, _, _, rfl⟩
      rw [range_filter, hq, if_neg Bool.false_ne_true, List.append_nil]
      exact e
  · rintro σ S1 ⟨kp, e, v4, v5, rfl⟩
    rw [rangeD_len, Int.toNat_natCast, decL_D] at e
    walk_at "w"
    rw [show seqOf S1 (.ptr S.length) = _ from e]
    exact h S1 kp

/-! ### drawn rules, attempts -/
structure RlOk (r : Rl) : Prop where
  cal : r.cal
  days : ∀ c ∈ r.cl, 0 ≤ c ∧ c ≤ 400
  cross : 1 ≤ r.cross ∧ r.cross ≤ 30
  stop : 1 ≤ r.stop ∧ r.stop ≤ 100
  post : 0 ≤ r.post ∧ r.post ≤ 10
  notice : 0 ≤ r.notice ∧ r.notice ≤ 20
  ans : 1 ≤ r.ans ∧ r.ans ≤ 30
def dLRules (fd fc : Nat) : DDef :=
  ⟨"_law_rules", ["tape", "base", "cross", "stop", "post", "notice", "calendar"], 2, [
    .asg (.nm 2) (.bin .add (.int 1) (.call fd [(.var 0), (.idx (.ls [(.int 3), (.int 10), (.int 30)]) (.call fd [(.var 0), (.int 3)]))])),
    .asg (.nm 3) (.bin .add (.int 1) (.call fd [(.var 0), (.idx (.ls [(.int 4), (.int 30), (.int 100)]) (.call fd [(.var 0), (.int 3)]))])),
    .asg (.nm 4) (.call fd [(.var 0), (.idx (.ls [(.int 1), (.int 4), (.int 11)]) (.call fd [(.var 0), (.int 3)]))]),
    .asg (.nm 5) (.call fd [(.var 0), (.idx (.ls [(.int 1), (.int 8), (.int 21)]) (.call fd [(.var 0), (.int 3)]))]),
    .asg (.nm 6) (.call fc [(.var 0), (.var 1)]),
    .ret (.bin .add (.var 6) (.tup [(.var 2), (.var 3), (.var 4), (.var 5), (.bin .add (.int 1) (.call fd [(.var 0), (.int 30)]))]))]⟩
/-- one of three -/
theorem three_of (a b c : Int) (q : Int) (q0 : 0 ≤ q) (q1 : q < 3) (h1 : 1 ≤ a) (h2 : a ≤ b) (h3 : b ≤ c) : ∃ v, atI [D.int a, .int b, .int c] q = some (.int v) ∧ 1 ≤ v ∧ v ≤ c := by
  rcases (by omega : q = 0 ∨ q = 1 ∨ q = 2) with rfl | rfl | rfl
  · exact ⟨a, rfl, by omega, by omega⟩
  · exact ⟨b, rfl, by omega, by omega⟩
  · exact ⟨c, rfl, by omega, by omega⟩
theorem lRules_spec {T : List DDef} {f fca fw fcl fd n : Nat} (hf : T[f]? = some (dLRules fd fca)) (hca : T[fca]? = some (dCalendar fw fcl)) (hw : T[fw]? = some (dWeek fd)) (hcl : T[fcl]? = some (dClosed fd)) (hd : T[fd]? = some dDraw) {S : Sto} {t : Nat} {base : Int} {k : WK} (ht : Tape S t)
    (h : ∀ r S', RlOk r → Tape S' t → KeepB t S S' → k (rlD r) S') : Run T (n + 4) f [.ptr t, .int base] S k := by
  refine run_of hf rfl ?_
  walk_at "w"
  refine draw_spec hd ht (by decide) fun q S1 q0 q1 ht1 kb1 _ => ?_
  obtain ⟨v, ev, v0, v1⟩ := three_of 3 10 30 q q0 q1 (by decide) (by decide) (by decide)
  walk_at "w"
  rw [ev]
  walk_at "w"
  refine draw_spec hd ht1 (by omega) fun a S2 a0 a1 ht2 kb2 _ => ?_
  have a1 : a < v := by rw [Int.max_def] at a1; split at a1 <;> omega
  walk_at "w"
  refine draw_spec hd ht2 (by decide) fun q S3 q0 q1 ht3 kb3 _ => ?_
  obtain ⟨w, ew, w0, w1⟩ := three_of 4 30 100 q q0 q1 (by decide) (by decide) (by decide)
  walk_at "w"
  rw [ew]
  walk_at "w"
  refine draw_spec hd ht3 (by omega) fun b S4 b0 b1 ht4 kb4 _ => ?_
  have b1 : b < w := by rw [Int.max_def] at b1; split at b1 <;> omega
  walk_at "w"
  refine draw_spec hd ht4 (by decide) fun q S5 q0 q1 ht5 kb5 _ => ?_
  obtain ⟨y, ey, y0, y1⟩ := three_of 1 4 11 q q0 q1 (by decide) (by decide) (by decide)
  walk_at "w"
  rw [ey]
  walk_at "w"
  refine draw_spec hd ht5 (by omega) fun c S6 c0 c1 ht6 kb6 _ => ?_
  have c1 : c < y := by rw [Int.max_def] at c1; split at c1 <;> omega
  walk_at "w"
  refine draw_spec hd ht6 (by decide) fun q S7 q0 q1 ht7 kb7 _ => ?_
  obtain ⟨z, ez, z0, z1⟩ := three_of 1 8 21 q q0 q1 (by decide) (by decide) (by decide)
  walk_at "w"
  rw [ez]
  walk_at "w"
  refine draw_spec hd ht7 (by omega) fun d S8 d0 d1 ht8 kb8 _ => ?_
  have d1 : d < z := by rw [Int.max_def] at d1; split at d1 <;> omega
  walk_at "w"
  refine calendar_spec hca hw hcl hd ht8 fun wk cl S9 cal days ht9 kb9 _ => ?_
  walk_at "w"
  refine draw_spec hd ht9 (by decide) fun e S10 e0 e1 ht10 kb10 _ => ?_
  have e1 : e < 30 := e1
  walk_at "w"
  refine ⟨(by decide : (2 : Nat) + 5 ≤ 16777216), ?_⟩
  have kb := ((((((((kb1.trans kb2).trans kb3).trans kb4).trans kb5).trans kb6).trans kb7).trans kb8).trans kb9).trans kb10
  exact h ⟨wk, cl, 1 + a, 1 + b, c, d, 1 + e⟩ S10 ⟨cal, days, by show 1 ≤ 1 + a ∧ 1 + a ≤ 30; omega, by show 1 ≤ 1 + b ∧ 1 + b ≤ 100; omega, by show 0 ≤ c ∧ c ≤ 10; omega, by show 0 ≤ d ∧ d ≤ 20; omega, by show 1 ≤ 1 + e ∧ 1 + e ≤ 30; omega⟩ ht10 kb

def dLAttempts (fd : Nat) : DDef :=
  ⟨"_law_attempts", ["tape", "base", "many", "attempts", "k", "day", "method"], 3, [
    .asg (.nm 3) (.mls []),
    .forS (.nm 4) .rg [(.var 2)] [
      .asg (.nm 5) (.bi .min [(.bin .add (.bi .max [(.bin .sub (.var 1) (.int 2)), (.int 0)]) (.call fd [(.var 0), (.idx (.ls [(.int 3), (.int 9), (.int 30)]) (.call fd [(.var 0), (.int 3)]))])), (.int 400)]),
      .asg (.nm 6) (.idx (.ls [(.str "hand"), (.str "post"), (.str "notice"), (.str "post")]) (.call fd [(.var 0), (.int 4)])),
      .expr (.meth .append (.var 3) [(.tup [(.var 5), (.var 6), (.cmp .eq (.call fd [(.var 0), (.int 3)]) (.int 0))])])],
    .ret (.bi .tuple [(.var 3)])]⟩
def DaysOk (as : List At) : Prop := ∀ a ∈ as, 0 ≤ a.day ∧ a.day ≤ 400
theorem DaysOk.app {as bs : List At} (h1 : DaysOk as) (h2 : DaysOk bs) : DaysOk (as ++ bs) := fun a h => (List.mem_append.mp h).elim (h1 a) (h2 a)
theorem DaysOk.one {a : At} (h : 0 ≤ a.day ∧ a.day ≤ 400) : DaysOk [a] := fun b hb => by
  rw [List.mem_singleton.mp hb]
  exact h
theorem md_of (c : Int) (c0 : 0 ≤ c) (c1 : c < 4) : ∃ m, atI [D.str "hand", .str "post", .str "notice", .str "post"] c = some (mdD m) := by
  rcases (by omega : c = 0 ∨ c = 1 ∨ c = 2 ∨ c = 3) with rfl | rfl | rfl | rfl
  · exact ⟨.hand, rfl⟩
  · exact ⟨.post, rfl⟩
  · exact ⟨.notice, rfl⟩
  · exact ⟨.post, rfl⟩
theorem lAttempts_spec {T : List DDef} {f fd n : Nat} (hf : T[f]? = some (dLAttempts fd)) (hd : T[fd]? = some dDraw) {S : Sto} {t : Nat} {base : Int} {many : Nat} {k : WK} (ht : Tape S t) (hm : many ≤ 1000)
    (h : ∀ as S', DaysOk as → as.length = many → Tape S' t → KeepB t S S' → k (.tup (as.map atD)) S') : Run T (n + 2) f [.ptr t, .int base, .int many] S k := by
  refine run_of hf rfl ?_
  have ht0 := ht.lt
  walk_at "w"
  refine ⟨⟨by omega, by omega⟩, trivial, ?_⟩
  refine for_inv (Run_mono T (n + 1)) (fun i σ S1 => ∃ (as : List At) (v4 v5 v6 : Option D), σ = [some (.ptr t), some (.int base), some (.int many), some (.ptr S.length), v4, v5, v6] ∧ S1[S.length]? = some (as.map atD) ∧ as.length = i ∧ DaysOk as ∧ Tape S1 t ∧ KeepB t S S1) ⟨[], none, none, none, rfl, List.getElem?_concat_length .., rfl, fun _ h => (nomatch h), ht.app _, (Keep.app _ _).b⟩ ?_ ?_
  · rintro i x σ S1 hx ⟨as, v4, v5, v6, rfl, e, hl, da, ht1, kb1⟩
    obtain ⟨hi, rfl⟩ := range_at hx
    rw [Int.toNat_natCast] at hi
    walk_at "w"
    refine draw_spec hd ht1 (by decide) fun q S2 q0 q1 ht2 kb2 _ => ?_
    obtain ⟨v, ev, v0, v1⟩ := three_of 3 9 30 q q0 q1 (by decide) (by decide) (by decide)
    walk_at "w"
    rw [ev]
    walk_at "w"
    refine draw_spec hd ht2 (by omega) fun a S3 a0 a1 ht3 kb3 _ => ?_
    walk_at "w"
    refine draw_spec hd ht3 (by decide) fun c S4 c0 c1 ht4 kb4 _ => ?_
    obtain ⟨m, em⟩ := md_of c c0 c1
    walk_at "w"
    rw [em]
    walk_at "w"
    refine ⟨trivial, ?_⟩
    refine draw_spec hd ht4 (by decide) fun u S5 u0 u1 ht5 kb5 _ => ?_
    have kb := ((kb2.trans kb3).trans kb4).trans kb5
    have e5 := kb.2 _ _ (show S.length ≠ t by omega) e
    have hlt := (List.getElem?_eq_some_iff.mp e5).1
    walk_at "w"
    refine ⟨rfl, ?_⟩
    walk_at "w"
    rw [e5]
    refine ⟨by rw [List.length_map]; show _ < 16777216; omega, ?_⟩
    generalize hdy : (if (400 : Int) < (if (0 : Int) > base - 2 then 0 else base - 2) + a then (400 : Int) else (if (0 : Int) > base - 2 then 0 else base - 2) + a) = dy
    have hb : 0 ≤ dy ∧ dy ≤ 400 := by
      rw [← hdy]
      split <;> (try split) <;> omega
    refine ⟨as ++ [⟨dy, m, eqD (.int u) (.int 0)⟩], _, _, _, rfl, ?_, by rw [List.length_append, hl]; rfl, da.app (.one hb), ht5.own (by omega) _, (kb1.trans kb).own (Nat.le_refl _) _⟩
    rw [List.getElem?_set_self hlt, List.map_append]
    rfl
  · rintro σ S1 ⟨as, v4, v5, v6, rfl, e, hl, da, ht1, kb1⟩
    rw [rangeD_len, Int.toNat_natCast] at hl
    walk_at "w"
    rw [show seqOf S1 (.ptr S.length) = _ from e]
    exact h as S1 da hl ht1 kb1

def dLRow (fr fa fe fd : Nat) : DDef :=
  ⟨"_law_row", ["tape", "base", "rules", "attempts"], 2, [
    .asg (.nm 2) (.call fr [(.var 0), (.var 1)]),
    .asg (.nm 3) (.call fa [(.var 0), (.var 1), (.idx (.ls [(.int 0), (.int 1), (.int 2), (.call fd [(.var 0), (.int 7)]), (.int 6)]) (.call fd [(.var 0), (.int 5)]))]),
    .ite (.andv (.cmp .gt (.bi .len [(.var 3)]) (.int 1)) (.andv (.cmp .eq (.call fd [(.var 0), (.int 3)]) (.int 0)) (.one (.cmp .le (.call fe [(.var 2), (.idx (.var 3) (.int 0))]) (.int 400))))) [
      .asg (.nm 3) (.bin .add (.slc (.var 3) none (some (.neg (.int 1)))) (.tup [(.tup [(.call fe [(.var 2), (.idx (.var 3) (.int 0))]), (.str "hand"), (.bl false)])]))] [],
    .ret (.bin .add (.var 2) (.tup [(.var 3)]))]⟩
theorem cut_map (as : List At) (lo hi : Option Int) : ∃ bs : List At, cutD (as.map atD) lo hi = bs.map atD ∧ bs.length ≤ as.length ∧ ∀ b ∈ bs, b ∈ as := by
  unfold cutD
  rw [← List.map_drop, ← List.map_take]
  refine ⟨_, rfl, ?_, fun b hb => List.mem_of_mem_drop (List.mem_of_mem_take hb)⟩
  rw [List.length_take, List.length_drop]
  omega
theorem effI_ge {r : Rl} (o : RlOk r) (a : At) : a.day ≤ effI r a := by
  obtain ⟨m, e, _⟩ := nextI_spec o.cal (a.day + later r a.md)
  unfold effI
  rw [e]
  have := o.post.1
  have := o.notice.1
  cases a.md <;> simp only [later] <;> omega
def rowD (r : Rl) (as : List At) : List D := [.str ⟨r.wk.toArray⟩, .tup (r.cl.map D.int), .int r.cross, .int r.stop, .int r.post, .int r.notice, .int r.ans, .tup (as.map atD)]
theorem lRow_spec {T : List DDef} {f fr fa fe fx fwk fca fw fcl fd n : Nat} (hf : T[f]? = some (dLRow fr fa fe fd)) (hr : T[fr]? = some (dLRules fd fca)) (ha : T[fa]? = some (dLAttempts fd)) (he : T[fe]? = some (dLEffect fx)) (hx : T[fx]? = some (dNext fwk)) (hwk : T[fwk]? = some dWorks)
    (hca : T[fca]? = some (dCalendar fw fcl)) (hw : T[fw]? = some (dWeek fd)) (hcl : T[fcl]? = some (dClosed fd)) (hd : T[fd]? = some dDraw) {S : Sto} {t : Nat} {base : Int} {k : WK} (ht : Tape S t)
    (h : ∀ r as S', RlOk r → DaysOk as → as.length ≤ 7 → Tape S' t → KeepB t S S' → k (.tup (rowD r as)) S') : Run T (n + 5) f [.ptr t, .int base] S k := by
  refine run_of hf rfl ?_
  walk_at "w"
  refine lRules_spec hr hca hw hcl hd ht fun r S1 ro ht1 kb1 => ?_
  walk_at "w"
  refine draw_spec hd ht1 (by decide) fun u S2 u0 u1 ht2 kb2 _ => ?_
  have u1 : u < 7 := u1
  walk_at "w"
  refine draw_spec hd ht2 (by decide) fun c S3 c0 c1 ht3 kb3 _ => ?_
  have c1 : c < 5 := c1
  have c3 := (kb1.trans kb2).trans kb3
  have end_ : ∀ (as : List At) S4, DaysOk as → as.length ≤ 7 → Tape S4 t → KeepB t S S4 → wSs (Run T (n + 4)) ((dLRow fr fa fe fd).body.drop 3) [some (.ptr t), some (.int base), some (rlD r), some (.tup (as.map atD))] S4 { nx := fun _ S1 => k .non S1, rt := k } := by
    intro as S4 da hl ht4 kb4
    walk_at "w"
    refine ⟨(by decide : (7 : Nat) + 1 ≤ 16777216), ?_⟩
    exact h r as S4 ro da hl ht4 kb4
  have mid : ∀ m : Nat, m ≤ 6 → Run T (n + 4) fa [.ptr t, .int base, .int m] S3 fun d S4 => wSs (Run T (n + 4)) ((dLRow fr fa fe fd).body.drop 2) [some (.ptr t), some (.int base), some (rlD r), some d] S4 { nx := fun _ S1 => k .non S1, rt := k } := by
    intro m hm
    refine lAttempts_spec ha hd ht3 (by omega) fun as S4 da hl ht4 kb4 => ?_
    have kb := c3.trans kb4
    walk_at "w"
    rw [List.length_map]
    refine ⟨fun hb => ?_, fun _ => ⟨fun hb => n_end hb, fun _ => end_ as S4 da (by omega) ht4 kb⟩⟩
    have hb := of_decide_eq_true hb
    walk_at "w"
    refine draw_spec hd ht4 (by decide) fun q S5 q0 q1 ht5 kb5 _ => ?_
    have kb' := kb.trans kb5
    walk_at "w"
    refine ⟨rfl, fun _ => ?_, fun _ => ⟨fun hb => n_end hb, fun _ => end_ as S5 da (by omega) ht5 kb'⟩⟩
    match as, hl, hb, da with
    | a :: rest, hl, hb, da =>
      have ea : atI ((a :: rest).map atD) 0 = some (atD a) := at_hd _ _
      have hge := effI_ge ro a
      have a0 := da a List.mem_cons_self
      obtain ⟨bs, eb, lb, mb⟩ := cut_map (a :: rest) none (some (-1))
      walk_at "w"
      rw [ea]
      walk_at "w"
      refine lEffect_spec he hx hwk ro.cal a ?_
      walk_at "w"
      refine ⟨fun hle => ?_, fun _ => end_ (a :: rest) S5 da (by omega) ht5 kb'⟩
      have hle := of_decide_eq_true hle
      have q := end_ (bs ++ [⟨effI r a, .hand, false⟩]) S5 (DaysOk.app (fun b hb => da b (mb b hb)) (.one ⟨by show 0 ≤ effI r a; omega, hle⟩)) (by rw [List.length_append]; show _ + 1 ≤ 7; omega) ht5 kb'
      rw [List.map_append] at q
      walk_at "w"
      rw [ea]
      walk_at "w"
      refine lEffect_spec he hx hwk ro.cal a ?_
      walk_at "w"
      rw [eb]
      refine ⟨?_, ?_⟩
      · rw [List.length_map]
        show _ + 1 ≤ 16777216
        omega
      walk_at "w"
      conv at q => whnf
      exact q
  walk_at "w"
  rcases (by omega : c = 0 ∨ c = 1 ∨ c = 2 ∨ c = 3 ∨ c = 4) with rfl | rfl | rfl | rfl | rfl
  · exact mid 0 (by decide)
  · exact mid 1 (by decide)
  · exact mid 2 (by decide)
  · have q := mid u.toNat (by omega)
    rw [show ((u.toNat : Nat) : Int) = u by omega] at q
    exact q
  · exact mid 6 (by decide)
end Ov
-- OvCt
/-! Courts and chains. -/
namespace Ov
open PySem L2
local macro_rules | `(tactic| walk_at "w") => `(tactic| conv => whnf)
local macro_rules | `(tactic| walk_at "y") => `(tactic| refine ⟨fun _ => ?_, fun hb => by cases hb⟩)
local macro_rules | `(tactic| walk_at "n") => `(tactic| refine ⟨(fun hb => by cases hb), fun _ => ?_⟩)

def oD : Option Nat → D
  | none => .non
  | some s => .int s
def natD (l : List Nat) : List D := l.map fun (i : Nat) => D.int i
theorem natD_ints (l : List Nat) : natD l = (l.map fun (i : Nat) => (i : Int)).map D.int := by
  unfold natD
  rw [List.map_map]
  rfl
theorem natD_len (l : List Nat) : (natD l).length = l.length := by unfold natD; rw [List.length_map]
/-- courts whose superiors have smaller numbers -/
structure Cts (cs : List D) (sup : Nat → Option Nat) : Prop where
  at_ : ∀ i, i < cs.length → ∃ r, cs[i]? = some (.tup (oD (sup i) :: r))
  low : ∀ i s, i < cs.length → sup i = some s → s < i
inductive Chn (sup : Nat → Option Nat) : Option Nat → List Nat → Prop
  | nil : Chn sup none []
  | cons {i : Nat} {l : List Nat} (h : Chn sup (sup i) l) : Chn sup (some i) (i :: l)
section
variable {sup : Nat → Option Nat}
theorem Chn.uniq {o : Option Nat} {l m : List Nat} (a : Chn sup o l) : Chn sup o m → l = m := by
  induction a generalizing m with
  | nil =>
    intro b
    cases b
    rfl
  | cons h ih =>
    intro b
    cases b with
    | cons h2 => rw [ih h2]
theorem Chn.ex {cs : List D} (c : Cts cs sup) : ∀ n i : Nat, i < n → i < cs.length → ∃ l, Chn sup (some i) l ∧ l.length ≤ i + 1 ∧ ∀ x ∈ l, x ≤ i := by
  intro n
  induction n with
  | zero => exact fun i h => absurd h (Nat.not_lt_zero _)
  | succ n ih =>
    intro i hi hl
    cases e : sup i with
    | none => exact ⟨[i], .cons (by rw [e]; exact .nil), by simp, fun x hx => by rw [List.mem_singleton.mp hx]; exact Nat.le_refl _⟩
    | some s =>
      have hs := c.low i s hl e
      obtain ⟨l, h1, h2, h3⟩ := ih s (by omega) (by omega)
      refine ⟨i :: l, .cons (by rw [e]; exact h1), by simp; omega, fun x hx => ?_⟩
      rcases List.mem_cons.mp hx with rfl | hx
      · exact Nat.le_refl _
      · have := h3 x hx
        omega
theorem Chn.suffix {o : Option Nat} {l : List Nat} (a : Chn sup o l) : ∀ {c : Nat}, c ∈ l → ∃ pre rem, l = pre ++ rem ∧ Chn sup (some c) rem := by
  induction a with
  | nil => exact fun h => nomatch h
  | @cons i l h ih =>
    intro c hc
    rcases List.mem_cons.mp hc with rfl | hc
    · exact ⟨[], _, rfl, .cons h⟩
    · obtain ⟨pre, rem, e, r⟩ := ih hc
      exact ⟨i :: pre, rem, by rw [e]; rfl, r⟩
theorem Chn.self {c : Nat} {l : List Nat} (a : Chn sup (some c) l) : ∃ r, l = c :: r := by
  cases a with
  | cons h => exact ⟨_, rfl⟩
end
theorem any_nat (l : List Nat) (c : Nat) : ((natD l).any fun z => eqD z (.int c)) = decide (c ∈ l) := by
  unfold natD
  rw [List.any_map, Bool.eq_iff_iff, List.any_eq_true, decide_eq_true_eq]
  constructor
  · rintro ⟨x, hx, e⟩
    have e : ((x : Int) == (c : Int)) = true := e
    have : (x : Int) = (c : Int) := eq_of_beq e
    have : x = c := by omega
    rw [← this]
    exact hx
  · intro h
    exact ⟨c, h, eqI_refl _⟩
theorem flats_nat (l : List Nat) : (natD l).all flatD = true := by
  unfold natD
  rw [List.all_map]
  exact List.all_eq_true.mpr fun _ _ => rfl

/-! ### the program's chain -/
def dChain : DDef :=
  ⟨"appeal_chain", ["courts", "court", "chain", "superior"], 2, [
    .asg (.nm 2) (.mls [(.var 1)]),
    .asg (.nm 3) (.idx (.idx (.var 0) (.var 1)) (.int 0)),
    .whil (.cmp .isnot (.var 3) .non) [
      .expr (.meth .append (.var 2) [(.var 3)]),
      .asg (.nm 3) (.idx (.idx (.var 0) (.var 3)) (.int 0))],
    .ret (.bi .tuple [(.var 2)])]⟩
theorem chain_spec {T : List DDef} {f n : Nat} (hf : T[f]? = some dChain) {cs : List D} {sup : Nat → Option Nat} (hc : ∀ i, i < cs.length → ∃ r, cs[i]? = some (.tup (oD (sup i) :: r))) {i : Nat} {l : List Nat} (hl : Chn sup (some i) l) (hm : ∀ x ∈ l, x < cs.length) (hs : l.length ≤ 1000) {S : Sto} {k : WK}
    (h : ∀ S', Keep S S' → k (.tup (natD l)) S') : Run T (n + 1) f [.tup cs, .int i] S k := by
  refine run_of hf rfl ?_
  obtain ⟨r, rfl⟩ := hl.self
  have hr : Chn sup (sup i) r := by cases hl with | cons h => exact h
  obtain ⟨q, e⟩ := hc i (hm i List.mem_cons_self)
  walk_at "w"
  rw [at_n e]
  walk_at "w"
  rw [at_hd]
  walk_at "w"
  refine ⟨fun μ σ S1 => ∃ pre rem o, i :: r = pre ++ rem ∧ Chn sup o rem ∧ μ = rem.length ∧ σ = [some (.tup cs), some (.int i), some (.ptr S.length), some (oD o)] ∧ S1[S.length]? = some (natD pre) ∧ Keep S S1 ∧ S1.length = S.length + 1,
    ⟨r.length, [i], r, sup i, rfl, hr, rfl, rfl, List.getElem?_concat_length .., Keep.app _ _, by simp⟩, ?_⟩
  rintro μ σ S1 ⟨pre, rem, o, e1, e2, rfl, rfl, e3, e4, e5⟩
  cases e2 with
  | nil =>
    walk_at "w"
    walk_at "n"
    rw [List.append_nil] at e1
    subst e1
    walk_at "w"
    rw [show seqOf S1 (.ptr S.length) = _ from e3]
    exact h S1 e4
  | @cons j l h2 =>
    have hj : j ∈ i :: r := by rw [e1]; simp
    obtain ⟨q2, eq2⟩ := hc j (hm j hj)
    walk_at "w"
    walk_at "y"
    walk_at "w"
    refine ⟨trivial, ?_⟩
    walk_at "w"
    rw [e3]
    have hlen : pre.length + (l.length + 1) = (i :: r).length := by rw [e1]; simp
    refine ⟨by rw [natD_len]; show _ < 16777216; omega, ?_⟩
    walk_at "w"
    rw [at_n eq2]
    walk_at "w"
    rw [at_hd]
    walk_at "w"
    refine ⟨l.length, by simp, pre ++ [j], l, sup j, by rw [e1]; simp, h2, rfl, rfl, ?_, e4.own (Nat.le_refl _) _, by rw [List.length_set]; exact e5⟩
    rw [List.getElem?_set_self (by omega)]
    unfold natD
    rw [List.map_append]
    rfl

/-! ### the laws' courts -/
def dCourt (fd : Nat) : DDef :=
  ⟨"_law_court", ["tape", "superior", "bench", "full", "least", "days"], 2, [
    .asg (.nm 2) (.bin .add (.int 1) (.call fd [(.var 0), (.int 5)])),
    .asg (.nm 3) (.bi .min [(.bin .add (.var 2) (.call fd [(.var 0), (.int 9)])), (.int 9)]),
    .ite (.cmp .eq (.call fd [(.var 0), (.int 4)]) (.int 0)) [
      .asg (.nm 3) (.bin .add (.int 1) (.call fd [(.var 0), (.int 9)]))] [],
    .asg (.nm 4) (.idx (.ls [(.int 0), (.int 0), (.int 0), (.bin .add (.int 1) (.call fd [(.var 0), (.int 100)])), (.call fd [(.var 0), (.int 10001)])]) (.call fd [(.var 0), (.int 5)])),
    .asg (.nm 5) (.bin .add (.int 1) (.call fd [(.var 0), (.int 30)])),
    .ret (.tup [(.var 1), (.var 2), (.var 3), (.cmp .gt (.call fd [(.var 0), (.int 3)]) (.int 0)), (.var 4), (.var 5), (.cmp .eq (.call fd [(.var 0), (.int 2)]) (.int 0)), (.call fd [(.var 0), (.int 101)])])]⟩
theorem court_spec {T : List DDef} {f fd n : Nat} (hf : T[f]? = some (dCourt fd)) (hd : T[fd]? = some dDraw) {S : Sto} {t : Nat} {x : D} {k : WK} (ht : Tape S t)
    (h : ∀ (b fu le da fe : Int) (w v : Bool) S', 1 ≤ b → b ≤ 5 → 1 ≤ fu → fu ≤ 9 → 0 ≤ le → le ≤ 10000 → 1 ≤ da → da ≤ 30 → 0 ≤ fe → fe ≤ 100 → Tape S' t → KeepB t S S' → S'.length = S.length → k (.tup [x, .int b, .int fu, .bl w, .int le, .int da, .bl v, .int fe]) S') : Run T (n + 2) f [.ptr t, x] S k := by
  refine run_of hf rfl ?_
  walk_at "w"
  refine draw_spec hd ht (by decide) fun b S1 b0 b1 ht1 kb1 hl1 => ?_
  have b1 : b < 5 := b1
  walk_at "w"
  refine draw_spec hd ht1 (by decide) fun u S2 u0 u1 ht2 kb2 hl2 => ?_
  have u1 : u < 9 := u1
  walk_at "w"
  refine draw_spec hd ht2 (by decide) fun v S3 v0 v1 ht3 kb3 hl3 => ?_
  walk_at "w"
  refine ⟨rfl, ?_⟩
  have rest : ∀ (fu : Int) (S4 : Sto), 1 ≤ fu → fu ≤ 9 → Tape S4 t → KeepB t S S4 → S4.length = S.length → wSs (Run T (n + 1)) ((dCourt fd).body.drop 3) [some (.ptr t), some x, some (.int (1 + b)), some (.int fu), none, none] S4 { nx := fun _ S1 => k .non S1, rt := k } := by
    intro fu S4 f0 f1 ht4 kb4 hl4
    walk_at "w"
    refine draw_spec hd ht4 (by decide) fun p S5 p0 p1 ht5 kb5 hl5 => ?_
    have p1 : p < 100 := p1
    walk_at "w"
    refine draw_spec hd ht5 (by decide) fun q S6 q0 q1 ht6 kb6 hl6 => ?_
    have q1 : q < 10001 := q1
    walk_at "w"
    refine draw_spec hd ht6 (by decide) fun c S7 c0 c1 ht7 kb7 hl7 => ?_
    have c1 : c < 5 := c1
    walk_at "w"
    have fin : ∀ le : Int, 0 ≤ le → le ≤ 10000 → wSs (Run T (n + 1)) ((dCourt fd).body.drop 4) [some (.ptr t), some x, some (.int (1 + b)), some (.int fu), some (.int le), none] S7 { nx := fun _ S1 => k .non S1, rt := k } := by
      intro le l0 l1
      walk_at "w"
      refine draw_spec hd ht7 (by decide) fun d S8 d0 d1 ht8 kb8 hl8 => ?_
      have d1 : d < 30 := d1
      walk_at "w"
      refine draw_spec hd ht8 (by decide) fun g S9 g0 g1 ht9 kb9 hl9 => ?_
      walk_at "w"
      refine draw_spec hd ht9 (by decide) fun y S10 y0 y1 ht10 kb10 hl10 => ?_
      walk_at "w"
      refine ⟨rfl, ?_⟩
      walk_at "w"
      refine draw_spec hd ht10 (by decide) fun z S11 z0 z1 ht11 kb11 hl11 => ?_
      have z1 : z < 101 := z1
      walk_at "w"
      exact h _ _ _ _ _ _ _ S11 (by omega) (by omega) f0 f1 l0 l1 (by omega) (by omega) z0 (by omega) ht11 (((((((kb4.trans kb5).trans kb6).trans kb7).trans kb8).trans kb9).trans kb10).trans kb11) (by rw [hl11, hl10, hl9, hl8, hl7, hl6, hl5, hl4])
    rcases (by omega : c = 0 ∨ c = 1 ∨ c = 2 ∨ c = 3 ∨ c = 4) with rfl | rfl | rfl | rfl | rfl
    · exact fin _ (by omega) (by omega)
    · exact fin _ (by omega) (by omega)
    · exact fin _ (by omega) (by omega)
    · exact fin _ (by omega) (by omega)
    · exact fin _ (by omega) (by omega)
  have kb := (kb1.trans kb2).trans kb3
  have hl : S3.length = S.length := by rw [hl3, hl2, hl1]
  refine ⟨fun _ => ?_, fun _ => ?_⟩
  · walk_at "w"
    refine draw_spec hd ht3 (by decide) fun m S4 m0 m1 ht4 kb4 hl4 => ?_
    have m1 : m < 9 := m1
    walk_at "w"
    exact rest _ S4 (by omega) (by omega) ht4 (kb.trans kb4) (by rw [hl4, hl])
  · walk_at "w"
    exact rest _ S3 (by split <;> omega) (by split <;> omega) ht3 kb hl
def dCourts (fd fc : Nat) : DDef :=
  ⟨"_law_courts", ["tape", "many", "shape", "courts", "k", "superior"], 2, [
    .asg (.nm 2) (.call fd [(.var 0), (.int 3)]),
    .asg (.nm 3) (.tup []),
    .forS (.nm 4) .rg [(.var 1)] [
      .asg (.nm 5) .non,
      .ite (.andv (.cmp .gt (.var 4) (.int 0)) (.one (.cmp .eq (.var 2) (.int 0)))) [
        .asg (.nm 5) (.bin .sub (.var 4) (.int 1))] [],
      .ite (.andv (.cmp .gt (.var 4) (.int 0)) (.one (.cmp .gt (.var 2) (.int 0)))) [
        .asg (.nm 5) (.idx (.ls [.non, (.call fd [(.var 0), (.var 4)]), (.call fd [(.var 0), (.var 4)]), (.bin .sub (.var 4) (.int 1)), (.bi .max [(.bin .sub (.var 4) (.int 2)), (.int 0)]), (.int 0)]) (.call fd [(.var 0), (.int 6)]))] [],
      .asg (.nm 3) (.bin .add (.var 3) (.tup [(.call fc [(.var 0), (.var 5)])]))],
    .ret (.var 3)]⟩
/-- a court as the laws draw it, but its superior -/
def CourtR (r : List D) : Prop := ∃ (b fu le da fe : Int) (w v : Bool), r = [.int b, .int fu, .bl w, .int le, .int da, .bl v, .int fe] ∧ 1 ≤ b ∧ b ≤ 5 ∧ 1 ≤ fu ∧ fu ≤ 9 ∧ 0 ≤ le ∧ le ≤ 10000 ∧ 1 ≤ da ∧ da ≤ 30 ∧ 0 ≤ fe ∧ fe ≤ 100
structure CtsR (cs : List D) (sup : Nat → Option Nat) : Prop where
  at_ : ∀ i, i < cs.length → ∃ r, cs[i]? = some (.tup (oD (sup i) :: r)) ∧ CourtR r
  low : ∀ i s, i < cs.length → sup i = some s → s < i
theorem CtsR.cts {cs : List D} {sup : Nat → Option Nat} (c : CtsR cs sup) : Cts cs sup := ⟨fun i hi => let ⟨r, h, _⟩ := c.at_ i hi; ⟨r, h⟩, c.low⟩
theorem CtsR.snoc {cs : List D} {sup : Nat → Option Nat} (c : CtsR cs sup) {o : Option Nat} (ho : ∀ s, o = some s → s < cs.length) {r : List D} (hr : CourtR r) : CtsR (cs ++ [.tup (oD o :: r)]) (fun i => if i = cs.length then o else sup i) := by
  refine ⟨fun i hi => ?_, fun i s hi hs => ?_⟩
  · rw [List.length_append, List.length_singleton] at hi
    by_cases e : i = cs.length
    · subst e
      exact ⟨r, by rw [if_pos rfl]; exact List.getElem?_concat_length .., hr⟩
    · obtain ⟨r2, h1, h2⟩ := c.at_ i (by omega)
      exact ⟨r2, by rw [if_neg e, List.getElem?_append_left (by omega)]; exact h1, h2⟩
  · rw [List.length_append, List.length_singleton] at hi
    have hs : (if i = cs.length then o else sup i) = some s := hs
    by_cases e : i = cs.length
    · rw [if_pos e] at hs
      rw [e]
      exact ho s hs
    · rw [if_neg e] at hs
      exact c.low i s (by omega) hs
def CtInv (t many : Nat) (sh : Int) (S : Sto) (i : Nat) (σ : DEnv) (S1 : Sto) : Prop := ∃ cs sup v4 v5, σ = [some (.ptr t), some (.int many), some (.int sh), some (.tup cs), v4, v5] ∧ CtsR cs sup ∧ cs.length = i ∧ Tape S1 t ∧ KeepB t S S1 ∧ S1.length = S.length
theorem courts_spec {T : List DDef} {f fd fc n : Nat} (hf : T[f]? = some (dCourts fd fc)) (hcf : T[fc]? = some (dCourt fd)) (hd : T[fd]? = some dDraw) {S : Sto} {t : Nat} {many : Nat} {k : WK} (ht : Tape S t) (hm : many ≤ 100)
    (h : ∀ cs sup S', CtsR cs sup → cs.length = many → Tape S' t → KeepB t S S' → S'.length = S.length → k (.tup cs) S') : Run T (n + 3) f [.ptr t, .int many] S k := by
  refine run_of hf rfl ?_
  walk_at "w"
  refine draw_spec hd ht (by decide) fun sh S1 s0 s1 ht1 kb1 hl1 => ?_
  have s1 : sh < 3 := s1
  walk_at "w"
  refine ⟨⟨by omega, by omega⟩, trivial, ?_⟩
  refine for_inv (Run_mono T (n + 2)) (CtInv t many sh S)
    ⟨[], fun _ => none, none, none, rfl, ⟨fun i hi => absurd hi (Nat.not_lt_zero _), fun i s hi => absurd hi (Nat.not_lt_zero _)⟩, rfl, ht1, kb1, hl1⟩ ?_ ?_
  · rintro i x σ S2 hx ⟨cs, sup, v4, v5, rfl, hc, hl, ht2, kb2, hl2⟩
    obtain ⟨hi, rfl⟩ := range_at hx
    rw [Int.toNat_natCast] at hi
    rw [Int.zero_add]
    -- the last step, from a superior on
    have last : ∀ (o : Option Nat) (S3 : Sto), (∀ s, o = some s → s < cs.length) → Tape S3 t → KeepB t S S3 → S3.length = S.length → ∀ (bk : DEnv → Sto → Prop) (rt : WK), wSs (Run T (n + 2)) [.asg (.nm 3) (.bin .add (.var 3) (.tup [(.call fc [(.var 0), (.var 5)])]))]
        [some (.ptr t), some (.int many), some (.int sh), some (.tup cs), some (.int i), some (oD o)] S3 { nx := CtInv t many sh S (i + 1), rt := rt, bk := bk, ct := CtInv t many sh S (i + 1) } := by
      intro o S3 ho ht3 kb3 hl3 bk rt
      walk_at "w"
      refine court_spec hcf hd ht3 fun b fu le da fe w v S4 g1 g2 g3 g4 g5 g6 g7 g8 g9 g10 ht4 kb4 hl4 => ?_
      walk_at "w"
      refine ⟨by show cs.length + 1 ≤ 16777216; omega, ?_⟩
      exact ⟨_, _, _, _, rfl, hc.snoc ho ⟨b, fu, le, da, fe, w, v, rfl, g1, g2, g3, g4, g5, g6, g7, g8, g9, g10⟩, by simp [hl], ht4, kb3.trans kb4, by rw [hl4, hl3]⟩
    walk_at "w"
    refine ⟨fun h0 => ?_, fun h0 => ?_⟩
    · have h0 : (0 : Int) < i := of_decide_eq_true h0
      walk_at "w"
      refine ⟨rfl, ?_⟩
      -- both shapes
      refine ⟨fun h1 => ?_, fun h1 => ?_⟩
      · have h1 : sh = 0 := eqI_t h1
        subst h1
        walk_at "w"
        refine ⟨fun _ => ?_, fun h2 => absurd (of_decide_eq_false h2) (by omega)⟩
        walk_at "w"
        walk_at "n"
        walk_at "w"
        have e : D.int ((i : Int) - 1) = oD (some (i - 1)) := by
          show D.int _ = D.int ((i - 1 : Nat) : Int)
          rw [show ((i - 1 : Nat) : Int) = (i : Int) - 1 by omega]
        rw [e]
        exact last (some (i - 1)) S2 (fun s e => by cases e; omega) ht2 kb2 hl2 _ _
      · have h1 : sh ≠ 0 := eqI_f h1
        walk_at "w"
        refine ⟨fun _ => ?_, fun h2 => absurd (of_decide_eq_false h2) (by omega)⟩
        walk_at "w"
        refine ⟨fun _ => ?_, fun h2 => absurd (of_decide_eq_false h2) (by omega)⟩
        walk_at "w"
        refine draw_spec hd ht2 (by omega) fun p S3 p0 p1 ht3 kb3 hl3 => ?_
        have p1 : p < i := by omega
        walk_at "w"
        refine draw_spec hd ht3 (by omega) fun q S4 q0 q1 ht4 kb4 hl4 => ?_
        have q1 : q < i := by omega
        walk_at "w"
        refine draw_spec hd ht4 (by decide) fun c S5 c0 c1 ht5 kb5 hl5 => ?_
        have c1 : c < 6 := c1
        have kb := ((kb2.trans kb3).trans kb4).trans kb5
        have hlen : S5.length = S.length := by rw [hl5, hl4, hl3, hl2]
        have lastI : ∀ z : Int, 0 ≤ z → z < i → ∀ (bk : DEnv → Sto → Prop) (rt : WK), wSs (Run T (n + 2)) [.asg (.nm 3) (.bin .add (.var 3) (.tup [(.call fc [(.var 0), (.var 5)])]))]
            [some (.ptr t), some (.int many), some (.int sh), some (.tup cs), some (.int i), some (.int z)] S5 { nx := CtInv t many sh S (i + 1), rt := rt, bk := bk, ct := CtInv t many sh S (i + 1) } := fun z z0 z1 bk rt => by
          have e : D.int z = oD (some z.toNat) := by
            show D.int _ = D.int ((z.toNat : Nat) : Int)
            rw [Int.toNat_of_nonneg z0]
          rw [e]
          exact last (some z.toNat) S5 (fun s e => by cases e; omega) ht5 kb hlen bk rt
        walk_at "w"
        rcases (by omega : c = 0 ∨ c = 1 ∨ c = 2 ∨ c = 3 ∨ c = 4 ∨ c = 5) with rfl | rfl | rfl | rfl | rfl | rfl
        · exact last none S5 (fun s e => nomatch e) ht5 kb hlen _ _
        · exact lastI _ p0 p1 _ _
        · exact lastI _ q0 q1 _ _
        · exact lastI _ (by omega) (by omega) _ _
        · exact lastI _ (by split <;> omega) (by split <;> omega) _ _
        · exact lastI _ (by omega) (by omega) _ _
    · have h0 : ¬ (0 : Int) < i := of_decide_eq_false h0
      walk_at "w"
      walk_at "n"
      walk_at "w"
      refine ⟨fun h2 => absurd (of_decide_eq_true h2) h0, fun _ => ?_⟩
      walk_at "w"
      walk_at "n"
      exact last none S2 (fun s e => nomatch e) ht2 kb2 hl2 _ _
  · rintro σ S2 ⟨cs, sup, v4, v5, rfl, hc, hl, ht2, kb2, hl2⟩
    rw [rangeD_len, Int.toNat_natCast] at hl
    exact h cs sup S2 hc hl ht2 kb2 hl2
theorem natD_mem {l : List Nat} {x : D} (h : x ∈ natD l) : ∃ i : Nat, i ∈ l ∧ x = .int i := by
  unfold natD at h
  obtain ⟨i, hi, e⟩ := List.mem_map.mp h
  exact ⟨i, hi, e.symm⟩
theorem natD_int {l : List Nat} : ∀ x ∈ natD l, ∃ i : Int, x = .int i := fun x h => let ⟨i, _, e⟩ := natD_mem h; ⟨i, e⟩
end Ov
-- OvVo
/-! Texts of signs, votes. -/
namespace Ov
open PySem L2
local macro_rules | `(tactic| walk_at "w") => `(tactic| conv => whnf)
local macro_rules | `(tactic| walk_at "y") => `(tactic| refine ⟨fun _ => ?_, fun hb => y_end hb⟩)
local macro_rules | `(tactic| walk_at "n") => `(tactic| refine ⟨fun hb => n_end hb, fun _ => ?_⟩)
/-! ### texts of signs 0 and 1 -/
def chB : Bool → Nat
  | true => 49
  | false => 48
def txt (bs : List Bool) : Str := ⟨(bs.map chB).toArray⟩
theorem txt_len (bs : List Bool) : (txt bs).length = bs.length := by
  show (bs.map chB).toArray.size = _
  simp
theorem txt_app (a b : List Bool) : txt a ++ txt b = txt (a ++ b) := by
  show (⟨(a.map chB).toArray ++ (b.map chB).toArray⟩ : Str) = ⟨((a ++ b).map chB).toArray⟩
  rw [List.map_append]
  simp
theorem ones_count (bs : List Bool) : Txt.count (txt bs) "1" = (bs.count true : Nat) := by
  rw [show (Str.ofString "1") = ⟨#[49]⟩ from by rfl, count_one]
  show (((bs.map chB).toArray.toList.count 49 : Nat) : Int) = _
  congr 1
  induction bs with
  | nil => rfl
  | cons b bs ih => cases b <;> simp [chB] at ih ⊢ <;> omega
theorem zeros_count (bs : List Bool) : Txt.count (txt bs) "0" = (bs.count false : Nat) := by
  rw [show (Str.ofString "0") = ⟨#[48]⟩ from by rfl, count_one]
  show (((bs.map chB).toArray.toList.count 48 : Nat) : Int) = _
  congr 1
  induction bs with
  | nil => rfl
  | cons b bs ih => cases b <;> simp [chB] at ih ⊢ <;> omega
theorem both_count (bs : List Bool) : bs.count true + bs.count false = bs.length := by
  induction bs with
  | nil => rfl
  | cons b bs ih => cases b <;> simp <;> omega
theorem foldl_rep (c : Nat) : ∀ (n : Nat) (b : Array Nat), ((List.replicate n #[c]).foldl (· ++ ·) b).toList = b.toList ++ List.replicate n c
  | 0, b => by simp
  | n + 1, b => by
    rw [List.replicate_succ, List.foldl_cons, foldl_rep c n, List.replicate_succ]
    simp
theorem rep_one (b : Bool) (n : Nat) : strRep ⟨#[chB b]⟩ n = txt (List.replicate n b) := by
  show (⟨_⟩ : Str) = ⟨_⟩
  congr 1
  have := foldl_rep (chB b) n #[]
  rw [List.map_replicate]
  exact Array.toList_inj.mp (by rw [this]; simp)
def signS (b : Bool) : Str := ⟨#[chB b]⟩
theorem fold_join : ∀ (bs : List Bool) (a : Array Nat), (bs.map signS).foldl (fun acc p => acc ++ (Str.ofString "").cps ++ p.cps) a = a ++ (bs.map chB).toArray
  | [], a => by simp
  | b :: bs, a => by
    rw [List.map_cons, List.foldl_cons, fold_join bs]
    show a ++ #[] ++ #[chB b] ++ _ = _
    simp
theorem join_bits (bs : List Bool) : Txt.join "" (bs.map signS) = txt bs := by
  cases bs with
  | nil => rfl
  | cons b bs =>
    show (⟨(bs.map signS).foldl (fun acc p => acc ++ (Str.ofString "").cps ++ p.cps) (signS b).cps⟩ : Str) = _
    rw [fold_join]
    show (⟨#[chB b] ++ (bs.map chB).toArray⟩ : Str) = ⟨((b :: bs).map chB).toArray⟩
    simp
theorem strs_bits (bs : List Bool) : strsOf (bs.map fun b => D.str (signS b)) = some (bs.map signS) := by
  induction bs with
  | nil => rfl
  | cons b bs ih =>
    show (strsOf (bs.map fun b => D.str (signS b))).map (signS b :: ·) = _
    rw [ih]
    rfl
/-! ### votes -/
def dVft : DDef :=
  ⟨"votes_for_true", ["many", "majority"], 2, [
    .ite (.cmp .eq (.var 1) (.int 0)) [
      .ret (.bin .add (.bin .fdiv (.var 0) (.int 2)) (.int 1))] [],
    .ite (.cmp .eq (.var 1) (.int 1)) [
      .ret (.bin .fdiv (.bin .add (.bin .mul (.int 2) (.var 0)) (.int 2)) (.int 3))] [],
    .ret (.var 0)]⟩
def dNeed (fv : Nat) : DDef :=
  ⟨"votes_needed", ["bench", "majority", "for_true"], 2, [
    .asg (.nm 2) (.call fv [(.var 0), (.var 1)]),
    .ret (.tup [(.var 2), (.bin .add (.bin .sub (.var 0) (.var 2)) (.int 1))])]⟩
def dFind (fv : Nat) : DDef :=
  ⟨"finding_by", ["majority", "votes"], 2, [
    .ret (.cmp .ge (.meth .count (.var 1) [(.str "1")]) (.call fv [(.bi .len [(.var 1)]), (.var 0)]))]⟩
def dTwo : DDef :=
  ⟨"_law_two", ["majority", "votes"], 2, [
    .ite (.cmp .eq (.var 0) (.int 0)) [
      .ret (.cmp .gt (.bin .mul (.int 2) (.meth .count (.var 1) [(.str "1")])) (.bi .len [(.var 1)]))] [],
    .ite (.cmp .eq (.var 0) (.int 1)) [
      .ret (.cmp .ge (.bin .mul (.int 3) (.meth .count (.var 1) [(.str "1")])) (.bin .mul (.int 2) (.bi .len [(.var 1)])))] [],
    .ret (.cmp .eq (.meth .count (.var 1) [(.str "0")]) (.int 0))]⟩
def dNeeded (ft : Nat) : DDef :=
  ⟨"_law_needed", ["bench", "majority", "ones", "k"], 2, [
    .asg (.nm 2) (.comp false (.var 3) (.nm 3) [("k", 3)] .rg [(.bin .add (.var 0) (.int 1))] (some (.tru (.call ft [(.var 1), (.bin .add (.bin .mul (.str "1") (.var 3)) (.bin .mul (.str "0") (.bin .sub (.var 0) (.var 3))))])))),
    .ret (.tup [(.idx (.var 2) (.int 0)), (.bin .sub (.bin .add (.var 0) (.int 1)) (.idx (.var 2) (.int 0)))])]⟩
def vft (m j : Int) : Int := if j = 0 then m / 2 + 1 else if j = 1 then (2 * m + 2) / 3 else m
def Maj (j : Int) : Prop := j = 0 ∨ j = 1 ∨ j = 2
theorem vft_spec {T : List DDef} {f n : Nat} (hf : T[f]? = some dVft) {m j : Int} (hj : Maj j) {S : Sto} {k : WK} (h : k (.int (vft m j)) S) : Run T (n + 1) f [.int m, .int j] S k := by
  refine run_of hf rfl ?_
  rcases hj with rfl | rfl | rfl
  · walk_at "w"
    refine ⟨rfl, ?_⟩
    walk_at "y"
    walk_at "w"
    exact ⟨⟨by decide, by decide⟩, h⟩
  · walk_at "w"
    refine ⟨rfl, ?_⟩
    walk_at "n"
    walk_at "w"
    refine ⟨rfl, ?_⟩
    walk_at "y"
    walk_at "w"
    refine ⟨.inl ⟨by decide, by decide⟩, ?_⟩
    exact ⟨⟨by decide, by decide⟩, h⟩
  · walk_at "w"
    refine ⟨rfl, ?_⟩
    walk_at "n"
    walk_at "w"
    refine ⟨rfl, ?_⟩
    walk_at "n"
    exact h
def two (j : Int) (bs : List Bool) : Bool := decide (vft bs.length j ≤ (bs.count true : Nat))
theorem eqI_dec (a b : Int) : eqD (.int a) (.int b) = decide (a = b) := by
  rw [Bool.eq_iff_iff, decide_eq_true_eq]
  show (a == b) = true ↔ _
  rw [beq_iff_eq]
theorem eqB (x y : Bool) : eqD (.bl x) (.bl y) = (x == y) := by cases x <;> cases y <;> rfl
theorem two_spec {T : List DDef} {f n : Nat} (hf : T[f]? = some dTwo) {j : Int} (hj : Maj j) {bs : List Bool} (hl : bs.length ≤ 1000) {S : Sto} {k : WK} (h : k (.bl (two j bs)) S) : Run T (n + 1) f [.int j, .str (txt bs)] S k := by
  refine run_of hf rfl ?_
  have bc := both_count bs
  have tl := txt_len bs
  unfold two at h
  rcases hj with rfl | rfl | rfl
  · walk_at "w"
    refine ⟨rfl, ?_⟩
    walk_at "y"
    walk_at "w"
    refine ⟨trivial, ?_⟩
    walk_at "w"
    rw [ones_count]
    refine ⟨.inl ⟨by decide, by decide⟩, ?_⟩
    walk_at "w"
    refine ⟨by show _ ≤ 16777216; omega, ?_⟩
    walk_at "w"
    rw [show vft bs.length 0 = (bs.length : Int) / 2 + 1 from rfl] at h
    show k (.bl (decide (((txt bs).length : Int) < 2 * ((bs.count true : Nat) : Int)))) S
    rw [show decide (((txt bs).length : Int) < 2 * ((bs.count true : Nat) : Int)) = decide ((bs.length : Int) / 2 + 1 ≤ (bs.count true : Nat)) from by
      rw [decide_eq_decide]
      omega]
    exact h
  · walk_at "w"
    refine ⟨rfl, ?_⟩
    walk_at "n"
    walk_at "w"
    refine ⟨rfl, ?_⟩
    walk_at "y"
    walk_at "w"
    refine ⟨trivial, ?_⟩
    walk_at "w"
    rw [ones_count]
    refine ⟨.inl ⟨by decide, by decide⟩, ?_⟩
    walk_at "w"
    refine ⟨by show _ ≤ 16777216; omega, ?_⟩
    walk_at "w"
    refine ⟨.inl ⟨by decide, by decide⟩, ?_⟩
    rw [show vft bs.length 1 = (2 * (bs.length : Int) + 2) / 3 from rfl] at h
    show k (.bl (decide (2 * ((txt bs).length : Int) ≤ 3 * ((bs.count true : Nat) : Int)))) S
    rw [show decide (2 * ((txt bs).length : Int) ≤ 3 * ((bs.count true : Nat) : Int)) = decide ((2 * (bs.length : Int) + 2) / 3 ≤ (bs.count true : Nat)) from by
      rw [decide_eq_decide]
      omega]
    exact h
  · walk_at "w"
    refine ⟨rfl, ?_⟩
    walk_at "n"
    walk_at "w"
    refine ⟨rfl, ?_⟩
    walk_at "n"
    walk_at "w"
    refine ⟨trivial, ?_⟩
    walk_at "w"
    rw [zeros_count]
    refine ⟨rfl, ?_⟩
    rw [show vft bs.length 2 = (bs.length : Int) from rfl] at h
    show k (.bl (eqD (.int ((bs.count false : Nat) : Int)) (.int 0))) S
    rw [eqI_dec, show decide (((bs.count false : Nat) : Int) = 0) = decide ((bs.length : Int) ≤ (bs.count true : Nat)) from by
      rw [decide_eq_decide]
      omega]
    exact h
theorem find_spec {T : List DDef} {f fv n : Nat} (hf : T[f]? = some (dFind fv)) (hv : T[fv]? = some dVft) {j : Int} (hj : Maj j) {bs : List Bool} (hl : bs.length ≤ 1000) {S : Sto} {k : WK} (h : k (.bl (two j bs)) S) : Run T (n + 2) f [.int j, .str (txt bs)] S k := by
  refine run_of hf rfl ?_
  have tl := txt_len bs
  walk_at "w"
  refine ⟨trivial, ?_⟩
  walk_at "w"
  rw [ones_count]
  refine ⟨by show _ ≤ 16777216; omega, ?_⟩
  walk_at "w"
  refine vft_spec hv hj ?_
  walk_at "w"
  rw [tl]
  exact h
theorem need_spec {T : List DDef} {f fv n : Nat} (hf : T[f]? = some (dNeed fv)) (hv : T[fv]? = some dVft) {b j : Int} (hj : Maj j) {S : Sto} {k : WK} (h : k (.tup [.int (vft b j), .int (b - vft b j + 1)]) S) : Run T (n + 2) f [.int b, .int j] S k := by
  refine run_of hf rfl ?_
  walk_at "w"
  refine vft_spec hv hj ?_
  walk_at "w"
  exact h
theorem vft_in {b j : Int} (hj : Maj j) (hb : 1 ≤ b) : 1 ≤ vft b j ∧ vft b j ≤ b := by
  unfold vft
  rcases hj with rfl | rfl | rfl
  · rw [if_pos rfl]
    omega
  · rw [if_neg (by decide), if_pos rfl]
    omega
  · rw [if_neg (by decide), if_neg (by decide)]
    omega
theorem first_ge {F : Nat} {n : Nat} (h : F < n) : atI (collect (isInt fun k => decide ((F : Int) ≤ k)) (fun x => x) (rangeD 0 n)) 0 = some (.int F) := by
  unfold collect rangeD
  rw [List.map_id', List.filter_map]
  have e : ((List.range n).filter ((isInt fun k => decide ((F : Int) ≤ k)) ∘ fun (i : Nat) => D.int (0 + (i : Int)))).head? = some F := by
    rw [List.head?_filter, List.find?_range_eq_some]
    refine ⟨?_, List.mem_range.mpr h, fun j hj => ?_⟩
    · show decide ((F : Int) ≤ 0 + (F : Int)) = true
      exact decide_eq_true (by omega)
    · show (!decide ((F : Int) ≤ 0 + (j : Int))) = true
      rw [decide_eq_false (by omega)]
      rfl
  generalize (List.range n).filter ((isInt fun k => decide ((F : Int) ≤ k)) ∘ fun (i : Nat) => D.int (0 + (i : Int))) = l at e
  cases l with
  | nil => cases e
  | cons a l =>
    cases e
    rw [List.map_cons, at_hd, Int.zero_add]
theorem needed_spec {T : List DDef} {f ft n : Nat} (hf : T[f]? = some (dNeeded ft)) (ht : T[ft]? = some dTwo) {b j : Int} (hj : Maj j) (b1 : 1 ≤ b) (b2 : b ≤ 100) {S : Sto} {k : WK} (h : k (.tup [.int (vft b j), .int (b + 1 - vft b j)]) S) : Run T (n + 2) f [.int b, .int j] S k := by
  refine run_of hf rfl ?_
  have hv := vft_in hj b1
  walk_at "w"
  refine ⟨⟨by omega, by omega⟩, ?_⟩
  refine ⟨by rw [rangeD_len]; show _ < 16777216; omega, ?_⟩
  refine comp_pick (isInt fun k => decide (((vft b j).toNat : Int) ≤ k)) (fun x => x) _ _ (fun y hy kk hk1 hk2 => ?_) ?_
  · obtain ⟨i, hi, rfl⟩ := range_mem hy
    rw [Int.zero_add] at hk1 hk2 ⊢
    have hk1 : decide (((vft b j).toNat : Int) ≤ i) = true → kk true (.int i) S := hk1
    have hk2 : decide (((vft b j).toNat : Int) ≤ i) = false → kk false .non S := hk2
    walk_at "w"
    refine ⟨⟨by omega, by omega, by show 1 ≤ 1000; decide⟩, ?_⟩
    walk_at "w"
    refine ⟨⟨by omega, by omega, by show 1 ≤ 1000; decide⟩, ?_⟩
    have e1 : strRep "1" (i : Int).toNat = txt (List.replicate i true) := by
      rw [Int.toNat_natCast]
      exact rep_one true i
    have e0 : strRep "0" (b - (i : Int)).toNat = txt (List.replicate (b.toNat - i) false) := by
      rw [show (b - (i : Int)).toNat = b.toNat - i by omega]
      exact rep_one false _
    walk_at "w"
    rw [e1, e0]
    refine ⟨by rw [txt_len, txt_len, List.length_replicate, List.length_replicate]; show _ ≤ 16777216; omega, ?_⟩
    rw [txt_app]
    walk_at "w"
    have ll : (List.replicate i true ++ List.replicate (b.toNat - i) false).length = b.toNat := by
      rw [List.length_append, List.length_replicate, List.length_replicate]
      omega
    refine two_spec ht hj (by rw [ll]; omega) ?_
    have et : two j (List.replicate i true ++ List.replicate (b.toNat - i) false) = decide (((vft b j).toNat : Int) ≤ i) := by
      unfold two
      rw [ll, List.count_append, List.count_replicate_self, List.count_replicate, if_neg (by decide), decide_eq_decide, show ((b.toNat : Nat) : Int) = b by omega]
      omega
    rw [et]
    walk_at "w"
    exact ⟨fun e => hk1 e, fun e => hk2 e⟩
  have ef := first_ge (F := (vft b j).toNat) (n := (b + 1).toNat) (by omega)
  rw [show (((vft b j).toNat : Nat) : Int) = vft b j by omega] at ef ⊢
  walk_at "w"
  rw [ef]
  walk_at "w"
  rw [ef]
  exact h
theorem sum_bits (bs : List Bool) : ((bs.map signS).map (·.length)).sum = bs.length := by
  induction bs with
  | nil => rfl
  | cons b bs ih =>
    rw [List.map_cons, List.map_cons, List.sum_cons, ih, List.length_cons]
    show 1 + _ = _
    omega

end Ov
-- OvRw
/-! Courts that review, benches, votes needed, levels. -/
namespace Ov
open PySem L2
local macro_rules | `(tactic| walk_at "w") => `(tactic| conv => whnf)
local macro_rules | `(tactic| walk_at "y") => `(tactic| refine ⟨fun _ => ?_, fun hb => y_end hb⟩)
local macro_rules | `(tactic| walk_at "n") => `(tactic| refine ⟨fun hb => n_end hb, fun _ => ?_⟩)

structure Ct where
  o : D
  b : Int
  fu : Int
  w : Bool
  le : Int
  da : Int
  v : Bool
  fe : Int
def ctD (c : Ct) : D := .tup [c.o, .int c.b, .int c.fu, .bl c.w, .int c.le, .int c.da, .bl c.v, .int c.fe]
structure Ct.Ok (c : Ct) : Prop where
  b1 : 1 ≤ c.b
  b2 : c.b ≤ 9
  f1 : 1 ≤ c.fu
  f2 : c.fu ≤ 9
structure Mt where
  ol : Bool
  mj : Int
  am : Int
  bd : Option (Int × Bool)
def bdD : Option (Int × Bool) → D
  | none => .non
  | some (l, f) => .tup [.int l, .bl f]
def mtD (m : Mt) : D := .tup [.bl m.ol, .int m.mj, .int m.am, bdD m.bd]
def rv (c : Ct) (ol : Bool) (am : Int) : Bool := decide (c.le ≤ am) && (ol || c.w)
def bench (c : Ct) (bd : Option (Int × Bool)) (lv : Int) (fi : Bool) : Option Int :=
  match bd with
  | none => some c.b
  | some (l, f) => if fi = f ∨ l < lv then some c.b else if lv = l then some c.fu else none
def vt (fi : Bool) (x mj : Int) : Int := if fi = true then vft x mj else x + 1 - vft x mj
def vAt (c : Ct) (m : Mt) (lv : Int) (fi : Bool) : Option Int := (bench c m.bd lv fi).map fun x => vt fi x m.mj
def dReviews : DDef :=
  ⟨"reviews", ["court", "of_law", "amount", "reviews_facts", "min_amount"], 3, [
    .asg (.tp [(.nm 3), (.nm 4)]) (.slc (.var 0) (some (.int 3)) (some (.int 5))),
    .ret (.andv (.cmp .le (.var 4) (.var 2)) (.one (.orv (.var 1) (.one (.var 3)))))]⟩
def dBench : DDef :=
  ⟨"bench_for", ["court", "matter", "level", "finding", "precedent", "bench", "full_bench", "bound_level", "bound_finding"], 4, [
    .asg (.tp [(.nm 5), (.nm 6)]) (.slc (.var 0) (some (.int 1)) (some (.int 3))),
    .asg (.nm 4) (.idx (.var 1) (.int 3)),
    .ite (.cmp .is (.var 4) .non) [
      .ret (.var 5)] [],
    .asg (.tp [(.nm 7), (.nm 8)]) (.var 4),
    .ite (.orv (.cmp .eq (.var 3) (.var 8)) (.one (.cmp .gt (.var 2) (.var 7)))) [
      .ret (.var 5)] [],
    .ite (.cmp .eq (.var 2) (.var 7)) [
      .ret (.var 6)] [],
    .ret .non]⟩
def dVotesAt (fb fn : Nat) : DDef :=
  ⟨"votes_at", ["court", "matter", "level", "finding", "bench", "for_true", "for_false"], 4, [
    .asg (.nm 4) (.call fb [(.var 0), (.var 1), (.var 2), (.var 3)]),
    .ite (.cmp .is (.var 4) .non) [
      .ret .non] [],
    .asg (.tp [(.nm 5), (.nm 6)]) (.call fn [(.var 4), (.idx (.var 1) (.int 1))]),
    .ret (.ite (.tru (.var 3)) (.var 5) (.var 6))]⟩
def dNeededAt (fv : Nat) : DDef :=
  ⟨"needed_at", ["court", "matter", "level"], 3, [
    .ret (.tup [(.call fv [(.var 0), (.var 1), (.var 2), (.bl true)]), (.call fv [(.var 0), (.var 1), (.var 2), (.bl false)])])]⟩
def dAllowed (ff fb : Nat) : DDef :=
  ⟨"is_allowed", ["court", "matter", "level", "votes", "finding"], 4, [
    .asg (.nm 4) (.call ff [(.idx (.var 1) (.int 1)), (.var 3)]),
    .ret (.cmp .eq (.bi .len [(.var 3)]) (.call fb [(.var 0), (.var 1), (.var 2), (.var 4)]))]⟩
def dReviewed : DDef :=
  ⟨"_law_reviewed", ["court", "matter"], 2, [
    .ret (.andv (.cmp .le (.idx (.var 0) (.int 4)) (.idx (.var 1) (.int 2))) (.one (.orv (.idx (.var 1) (.int 0)) (.one (.idx (.var 0) (.int 3))))))]⟩
def dLess : DDef :=
  ⟨"_law_less", ["first", "second"], 2, [
    .ret (.andv (.cmp .isnot (.var 0) .non) (.one (.orv (.cmp .is (.var 1) .non) (.one (.cmp .lt (.var 0) (.var 1))))))]⟩
def dAt (fn : Nat) : DDef :=
  ⟨"_law_at", ["court", "matter", "level", "needed", "k", "finding", "bench"], 3, [
    .asg (.nm 3) (.mls []),
    .forS (.nm 4) .rg [(.int 2)] [
      .asg (.nm 5) (.cmp .eq (.var 4) (.int 0)),
      .ite (.andv (.cmp .isnot (.idx (.var 1) (.int 3)) .non) (.andv (.cmp .ne (.idx (.idx (.var 1) (.int 3)) (.int 1)) (.var 5)) (.one (.cmp .lt (.var 2) (.idx (.idx (.var 1) (.int 3)) (.int 0)))))) [
        .expr (.meth .append (.var 3) [.non])] [
        .asg (.nm 6) (.idx (.var 0) (.int 1)),
        .ite (.andv (.cmp .isnot (.idx (.var 1) (.int 3)) .non) (.andv (.cmp .ne (.idx (.idx (.var 1) (.int 3)) (.int 1)) (.var 5)) (.one (.cmp .eq (.var 2) (.idx (.idx (.var 1) (.int 3)) (.int 0)))))) [
          .asg (.nm 6) (.idx (.var 0) (.int 2))] [],
        .expr (.meth .append (.var 3) [(.idx (.call fn [(.var 6), (.idx (.var 1) (.int 1))]) (.var 4))])]],
    .ret (.tup [(.idx (.var 3) (.int 0)), (.idx (.var 3) (.int 1))])]⟩
def dLet (ft : Nat) : DDef :=
  ⟨"_law_let", ["court", "matter", "level", "votes", "finding", "size"], 4, [
    .asg (.nm 4) (.call ft [(.idx (.var 1) (.int 1)), (.var 3)]),
    .asg (.nm 5) (.idx (.var 0) (.int 1)),
    .ite (.andv (.cmp .isnot (.idx (.var 1) (.int 3)) .non) (.one (.cmp .ne (.idx (.idx (.var 1) (.int 3)) (.int 1)) (.var 4)))) [
      .ite (.cmp .lt (.var 2) (.idx (.idx (.var 1) (.int 3)) (.int 0))) [
        .ret (.bl false)] [],
      .ite (.cmp .eq (.var 2) (.idx (.idx (.var 1) (.int 3)) (.int 0))) [
        .asg (.nm 5) (.idx (.var 0) (.int 2))] []] [],
    .ret (.cmp .eq (.bi .len [(.var 3)]) (.var 5))]⟩
section
variable {T : List DDef}
theorem reviews_spec {f n : Nat} (hf : T[f]? = some dReviews) (c : Ct) (ol : Bool) (am : Int) {S : Sto} {k : WK} (h : k (.bl (rv c ol am)) S) : Run T (n + 1) f [ctD c, .bl ol, .int am] S k := by
  refine run_of hf rfl ?_
  rcases c with ⟨o, b, fu, w, le, da, v, fe⟩
  have h : k (.bl (decide (le ≤ am) && (ol || w))) S := h
  walk_at "w"
  refine ⟨rfl, ?_⟩
  walk_at "w"
  cases e : ordW COp.le le am with
  | true =>
    rw [show decide (le ≤ am) = true from e, Bool.true_and] at h
    cases ol
    · walk_at "w"
      exact h
    · walk_at "w"
      exact h
  | false =>
    rw [show decide (le ≤ am) = false from e, Bool.false_and] at h
    exact h
theorem reviewed_spec {f n : Nat} (hf : T[f]? = some dReviewed) (c : Ct) (m : Mt) {S : Sto} {k : WK} (h : k (.bl (rv c m.ol m.am)) S) : Run T (n + 1) f [ctD c, mtD m] S k := by
  refine run_of hf rfl ?_
  rcases c with ⟨o, b, fu, w, le, da, v, fe⟩
  rcases m with ⟨ol, mj, am, bd⟩
  have h : k (.bl (decide (le ≤ am) && (ol || w))) S := h
  walk_at "w"
  cases e : ordW COp.le le am with
  | true =>
    rw [show decide (le ≤ am) = true from e, Bool.true_and] at h
    cases ol
    · walk_at "w"
      exact h
    · walk_at "w"
      exact h
  | false =>
    rw [show decide (le ≤ am) = false from e, Bool.false_and] at h
    exact h
theorem bench_spec {f n : Nat} (hf : T[f]? = some dBench) (c : Ct) (m : Mt) (lv : Int) (fi : Bool) {S : Sto} {k : WK} (h : k (opD (bench c m.bd lv fi)) S) : Run T (n + 1) f [ctD c, mtD m, .int lv, .bl fi] S k := by
  refine run_of hf rfl ?_
  rcases c with ⟨o, b, fu, w, le, da, v, fe⟩
  rcases m with ⟨ol, mj, am, bd⟩
  cases bd with
  | none =>
    walk_at "w"
    refine ⟨rfl, ?_⟩
    walk_at "w"
    walk_at "y"
    exact h
  | some p =>
    obtain ⟨l, f⟩ := p
    have h : k (opD (if fi = f ∨ l < lv then some b else if lv = l then some fu else none)) S := h
    walk_at "w"
    refine ⟨rfl, ?_⟩
    walk_at "w"
    walk_at "n"
    walk_at "w"
    refine ⟨rfl, ?_⟩
    walk_at "w"
    refine ⟨rfl, ?_⟩
    refine ⟨fun e => ?_, fun e => ?_⟩
    · have e : (fi == f) = true := (eqB fi f).symm.trans e
      rw [if_pos (.inl (eq_of_beq e))] at h
      walk_at "w"
      walk_at "y"
      exact h
    · have e : (fi == f) = false := (eqB fi f).symm.trans e
      have e : fi ≠ f := fun q => by rw [q] at e; cases f <;> cases e
      walk_at "w"
      refine ⟨fun g => ?_, fun g => ?_⟩
      · rw [if_pos (.inr (of_decide_eq_true g))] at h
        exact h
      · rw [if_neg (fun q => q.elim e (of_decide_eq_false g))] at h
        walk_at "w"
        refine ⟨rfl, ?_⟩
        refine ⟨fun g2 => ?_, fun g2 => ?_⟩
        · rw [if_pos (eqI_t g2)] at h
          exact h
        · rw [if_neg (eqI_f g2)] at h
          exact h
theorem bench_in {c : Ct} (hc : c.Ok) {bd : Option (Int × Bool)} {lv : Int} {fi : Bool} {x : Int} (h : bench c bd lv fi = some x) : 1 ≤ x ∧ x ≤ 9 := by
  obtain ⟨a, b, d, e⟩ := hc
  unfold bench at h
  split at h
  · cases h
    exact ⟨a, b⟩
  · split at h
    · cases h
      exact ⟨a, b⟩
    · split at h
      · cases h
        exact ⟨d, e⟩
      · cases h
theorem votesAt_spec {f fb fn fv n : Nat} (hf : T[f]? = some (dVotesAt fb fn)) (hb : T[fb]? = some dBench) (hn : T[fn]? = some (dNeed fv)) (hv : T[fv]? = some dVft) (c : Ct) (m : Mt) (hj : Maj m.mj) (lv : Int) (fi : Bool) {S : Sto} {k : WK} (h : k (opD (vAt c m lv fi)) S) : Run T (n + 3) f [ctD c, mtD m, .int lv, .bl fi] S k := by
  refine run_of hf rfl ?_
  walk_at "w"
  refine bench_spec hb c m lv fi ?_
  unfold vAt at h
  cases e : bench c m.bd lv fi with
  | none =>
    rw [e] at h
    walk_at "w"
    walk_at "y"
    exact h
  | some x =>
    rw [e] at h
    have h : k (.int (vt fi x m.mj)) S := h
    walk_at "w"
    walk_at "n"
    walk_at "w"
    refine need_spec hn hv hj ?_
    cases fi with
    | true =>
      walk_at "w"
      refine ⟨rfl, ?_⟩
      walk_at "w"
      walk_at "y"
      exact h
    | false =>
      walk_at "w"
      refine ⟨rfl, ?_⟩
      walk_at "w"
      walk_at "n"
      have q : k (.int (x + 1 - vft x m.mj)) S := h
      rw [show x + 1 - vft x m.mj = x - vft x m.mj + 1 by omega] at q
      exact q
theorem neededAt_spec {f fa fb fn fv n : Nat} (hf : T[f]? = some (dNeededAt fa)) (ha : T[fa]? = some (dVotesAt fb fn)) (hb : T[fb]? = some dBench) (hn : T[fn]? = some (dNeed fv)) (hv : T[fv]? = some dVft) (c : Ct) (m : Mt) (hj : Maj m.mj) (lv : Int) {S : Sto} {k : WK} (h : k (.tup [opD (vAt c m lv true), opD (vAt c m lv false)]) S) : Run T (n + 4) f [ctD c, mtD m, .int lv] S k := by
  refine run_of hf rfl ?_
  walk_at "w"
  refine votesAt_spec ha hb hn hv c m hj lv true ?_
  walk_at "w"
  refine votesAt_spec ha hb hn hv c m hj lv false ?_
  walk_at "w"
  exact h
def letB (c : Ct) (m : Mt) (lv : Int) (bs : List Bool) : Bool := decide (bench c m.bd lv (two m.mj bs) = some (bs.length : Int))
theorem allowed_spec {f ff fb fv n : Nat} (hf : T[f]? = some (dAllowed ff fb)) (hff : T[ff]? = some (dFind fv)) (hv : T[fv]? = some dVft) (hb : T[fb]? = some dBench) (c : Ct) (m : Mt) (hj : Maj m.mj) (lv : Int) {bs : List Bool} (hl : bs.length ≤ 1000) {S : Sto} {k : WK} (h : k (.bl (letB c m lv bs)) S) : Run T (n + 3) f [ctD c, mtD m, .int lv, .str (txt bs)] S k := by
  refine run_of hf rfl ?_
  walk_at "w"
  refine find_spec hff hv hj hl ?_
  have tl := txt_len bs
  walk_at "w"
  refine ⟨by show _ ≤ 16777216; omega, ?_⟩
  walk_at "w"
  refine bench_spec hb c m lv _ ?_
  unfold letB at h
  cases e : bench c m.bd lv (two m.mj bs) with
  | none =>
    rw [e] at h
    walk_at "w"
    exact ⟨rfl, h⟩
  | some x =>
    rw [e] at h
    walk_at "w"
    refine ⟨rfl, ?_⟩
    have q : decide (some x = some (bs.length : Int)) = eqD (.int ((txt bs).length : Int)) (.int x) := by
      rw [eqI_dec, tl, decide_eq_decide, Option.some.injEq]
      exact ⟨Eq.symm, Eq.symm⟩
    rw [q] at h
    exact h
theorem let_spec {f ft n : Nat} (hf : T[f]? = some (dLet ft)) (ht : T[ft]? = some dTwo) (c : Ct) (m : Mt) (hj : Maj m.mj) (lv : Int) {bs : List Bool} (hl : bs.length ≤ 1000) {S : Sto} {k : WK} (h : k (.bl (letB c m lv bs)) S) : Run T (n + 2) f [ctD c, mtD m, .int lv, .str (txt bs)] S k := by
  refine run_of hf rfl ?_
  rcases c with ⟨o, b, fu, w, le, da, v, fe⟩
  rcases m with ⟨ol, mj, am, bd⟩
  walk_at "w"
  refine two_spec ht hj hl ?_
  have tl := txt_len bs
  have fin : ∀ x : Int, eqD (.int ((txt bs).length : Int)) (.int x) = decide (some x = some (bs.length : Int)) := fun x => by
    rw [eqI_dec, tl, decide_eq_decide, Option.some.injEq]
    exact ⟨Eq.symm, Eq.symm⟩
  unfold letB bench at h
  cases bd with
  | none =>
    walk_at "w"
    walk_at "n"
    walk_at "w"
    walk_at "n"
    walk_at "w"
    refine ⟨by show _ ≤ 16777216; omega, ?_⟩
    walk_at "w"
    refine ⟨rfl, ?_⟩
    have q : k (.bl (decide (some b = some (bs.length : Int)))) S := h
    rw [← fin] at q
    exact q
  | some p =>
    obtain ⟨l, g⟩ := p
    have h : k (.bl (decide ((if two mj bs = g ∨ l < lv then some b else if lv = l then some fu else none) = some (bs.length : Int)))) S := h
    generalize two mj bs = z at h ⊢
    walk_at "w"
    walk_at "y"
    walk_at "w"
    refine ⟨rfl, ?_⟩
    refine ⟨fun e => ?_, fun e => ?_⟩
    · have e : (!eqD (.bl g) (.bl z)) = true := e
      rw [eqB] at e
      have e : z ≠ g := fun q => by rw [q] at e; cases g <;> cases e
      walk_at "w"
      refine ⟨fun g1 => ?_, fun g1 => ?_⟩
      · have g1 : lv < l := of_decide_eq_true g1
        rw [if_neg (fun q => q.elim e (by omega)), if_neg (by omega)] at h
        exact h
      · have g1 : ¬ lv < l := of_decide_eq_false g1
        walk_at "w"
        refine ⟨rfl, ?_⟩
        refine ⟨fun g2 => ?_, fun g2 => ?_⟩
        · have g2 : lv = l := eqI_t g2
          rw [if_neg (fun q => q.elim e (by omega)), if_pos g2] at h
          walk_at "w"
          refine ⟨by show _ ≤ 16777216; omega, ?_⟩
          walk_at "w"
          refine ⟨rfl, ?_⟩
          rw [← fin] at h
          exact h
        · have g2 : lv ≠ l := eqI_f g2
          rw [if_pos (.inr (by omega))] at h
          walk_at "w"
          refine ⟨by show _ ≤ 16777216; omega, ?_⟩
          walk_at "w"
          refine ⟨rfl, ?_⟩
          rw [← fin] at h
          exact h
    · have e : (!eqD (.bl g) (.bl z)) = false := e
      rw [eqB] at e
      have e : z = g := by cases z <;> cases g <;> first | rfl | cases e
      rw [if_pos (.inl e)] at h
      walk_at "w"
      refine ⟨by show _ ≤ 16777216; omega, ?_⟩
      walk_at "w"
      refine ⟨rfl, ?_⟩
      rw [← fin] at h
      exact h
def lessB : Option Int → Option Int → Bool
  | none, _ => false
  | some _, none => true
  | some a, some b => decide (a < b)
theorem less_spec {f n : Nat} (hf : T[f]? = some dLess) (a b : Option Int) {S : Sto} {k : WK} (h : k (.bl (lessB a b)) S) : Run T (n + 1) f [opD a, opD b] S k := by
  refine run_of hf rfl ?_
  cases a with
  | none =>
    walk_at "w"
    exact h
  | some a =>
    cases b with
    | none =>
      walk_at "w"
      exact h
    | some b =>
      walk_at "w"
      exact h
end
end Ov
-- OvRp
/-! Levels, review paths. -/
namespace Ov
open PySem L2
local macro_rules | `(tactic| walk_at "w") => `(tactic| conv => whnf)
local macro_rules | `(tactic| walk_at "y") => `(tactic| refine ⟨fun _ => ?_, fun hb => y_end hb⟩)
local macro_rules | `(tactic| walk_at "n") => `(tactic| refine ⟨fun hb => n_end hb, fun _ => ?_⟩)

/-- the least of those that are -/
def Mn (os : List (Option Int)) : Option Int → Prop
  | none => ∀ x ∈ os, x = none
  | some v => some v ∈ os ∧ ∀ w, some w ∈ os → v ≤ w
def stpO (a x : Option Int) : Option Int := if lessB x a = true then x else a
theorem Mn.nil : Mn [] none := fun x h => nomatch h
theorem Mn.step {os : List (Option Int)} {a : Option Int} (h : Mn os a) (x : Option Int) : Mn (os ++ [x]) (stpO a x) := by
  cases a with
  | none =>
    cases x with
    | none =>
      intro y hy
      rcases List.mem_append.mp hy with hy | hy
      · exact h y hy
      · exact List.mem_singleton.mp hy
    | some b =>
      refine ⟨List.mem_append_right _ (List.mem_singleton.mpr rfl), fun w hw => ?_⟩
      rcases List.mem_append.mp hw with hw | hw
      · cases h _ hw
      · cases List.mem_singleton.mp hw
        exact Int.le_refl _
  | some a =>
    obtain ⟨h1, h2⟩ := h
    cases x with
    | none =>
      refine ⟨List.mem_append_left _ h1, fun w hw => ?_⟩
      rcases List.mem_append.mp hw with hw | hw
      · exact h2 w hw
      · cases List.mem_singleton.mp hw
    | some b =>
      have e : stpO (some a) (some b) = if b < a then some b else some a := by
        show (if decide (b < a) = true then _ else _) = _
        by_cases g : b < a
        · rw [if_pos (decide_eq_true g), if_pos g]
        · rw [if_neg (by rw [decide_eq_true_eq]; exact g), if_neg g]
      rw [e]
      by_cases g : b < a
      · rw [if_pos g]
        refine ⟨List.mem_append_right _ (List.mem_singleton.mpr rfl), fun w hw => ?_⟩
        rcases List.mem_append.mp hw with hw | hw
        · have := h2 w hw
          omega
        · cases List.mem_singleton.mp hw
          exact Int.le_refl _
      · rw [if_neg g]
        refine ⟨List.mem_append_left _ h1, fun w hw => ?_⟩
        rcases List.mem_append.mp hw with hw | hw
        · exact h2 w hw
        · cases List.mem_singleton.mp hw
          omega
theorem Mn.min {os : List (Option Int)} {r : Option Int} (h : Mn os r) : (os.filterMap id).min? = r := by
  cases r with
  | none =>
    rw [show os.filterMap id = [] from List.eq_nil_iff_forall_not_mem.mpr fun a ha => by
      obtain ⟨x, hx, e⟩ := List.mem_filterMap.mp ha
      rw [h x hx] at e
      cases e]
    rfl
  | some v =>
    refine List.min?_eq_some_iff.mpr ⟨List.mem_filterMap.mpr ⟨some v, h.1, rfl⟩, fun w hw => ?_⟩
    obtain ⟨x, hx, e⟩ := List.mem_filterMap.mp hw
    cases e
    exact h.2 w hx
theorem some_map : ∀ os : List (Option Int), (os.filter Option.isSome).map opD = (os.filterMap id).map D.int
  | [] => rfl
  | none :: os => some_map os
  | some a :: os => by
    show D.int a :: _ = D.int a :: _
    rw [some_map os]
def dLeastOf : DDef :=
  ⟨"least_of", ["costs", "cost"], 1, [
    .ret (.minN (.comp false (.var 1) (.nm 1) [("cost", 1)] .sq [(.var 0)] (some (.cmp .isnot (.var 1) .non))))]⟩
theorem least_of_spec {T : List DDef} {f n : Nat} (hf : T[f]? = some dLeastOf) {os : List (Option Int)} {r : Option Int} (hr : Mn os r) (hl : os.length ≤ 1000) {S : Sto} {k : WK} (h : k (opD r) S) : Run T (n + 1) f [.ro (os.map opD)] S k := by
  refine run_of hf rfl ?_
  walk_at "w"
  refine ⟨by rw [List.length_map]; show _ < 16777216; omega, ?_⟩
  refine comp_map opD Option.isSome opD os _ (fun x hx kk hk1 hk2 => ?_) ?_
  · cases x with
    | none =>
      walk_at "w"
      walk_at "n"
      exact hk2 rfl
    | some a =>
      walk_at "w"
      walk_at "y"
      exact hk1 rfl
  · rw [some_map]
    refine minN_ints ?_
    rw [hr.min]
    exact h

/-- the levels from lv on, m of them -/
def lvD (lv m : Nat) : List D := (List.range m).map fun (i : Nat) => D.int ((lv + i : Nat) : Int)
theorem lvD_len (lv m : Nat) : (lvD lv m).length = m := by simp [lvD]
theorem lvD_succ (lv m : Nat) : lvD lv (m + 1) = lvD lv m ++ [.int ((lv + m : Nat) : Int)] := by
  unfold lvD
  rw [List.range_succ, List.map_append]
  rfl
theorem lvD_at {lv m i : Nat} {x : D} (h : (lvD lv m)[i]? = some x) : i < m ∧ x = .int ((lv + i : Nat) : Int) := by
  have hi := (List.getElem?_eq_some_iff.mp h).1
  rw [lvD_len] at hi
  unfold lvD at h
  rw [List.getElem?_map, List.getElem?_range hi] at h
  cases h
  exact ⟨hi, rfl⟩
/-- courts, a chain of them -/
structure Ch (cs : List D) (l : List Nat) (ct : Nat → Ct) : Prop where
  at_ : ∀ i q, l[i]? = some q → cs[q]? = some (ctD (ct i))
  ok : ∀ i, i < l.length → (ct i).Ok
  short : l.length ≤ 9
def okL (l : List Nat) (ct : Nat → Ct) (m : Mt) (top : Int) (i : Nat) : Bool := decide (i < l.length) && (decide ((i : Int) ≤ top) && rv (ct i) m.ol m.am)
def LvN (ok : Nat → Bool) (lv m : Nat) : Prop := (∀ i, i < m → ok (lv + i) = true) ∧ ok (lv + m) = false
theorem LvN.ex {ok : Nat → Bool} {N : Nat} (h : ∀ i, N ≤ i → ok i = false) (lv : Nat) : ∃ m, m ≤ N ∧ LvN ok lv m := by
  have : ∀ d m, (∀ i, i < m → ok (lv + i) = true) → N ≤ lv + m + d → m ≤ N → ∃ m', m' ≤ N ∧ LvN ok lv m' := by
    intro d
    induction d with
    | zero => exact fun m h1 h2 h3 => ⟨m, h3, h1, h _ (by omega)⟩
    | succ d ih =>
      intro m h1 h2 h3
      cases e : ok (lv + m) with
      | false => exact ⟨m, h3, h1, e⟩
      | true =>
        have hN : lv + m < N := Nat.lt_of_not_le fun g => by rw [h _ g] at e; cases e
        refine ih (m + 1) (fun i hi => ?_) (by omega) (by omega)
        by_cases g : i = m
        · rw [g]
          exact e
        · exact h1 i (by omega)
  exact this N 0 (fun i hi => absurd hi (Nat.not_lt_zero i)) (by omega) (Nat.zero_le _)
def dPathLevels (fr : Nat) : DDef :=
  ⟨"path_levels", ["courts", "chain", "matter", "level", "top", "levels", "of_law", "_", "amount"], 5, [
    .asg (.tp [(.nm 6), (.nm 7), (.nm 8), (.nm 7)]) (.var 2),
    .asg (.nm 5) (.mls []),
    .whil (.andv (.cmp .lt (.var 3) (.bi .len [(.var 1)])) (.andv (.cmp .le (.var 3) (.var 4)) (.one (.tru (.call fr [(.idx (.var 0) (.idx (.var 1) (.var 3))), (.var 6), (.var 8)]))))) [
      .expr (.meth .append (.var 5) [(.var 3)]),
      .aug 3 .add (.int 1)],
    .ret (.bi .tuple [(.var 5)])]⟩
def dLevels (fr : Nat) : DDef :=
  ⟨"_law_levels", ["courts", "chain", "matter", "level", "top", "levels", "k"], 5, [
    .asg (.nm 5) (.mls []),
    .forS (.nm 6) .rg [(.int 10)] [
      .ite (.orv (.cmp .gt (.var 3) (.var 4)) (.orv (.cmp .ge (.var 3) (.bi .len [(.var 1)])) (.one (.notv (.tru (.call fr [(.idx (.var 0) (.idx (.var 1) (.var 3))), (.var 2)])))))) [
        .brk] [],
      .expr (.meth .append (.var 5) [(.var 3)]),
      .asg (.nm 3) (.bin .add (.var 3) (.int 1))],
    .ret (.bi .tuple [(.var 5)])]⟩
section
variable {T : List DDef} {cs : List D} {l : List Nat} {ct : Nat → Ct} (c : Ch cs l ct)
include c
theorem Ch.get {i : Nat} (hi : i < l.length) : (natD l)[i]? = some (.int (l[i] : Nat)) ∧ cs[(l[i] : Nat)]? = some (ctD (ct i)) := by
  refine ⟨?_, c.at_ i _ (List.getElem?_eq_getElem hi)⟩
  unfold natD
  rw [List.getElem?_map, List.getElem?_eq_getElem hi]
  rfl
theorem pathLevels_spec {f fr n : Nat} (hf : T[f]? = some (dPathLevels fr)) (hr : T[fr]? = some dReviews) (m : Mt) (lv : Nat) (top : Int) {mm : Nat} (hm : LvN (okL l ct m top) lv mm) (hmm : mm ≤ 9) {S : Sto} {k : WK}
    (h : ∀ S', Keep S S' → k (.tup (lvD lv mm)) S') : Run T (n + 2) f [.tup cs, .tup (natD l), mtD m, .int lv, .int top] S k := by
  refine run_of hf rfl ?_
  rcases m with ⟨ol, mj, am, bd⟩
  have hs := c.short
  walk_at "w"
  refine ⟨rfl, ?_⟩
  walk_at "w"
  refine ⟨fun μ σ S1 => ∃ i, i ≤ mm ∧ μ = mm - i ∧ σ = [some (.tup cs), some (.tup (natD l)), some (mtD ⟨ol, mj, am, bd⟩), some (.int ((lv + i : Nat) : Int)), some (.int top), some (.ptr S.length), some (.bl ol), some (bdD bd), some (.int am)] ∧ S1[S.length]? = some (lvD lv i) ∧ Keep S S1 ∧ S1.length = S.length + 1,
    ⟨mm, 0, Nat.zero_le _, rfl, rfl, List.getElem?_concat_length .., Keep.app _ _, by simp⟩, ?_⟩
  rintro μ σ S1 ⟨i, hi, rfl, rfl, e1, e2, e3⟩
  have stop : okL l ct ⟨ol, mj, am, bd⟩ top (lv + i) = false → i = mm := fun e => by
    by_cases g : i = mm
    · exact g
    · rw [hm.1 i (by omega)] at e
      cases e
  have go : okL l ct ⟨ol, mj, am, bd⟩ top (lv + i) = true → i < mm := fun e => by
    by_cases g : i = mm
    · rw [g, hm.2] at e
      cases e
    · omega
  generalize eq : lv + i = q at stop go
  walk_at "w"
  refine ⟨fun g1 => ?_, fun g1 => ?_⟩
  · have g1 : (q : Int) < (natD l).length := of_decide_eq_true g1
    rw [natD_len] at g1
    have g1 : q < l.length := by omega
    obtain ⟨a1, a2⟩ := c.get g1
    walk_at "w"
    refine ⟨fun g2 => ?_, fun g2 => ?_⟩
    · have g2 : (q : Int) ≤ top := of_decide_eq_true g2
      walk_at "w"
      rw [at_n a1]
      walk_at "w"
      rw [at_n a2]
      walk_at "w"
      refine reviews_spec hr (ct q) ol am ?_
      have ev : okL l ct ⟨ol, mj, am, bd⟩ top q = rv (ct q) ol am := by
        unfold okL
        rw [decide_eq_true g1, decide_eq_true g2, Bool.true_and, Bool.true_and]
      rw [ev] at stop go
      walk_at "w"
      refine ⟨fun g3 => ?_, fun g3 => ?_⟩
      · have hi2 := go g3
        walk_at "w"
        refine ⟨trivial, ?_⟩
        walk_at "w"
        rw [e1]
        refine ⟨by rw [lvD_len]; show _ < 16777216; omega, ?_⟩
        walk_at "w"
        refine ⟨mm - (i + 1), by omega, i + 1, by omega, rfl, ?_, ?_, e2.own (Nat.le_refl _) _, by rw [List.length_set]; exact e3⟩
        · rw [← eq]
          rfl
        · rw [List.getElem?_set_self (by omega), lvD_succ, eq]
      · have hi2 := stop g3
        subst hi2
        walk_at "w"
        rw [show seqOf S1 (.ptr S.length) = _ from e1]
        exact h S1 e2
    · have g2 : ¬ (q : Int) ≤ top := of_decide_eq_false g2
      have hi2 := stop (by unfold okL; rw [decide_eq_false g2, Bool.false_and, Bool.and_false])
      subst hi2
      walk_at "w"
      walk_at "n"
      walk_at "w"
      rw [show seqOf S1 (.ptr S.length) = _ from e1]
      exact h S1 e2
  · have g1 : ¬ (q : Int) < (natD l).length := of_decide_eq_false g1
    rw [natD_len] at g1
    have hi2 := stop (by unfold okL; rw [decide_eq_false (by omega), Bool.false_and])
    subst hi2
    walk_at "w"
    walk_at "n"
    walk_at "w"
    rw [show seqOf S1 (.ptr S.length) = _ from e1]
    exact h S1 e2
theorem levels_spec {f fr n : Nat} (hf : T[f]? = some (dLevels fr)) (hr : T[fr]? = some dReviewed) (m : Mt) (lv : Nat) (top : Int) {mm : Nat} (hm : LvN (okL l ct m top) lv mm) (hmm : mm ≤ 9) {S : Sto} {k : WK}
    (h : ∀ S', Keep S S' → k (.tup (lvD lv mm)) S') : Run T (n + 2) f [.tup cs, .tup (natD l), mtD m, .int lv, .int top] S k := by
  refine run_of hf rfl ?_
  have hs := c.short
  walk_at "w"
  refine ⟨⟨by decide, by decide⟩, trivial, ?_⟩
  refine for_inv (Run_mono T (n + 1)) (fun i σ S1 => ∃ v6, i ≤ mm ∧ σ = [some (.tup cs), some (.tup (natD l)), some (mtD m), some (.int ((lv + i : Nat) : Int)), some (.int top), some (.ptr S.length), v6] ∧ S1[S.length]? = some (lvD lv i) ∧ Keep S S1 ∧ S1.length = S.length + 1)
    ⟨none, Nat.zero_le _, rfl, List.getElem?_concat_length .., Keep.app _ _, by simp⟩ ?_ ?_
  · rintro i x σ S1 hx ⟨v6, hi, rfl, e1, e2, e3⟩
    obtain ⟨hi10, rfl⟩ := range_at hx
    rw [Int.zero_add]
    have stop : okL l ct m top (lv + i) = false → i = mm := fun e => by
      by_cases g : i = mm
      · exact g
      · rw [hm.1 i (by omega)] at e
        cases e
    have go : okL l ct m top (lv + i) = true → i < mm := fun e => by
      by_cases g : i = mm
      · rw [g, hm.2] at e
        cases e
      · omega
    generalize eq : lv + i = q at stop go
    have fin : ∀ v6 : Option D, i = mm → wSs (Run T (n + 1)) [.ret (.bi .tuple [(.var 5)])] [some (.tup cs), some (.tup (natD l)), some (mtD m), some (.int (q : Int)), some (.int top), some (.ptr S.length), v6] S1 { nx := fun _ S1 => k .non S1, rt := k } := by
      rintro v6 rfl
      walk_at "w"
      rw [show seqOf S1 (.ptr S.length) = _ from e1]
      exact h S1 e2
    walk_at "w"
    refine ⟨fun g2 => ?_, fun g2 => ?_⟩
    · have g2 : top < (q : Int) := of_decide_eq_true g2
      have hi2 := stop (by unfold okL; rw [decide_eq_false (show ¬ (q : Int) ≤ top by omega), Bool.false_and, Bool.and_false])
      walk_at "w"
      walk_at "y"
      exact fin (some (.int i)) hi2
    · have g2 : ¬ top < (q : Int) := of_decide_eq_false g2
      walk_at "w"
      refine ⟨fun g1 => ?_, fun g1 => ?_⟩
      · have g1 : ((natD l).length : Int) ≤ q := of_decide_eq_true g1
        rw [natD_len] at g1
        have hi2 := stop (by unfold okL; rw [decide_eq_false (by omega), Bool.false_and])
        walk_at "w"
        walk_at "y"
        exact fin (some (.int i)) hi2
      · have g1 : ¬ ((natD l).length : Int) ≤ q := of_decide_eq_false g1
        rw [natD_len] at g1
        have g1 : q < l.length := by omega
        obtain ⟨a1, a2⟩ := c.get g1
        walk_at "w"
        rw [at_n a1]
        walk_at "w"
        rw [at_n a2]
        walk_at "w"
        refine reviewed_spec hr (ct q) m ?_
        have ev : okL l ct m top q = rv (ct q) m.ol m.am := by
          unfold okL
          rw [decide_eq_true g1, decide_eq_true (show (q : Int) ≤ top by omega), Bool.true_and, Bool.true_and]
        rw [ev] at stop go
        walk_at "w"
        refine ⟨fun g3 => ?_, fun g3 => ?_⟩
        · have g3 : (!rv (ct q) m.ol m.am) = true := g3
          rw [Bool.not_eq_true'] at g3
          walk_at "w"
          exact fin (some (.int i)) (stop g3)
        · have g3 : (!rv (ct q) m.ol m.am) = false := g3
          rw [Bool.not_eq_false'] at g3
          have hi2 := go g3
          walk_at "w"
          refine ⟨trivial, ?_⟩
          walk_at "w"
          rw [e1]
          refine ⟨by rw [lvD_len]; show _ < 16777216; omega, ?_⟩
          walk_at "w"
          refine ⟨some (.int i), by omega, ?_, ?_, e2.own (Nat.le_refl _) _, by rw [List.length_set]; exact e3⟩
          · rw [show lv + (i + 1) = q + 1 by omega]
            rfl
          · rw [List.getElem?_set_self (by omega), lvD_succ, eq]
  · rintro σ S1 ⟨v6, hi, rfl, e1, e2, e3⟩
    rw [rangeD_len] at hi
    have hi : 10 ≤ mm := hi
    omega
end
def ndD (c : Ct) (m : Mt) (lv : Int) : D := .tup [opD (vAt c m lv true), opD (vAt c m lv false)]
def dReviewPath (fp fn fl : Nat) : DDef :=
  ⟨"review_path", ["courts", "chain", "matter", "level", "top", "levels", "needed", "for_true", "for_false", "one", "pair"], 5, [
    .asg (.nm 5) (.call fp [(.var 0), (.var 1), (.var 2), (.var 3), (.var 4)]),
    .asg (.nm 6) (.comp false (.call fn [(.idx (.var 0) (.idx (.var 1) (.var 9))), (.var 2), (.var 9)]) (.nm 9) [("one", 9)] .sq [(.var 5)] none),
    .asg (.nm 7) (.call fl [(.comp false (.idx (.var 10) (.int 0)) (.nm 10) [("pair", 10)] .sq [(.var 6)] none)]),
    .asg (.nm 8) (.call fl [(.comp false (.idx (.var 10) (.int 1)) (.nm 10) [("pair", 10)] .sq [(.var 6)] none)]),
    .ret (.tup [(.var 5), (.var 7), (.var 8)])]⟩
def dFewest (fa fl : Nat) : DDef :=
  ⟨"_law_fewest", ["courts", "chain", "matter", "levels", "least", "level", "needed", "k"], 4, [
    .asg (.nm 4) (.mls [.non, .non]),
    .forS (.nm 5) .sq [(.var 3)] [
      .asg (.nm 6) (.call fa [(.idx (.var 0) (.idx (.var 1) (.var 5))), (.var 2), (.var 5)]),
      .forS (.nm 7) .rg [(.int 2)] [
        .ite (.tru (.call fl [(.idx (.var 6) (.var 7)), (.idx (.var 4) (.var 7))])) [
          .sub (.var 4) (.var 7) (.idx (.var 6) (.var 7))] []]],
    .ret (.tup [(.var 3), (.idx (.var 4) (.int 0)), (.idx (.var 4) (.int 1))])]⟩
theorem at_spec {T : List DDef} {f fn ft n : Nat} (hf : T[f]? = some (dAt fn)) (hn : T[fn]? = some (dNeeded ft)) (ht : T[ft]? = some dTwo) {c : Ct} (hc : c.Ok) (m : Mt) (hj : Maj m.mj) (lv : Int) {S : Sto} {k : WK} (h : ∀ S', Keep S S' → k (ndD c m lv) S') : Run T (n + 3) f [ctD c, mtD m, .int lv] S k := by
  refine run_of hf rfl ?_
  have step : ∀ (fi : Bool) (S1 : Sto) (pre : List D) (v4 v5 v6 : Option D) (E : DEnds), S1[S.length]? = some pre → pre.length ≤ 2 → (∀ v5 v6, E.nx [some (ctD c), some (mtD m), some (.int lv), some (.ptr S.length), some (.int (if fi = true then 0 else 1)), v5, v6] (S1.set S.length (pre ++ [opD (vAt c m lv fi)]))) →
      wSs (Run T (n + 2)) (match (dAt fn).body with
        | [_, .forS _ _ _ b, _] => b
        | _ => []) [some (ctD c), some (mtD m), some (.int lv), some (.ptr S.length), some (.int (if fi = true then 0 else 1)), v5, v6] S1 E := by
    intro fi S1 pre v4 v5 v6 E e1 hp hE
    have val : ∀ (x : Int) (v5 : Option D), bench c m.bd lv fi = some x → wSs (Run T (n + 2)) [.expr (.meth .append (.var 3) [(.idx (.call fn [(.var 6), (.idx (.var 1) (.int 1))]) (.var 4))])] [some (ctD c), some (mtD m), some (.int lv), some (.ptr S.length), some (.int (if fi = true then 0 else 1)), v5, some (.int x)] S1 E := by
      intro x v5 hx
      have hx2 := bench_in hc hx
      have ev : vAt c m lv fi = some (vt fi x m.mj) := by
        unfold vAt
        rw [hx]
        rfl
      rw [ev] at hE
      have hE := hE v5 (some (.int x))
      cases fi with
      | true =>
        walk_at "w"
        refine ⟨trivial, ?_⟩
        walk_at "w"
        refine needed_spec hn ht hj hx2.1 (by omega) ?_
        walk_at "w"
        rw [e1]
        refine ⟨by show _ < 16777216; omega, ?_⟩
        exact hE
      | false =>
        walk_at "w"
        refine ⟨trivial, ?_⟩
        walk_at "w"
        refine needed_spec hn ht hj hx2.1 (by omega) ?_
        walk_at "w"
        rw [e1]
        refine ⟨by show _ < 16777216; omega, ?_⟩
        exact hE
    rcases m with ⟨ol, mj, am, bd⟩
    rcases c with ⟨o, b, fu, w, le, da, v, fe⟩
    cases bd with
    | none =>
      cases fi with
      | true =>
        walk_at "w"
        refine ⟨rfl, ?_⟩
        walk_at "w"
        walk_at "n"
        walk_at "w"
        walk_at "n"
        walk_at "w"
        walk_at "n"
        walk_at "w"
        walk_at "n"
        exact val b (some (.bl true)) rfl
      | false =>
        walk_at "w"
        refine ⟨rfl, ?_⟩
        walk_at "w"
        walk_at "n"
        walk_at "w"
        walk_at "n"
        walk_at "w"
        walk_at "n"
        walk_at "w"
        walk_at "n"
        exact val b (some (.bl false)) rfl
    | some p =>
      obtain ⟨l, g⟩ := p
      by_cases hg : fi = g
      · subst hg
        have hv := val b (some (.bl fi)) (if_pos (.inl rfl))
        cases fi with
        | true =>
          walk_at "w"
          refine ⟨rfl, ?_⟩
          walk_at "w"
          walk_at "y"
          walk_at "w"
          refine ⟨rfl, ?_⟩
          walk_at "w"
          walk_at "n"
          walk_at "w"
          walk_at "n"
          walk_at "w"
          walk_at "y"
          walk_at "w"
          refine ⟨rfl, ?_⟩
          walk_at "w"
          walk_at "n"
          walk_at "w"
          walk_at "n"
          exact hv
        | false =>
          walk_at "w"
          refine ⟨rfl, ?_⟩
          walk_at "w"
          walk_at "y"
          walk_at "w"
          refine ⟨rfl, ?_⟩
          walk_at "w"
          walk_at "n"
          walk_at "w"
          walk_at "n"
          walk_at "w"
          walk_at "y"
          walk_at "w"
          refine ⟨rfl, ?_⟩
          walk_at "w"
          walk_at "n"
          walk_at "w"
          walk_at "n"
          exact hv
      · have eg : eqD (.bl g) (.bl fi) = false := by
          rw [eqB]
          cases g <;> cases fi <;> first | rfl | exact absurd rfl hg
        have bn : bench ⟨o, b, fu, w, le, da, v, fe⟩ (some (l, g)) lv fi = if l < lv then some b else if lv = l then some fu else none := by
          show (if fi = g ∨ l < lv then some b else _) = _
          by_cases q : l < lv
          · rw [if_pos q, if_pos (.inr q)]
          · rw [if_neg q, if_neg (fun z => z.elim hg q)]
        have e0 : eqD (.int (if fi = true then 0 else 1)) (.int 0) = fi := by cases fi <;> rfl
        walk_at "w"
        refine ⟨rfl, ?_⟩
        rw [e0]
        walk_at "w"
        walk_at "y"
        walk_at "w"
        refine ⟨rfl, ?_⟩
        rw [eg]
        walk_at "w"
        walk_at "y"
        walk_at "w"
        refine ⟨fun q => ?_, fun q => ?_⟩
        · have q : lv < l := of_decide_eq_true q
          rw [if_neg (by omega), if_neg (by omega)] at bn
          have ev : vAt ⟨o, b, fu, w, le, da, v, fe⟩ ⟨ol, mj, am, some (l, g)⟩ lv fi = none := by
            unfold vAt
            rw [show bench _ _ lv fi = none from bn]
            rfl
          rw [ev] at hE
          walk_at "w"
          refine ⟨trivial, ?_⟩
          walk_at "w"
          rw [e1]
          refine ⟨by show _ < 16777216; omega, ?_⟩
          exact hE (some (.bl fi)) v6
        · have q : ¬ lv < l := of_decide_eq_false q
          walk_at "w"
          walk_at "y"
          walk_at "w"
          refine ⟨rfl, ?_⟩
          rw [eg]
          walk_at "w"
          walk_at "y"
          walk_at "w"
          refine ⟨rfl, ?_⟩
          refine ⟨fun q2 => ?_, fun q2 => ?_⟩
          · have q2 : lv = l := eqI_t q2
            rw [if_neg (by omega), if_pos q2] at bn
            exact val fu (some (.bl fi)) bn
          · have q2 : lv ≠ l := eqI_f q2
            rw [if_pos (by omega)] at bn
            exact val b (some (.bl fi)) bn
  walk_at "w"
  refine ⟨⟨by decide, by decide⟩, trivial, ?_⟩
  refine for_inv (Run_mono T (n + 2)) (fun i σ S1 => ∃ v4 v5 v6, σ = [some (ctD c), some (mtD m), some (.int lv), some (.ptr S.length), v4, v5, v6] ∧ S1[S.length]? = some ([opD (vAt c m lv true), opD (vAt c m lv false)].take i) ∧ Keep S S1)
    ⟨none, none, none, rfl, List.getElem?_concat_length .., Keep.app _ _⟩ ?_ ?_
  · rintro i x σ S1 hx ⟨v4, v5, v6, rfl, e1, e2⟩
    obtain ⟨hi, rfl⟩ := range_at hx
    have hi : i < 2 := hi
    have hq := (List.getElem?_eq_some_iff.mp e1).1
    obtain rfl | rfl : i = 0 ∨ i = 1 := by omega
    · refine step true S1 [] v4 v5 v6 _ e1 (by decide) fun v5 v6 => ?_
      exact ⟨_, v5, v6, rfl, by rw [List.getElem?_set_self hq]; rfl, e2.own (Nat.le_refl _) _⟩
    · refine step false S1 [opD (vAt c m lv true)] v4 v5 v6 _ e1 (Nat.le_succ 1) fun v5 v6 => ?_
      exact ⟨_, v5, v6, rfl, by rw [List.getElem?_set_self hq]; rfl, e2.own (Nat.le_refl _) _⟩
  · rintro σ S1 ⟨v4, v5, v6, rfl, e1, e2⟩
    have e1 : S1[S.length]? = some [opD (vAt c m lv true), opD (vAt c m lv false)] := e1
    walk_at "w"
    rw [show seqOf S1 (.ptr S.length) = _ from e1]
    walk_at "w"
    rw [show seqOf S1 (.ptr S.length) = _ from e1]
    exact h S1 e2
def osL (ct : Nat → Ct) (m : Mt) (lv mm : Nat) (fi : Bool) : List (Option Int) := (List.range mm).map fun i => vAt (ct (lv + i)) m ((lv + i : Nat) : Int) fi
theorem osL_succ (ct : Nat → Ct) (m : Mt) (lv mm : Nat) (fi : Bool) : osL ct m lv (mm + 1) fi = osL ct m lv mm fi ++ [vAt (ct (lv + mm)) m ((lv + mm : Nat) : Int) fi] := by
  unfold osL
  rw [List.range_succ, List.map_append]
  rfl
theorem Mn.ex : ∀ os : List (Option Int), ∃ r, Mn os r := by
  have : ∀ os pre r, Mn pre r → ∃ r', Mn (pre ++ os) r' := by
    intro os
    induction os with
    | nil => exact fun pre r h => ⟨r, by rw [List.append_nil]; exact h⟩
    | cons x os ih =>
      intro pre r h
      obtain ⟨r', h'⟩ := ih (pre ++ [x]) _ (h.step x)
      exact ⟨r', by rw [List.append_assoc] at h'; exact h'⟩
  exact fun os => this os [] none Mn.nil
section
variable {T : List DDef} {cs : List D} {l : List Nat} {ct : Nat → Ct} (c : Ch cs l ct)
include c
theorem okL_lt {m : Mt} {top : Int} {i : Nat} (h : okL l ct m top i = true) : i < l.length := by
  unfold okL at h
  rw [Bool.and_eq_true] at h
  exact of_decide_eq_true h.1
theorem reviewPath_spec {f fp fr fn fa fb fc fv fl n : Nat} (hf : T[f]? = some (dReviewPath fp fn fl)) (hp : T[fp]? = some (dPathLevels fr)) (hr : T[fr]? = some dReviews) (hn : T[fn]? = some (dNeededAt fa)) (ha : T[fa]? = some (dVotesAt fb fc)) (hb : T[fb]? = some dBench) (hc : T[fc]? = some (dNeed fv)) (hv : T[fv]? = some dVft) (hl : T[fl]? = some dLeastOf)
    (m : Mt) (hj : Maj m.mj) (lv : Nat) (top : Int) {mm : Nat} (hm : LvN (okL l ct m top) lv mm) (hmm : mm ≤ 9) {r1 r2 : Option Int} (h1 : Mn (osL ct m lv mm true) r1) (h2 : Mn (osL ct m lv mm false) r2) {S : Sto} {k : WK}
    (h : ∀ S', Keep S S' → k (.tup [.tup (lvD lv mm), opD r1, opD r2]) S') : Run T (n + 5) f [.tup cs, .tup (natD l), mtD m, .int lv, .int top] S k := by
  refine run_of hf rfl ?_
  walk_at "w"
  refine pathLevels_spec c hp hr m lv top hm hmm fun S1 k1 => ?_
  walk_at "w"
  refine ⟨by rw [lvD_len]; show _ < 16777216; omega, ?_⟩
  refine comp_map (fun (i : Nat) => D.int ((lv + i : Nat) : Int)) (fun _ => true) (fun i => ndD (ct (lv + i)) m ((lv + i : Nat) : Int)) (List.range mm) _ (fun i hi kk hk1 hk2 => ?_) ?_
  · have hi := okL_lt c (hm.1 i (List.mem_range.mp hi))
    obtain ⟨a1, a2⟩ := c.get hi
    have hk1 := hk1 rfl
    generalize lv + i = q at hk1 hi a1 a2 ⊢
    walk_at "w"
    walk_at "y"
    walk_at "w"
    rw [at_n a1]
    walk_at "w"
    rw [at_n a2]
    walk_at "w"
    exact neededAt_spec hn ha hb hc hv (ct q) m hj q hk1
  rw [List.filter_eq_self.mpr fun _ _ => rfl]
  walk_at "w"
  refine ⟨by rw [List.length_map, List.length_range]; show _ < 16777216; omega, ?_⟩
  have two : ∀ fi, ((List.range mm).filter fun _ => true).map (fun i => opD (vAt (ct (lv + i)) m ((lv + i : Nat) : Int) fi)) = (osL ct m lv mm fi).map opD := fun fi => by
    rw [List.filter_eq_self.mpr fun _ _ => rfl]
    unfold osL
    rw [List.map_map]
    rfl
  have lo : ∀ fi, (osL ct m lv mm fi).length ≤ 1000 := fun fi => by unfold osL; rw [List.length_map, List.length_range]; omega
  refine comp_map (fun i => ndD (ct (lv + i)) m ((lv + i : Nat) : Int)) (fun _ => true) (fun i => opD (vAt (ct (lv + i)) m ((lv + i : Nat) : Int) true)) (List.range mm) _ (fun i hi kk hk1 hk2 => ?_) ?_
  · have hk1 := hk1 rfl
    walk_at "w"
    walk_at "y"
    exact hk1
  rw [two]
  walk_at "w"
  refine least_of_spec hl h1 (lo _) ?_
  walk_at "w"
  refine ⟨by rw [List.length_map, List.length_range]; show _ < 16777216; omega, ?_⟩
  refine comp_map (fun i => ndD (ct (lv + i)) m ((lv + i : Nat) : Int)) (fun _ => true) (fun i => opD (vAt (ct (lv + i)) m ((lv + i : Nat) : Int) false)) (List.range mm) _ (fun i hi kk hk1 hk2 => ?_) ?_
  · have hk1 := hk1 rfl
    walk_at "w"
    walk_at "y"
    exact hk1
  rw [two]
  walk_at "w"
  refine least_of_spec hl h2 (lo _) ?_
  walk_at "w"
  exact h S1 k1
theorem fewest_spec {f fa fl fn ft n : Nat} (hf : T[f]? = some (dFewest fa fl)) (ha : T[fa]? = some (dAt fn)) (hn : T[fn]? = some (dNeeded ft)) (ht : T[ft]? = some dTwo) (hl : T[fl]? = some dLess)
    (m : Mt) (hj : Maj m.mj) (lv : Nat) (top : Int) {mm : Nat} (hm : LvN (okL l ct m top) lv mm) (hmm : mm ≤ 9) {r1 r2 : Option Int} (h1 : Mn (osL ct m lv mm true) r1) (h2 : Mn (osL ct m lv mm false) r2) {S : Sto} {k : WK}
    (h : ∀ S', Keep S S' → k (.tup [.tup (lvD lv mm), opD r1, opD r2]) S') : Run T (n + 4) f [.tup cs, .tup (natD l), mtD m, .tup (lvD lv mm)] S k := by
  refine run_of hf rfl ?_
  walk_at "w"
  refine ⟨trivial, ?_⟩
  refine for_inv (Run_mono T (n + 3)) (fun i σ S1 => ∃ a1 a2 v5 v6 v7, σ = [some (.tup cs), some (.tup (natD l)), some (mtD m), some (.tup (lvD lv mm)), some (.ptr S.length), v5, v6, v7] ∧ S1[S.length]? = some [opD a1, opD a2] ∧ Mn (osL ct m lv i true) a1 ∧ Mn (osL ct m lv i false) a2 ∧ Keep S S1)
    ⟨none, none, none, none, none, rfl, List.getElem?_concat_length .., Mn.nil, Mn.nil, Keep.app _ _⟩ ?_ ?_
  · rintro i x σ S1 hx ⟨a1, a2, v5, v6, v7, rfl, e1, n1, n2, k1⟩
    obtain ⟨hi, rfl⟩ := lvD_at hx
    have hq := okL_lt c (hm.1 i hi)
    obtain ⟨g1, g2⟩ := c.get hq
    have n1 := n1.step (vAt (ct (lv + i)) m ((lv + i : Nat) : Int) true)
    have n2 := n2.step (vAt (ct (lv + i)) m ((lv + i : Nat) : Int) false)
    rw [← osL_succ] at n1 n2
    have oc := c.ok _ hq
    generalize lv + i = q at n1 n2 hq g1 g2 oc ⊢
    walk_at "w"
    rw [at_n g1]
    walk_at "w"
    rw [at_n g2]
    walk_at "w"
    refine at_spec ha hn ht oc m hj q fun S2 k2 => ?_
    have e2 := k2.2 _ _ e1
    have k12 := k1.trans k2
    unfold ndD
    generalize vAt (ct q) m (q : Int) true = x1 at n1 ⊢
    generalize vAt (ct q) m (q : Int) false = x2 at n2 ⊢
    walk_at "w"
    refine ⟨⟨by decide, by decide⟩, trivial, ?_⟩
    refine for_inv (Run_mono T (n + 3)) (fun j σ S3 => ∃ v7, σ = [some (.tup cs), some (.tup (natD l)), some (mtD m), some (.tup (lvD lv mm)), some (.ptr S.length), some (.int (q : Int)), some (.tup [opD x1, opD x2]), v7] ∧ S3[S.length]? = some [opD (if 1 ≤ j then stpO a1 x1 else a1), opD (if 2 ≤ j then stpO a2 x2 else a2)] ∧ Keep S S3)
      ⟨v7, rfl, e2, k12⟩ ?_ ?_
    · rintro j x σ S3 hx ⟨v7, rfl, e3, k3⟩
      obtain ⟨hj2, rfl⟩ := range_at hx
      have hj2 : j < 2 := hj2
      have hq3 := (List.getElem?_eq_some_iff.mp e3).1
      obtain rfl | rfl : j = 0 ∨ j = 1 := by omega
      · have e3 : S3[S.length]? = some [opD a1, opD a2] := e3
        walk_at "w"
        rw [show seqOf S3 (.ptr S.length) = _ from e3]
        walk_at "w"
        refine less_spec hl x1 a1 ?_
        walk_at "w"
        refine ⟨fun g => ?_, fun g => ?_⟩
        · have g : lessB x1 a1 = true := g
          have es : stpO a1 x1 = x1 := if_pos g
          walk_at "w"
          rw [e3]
          walk_at "w"
          exact ⟨_, rfl, by rw [List.getElem?_set_self hq3]; show some [opD x1, opD a2] = some [opD (stpO a1 x1), opD a2]; rw [es], k3.own (Nat.le_refl _) _⟩
        · have g : ¬ lessB x1 a1 = true := by rw [show lessB x1 a1 = false from g]; exact Bool.false_ne_true
          have es : stpO a1 x1 = a1 := if_neg g
          exact ⟨_, rfl, by rw [e3]; show some [opD a1, opD a2] = some [opD (stpO a1 x1), opD a2]; rw [es], k3⟩
      · have e3 : S3[S.length]? = some [opD (stpO a1 x1), opD a2] := e3
        walk_at "w"
        rw [show seqOf S3 (.ptr S.length) = _ from e3]
        walk_at "w"
        refine less_spec hl x2 a2 ?_
        walk_at "w"
        refine ⟨fun g => ?_, fun g => ?_⟩
        · have g : lessB x2 a2 = true := g
          have es : stpO a2 x2 = x2 := if_pos g
          walk_at "w"
          rw [e3]
          walk_at "w"
          exact ⟨_, rfl, by rw [List.getElem?_set_self hq3]; show some [opD (stpO a1 x1), opD x2] = some [opD (stpO a1 x1), opD (stpO a2 x2)]; rw [es], k3.own (Nat.le_refl _) _⟩
        · have g : ¬ lessB x2 a2 = true := by rw [show lessB x2 a2 = false from g]; exact Bool.false_ne_true
          have es : stpO a2 x2 = a2 := if_neg g
          exact ⟨_, rfl, by rw [e3]; show some [opD (stpO a1 x1), opD a2] = some [opD (stpO a1 x1), opD (stpO a2 x2)]; rw [es], k3⟩
    · rintro σ S3 ⟨v7, rfl, e3, k3⟩
      have e3 : S3[S.length]? = some [opD (stpO a1 x1), opD (stpO a2 x2)] := e3
      exact ⟨_, _, _, _, _, rfl, e3, n1, n2, k3⟩
  · rintro σ S1 ⟨a1, a2, v5, v6, v7, rfl, e1, n1, n2, k1⟩
    rw [lvD_len] at n1 n2
    have q1 : a1 = r1 := n1.min.symm.trans h1.min
    have q2 : a2 = r2 := n2.min.symm.trans h2.min
    subst q1 q2
    walk_at "w"
    rw [show seqOf S1 (.ptr S.length) = _ from e1]
    walk_at "w"
    rw [show seqOf S1 (.ptr S.length) = _ from e1]
    exact h S1 k1
end
/-! ### chains and matters as the laws draw them -/
def dLawChain : DDef :=
  ⟨"_law_chain", ["courts", "court", "chain", "k"], 2, [
    .asg (.nm 2) (.tup []),
    .forS (.nm 3) .rg [(.int 10)] [
      .ite (.cmp .is (.var 1) .non) [
        .brk] [],
      .asg (.nm 2) (.bin .add (.var 2) (.tup [(.var 1)])),
      .asg (.nm 1) (.idx (.idx (.var 0) (.var 1)) (.int 0))],
    .ret (.var 2)]⟩
theorem lawChain_spec {T : List DDef} {f n : Nat} (hf : T[f]? = some dLawChain) {cs : List D} {sup : Nat → Option Nat} (hc : ∀ i, i < cs.length → ∃ r, cs[i]? = some (.tup (oD (sup i) :: r))) {i : Nat} {l : List Nat} (hl : Chn sup (some i) l) (hm : ∀ x ∈ l, x < cs.length) (hs : l.length ≤ 9) {S : Sto} {k : WK}
    (h : k (.tup (natD l)) S) : Run T (n + 1) f [.tup cs, .int i] S k := by
  refine run_of hf rfl ?_
  walk_at "w"
  refine ⟨⟨by decide, by decide⟩, trivial, ?_⟩
  refine for_inv (Run_mono T n) (fun j σ S1 => S1 = S ∧ ∃ pre rem o v3, l = pre ++ rem ∧ Chn sup o rem ∧ pre.length = j ∧ σ = [some (.tup cs), some (oD o), some (.tup (natD pre)), v3]) ⟨rfl, [], l, some i, none, rfl, hl, rfl, rfl⟩ ?_ ?_
  · rintro j x σ S1 hx ⟨rfl, pre, rem, o, v3, e1, e2, rfl, rfl⟩
    cases e2 with
    | nil =>
      walk_at "w"
      walk_at "y"
      walk_at "w"
      rw [e1, List.append_nil] at h
      exact h
    | @cons q l2 h2 =>
      have hq : q ∈ l := by rw [e1]; simp
      obtain ⟨r, er⟩ := hc q (hm q hq)
      walk_at "w"
      walk_at "n"
      walk_at "w"
      have hlen : pre.length + (l2.length + 1) = l.length := by rw [e1]; simp
      refine ⟨by rw [natD_len]; show pre.length + 1 ≤ 16777216; omega, ?_⟩
      walk_at "w"
      rw [at_n er]
      walk_at "w"
      rw [at_hd]
      walk_at "w"
      have en : natD (pre ++ [q]) = natD pre ++ [.int q] := by
        unfold natD
        rw [List.map_append]
        rfl
      exact ⟨rfl, pre ++ [q], l2, sup q, some x, by rw [e1]; simp, h2, by simp, by rw [en]; rfl⟩
  · rintro σ S1 ⟨rfl, pre, rem, o, v3, e1, e2, e3, rfl⟩
    rw [rangeD_len] at e3
    have e3 : pre.length = 10 := e3
    have : pre.length ≤ l.length := by rw [e1]; simp
    omega
def dMatter (fd : Nat) : DDef :=
  ⟨"_law_matter", ["tape", "amount", "bound"], 1, [
    .asg (.nm 1) (.idx (.ls [(.int 0), (.int 10000), (.call fd [(.var 0), (.int 120)]), (.call fd [(.var 0), (.int 10001)])]) (.call fd [(.var 0), (.int 4)])),
    .asg (.nm 2) .non,
    .ite (.cmp .gt (.call fd [(.var 0), (.int 5)]) (.int 1)) [
      .asg (.nm 2) (.tup [(.idx (.ls [(.call fd [(.var 0), (.int 4)]), (.call fd [(.var 0), (.int 10)])]) (.call fd [(.var 0), (.int 2)])), (.cmp .eq (.call fd [(.var 0), (.int 2)]) (.int 1))])] [],
    .ret (.tup [(.cmp .gt (.call fd [(.var 0), (.int 3)]) (.int 0)), (.idx (.ls [(.int 0), (.int 0), (.int 1), (.int 2)]) (.call fd [(.var 0), (.int 4)])), (.var 1), (.var 2)])]⟩
theorem matter_spec {T : List DDef} {f fd n : Nat} (hf : T[f]? = some (dMatter fd)) (hd : T[fd]? = some dDraw) {S : Sto} {t : Nat} {k : WK} (ht : Tape S t)
    (h : ∀ m S', Maj m.mj → Tape S' t → KeepB t S S' → S'.length = S.length → k (mtD m) S') : Run T (n + 2) f [.ptr t] S k := by
  refine run_of hf rfl ?_
  walk_at "w"
  refine draw_spec hd ht (by decide) fun a1 S1 p0 p1 ht1 kb1 hl1 => ?_
  walk_at "w"
  refine draw_spec hd ht1 (by decide) fun a2 S2 q0 q1 ht2 kb2 hl2 => ?_
  walk_at "w"
  refine draw_spec hd ht2 (by decide) fun c S3 c0 c1 ht3 kb3 hl3 => ?_
  have c1 : c < 4 := c1
  have kb := (kb1.trans kb2).trans kb3
  have hl : S3.length = S.length := by rw [hl3, hl2, hl1]
  have fin : ∀ (am : Int) (bd : Option (Int × Bool)) (S4 : Sto), Tape S4 t → KeepB t S S4 → S4.length = S.length → wSs (Run T (n + 1)) ((dMatter fd).body.drop 3) [some (.ptr t), some (.int am), some (bdD bd)] S4 { nx := fun _ S1 => k .non S1, rt := k } := by
    intro am bd S4 ht4 kb4 hl4
    walk_at "w"
    refine draw_spec hd ht4 (by decide) fun d S5 d0 d1 ht5 kb5 hl5 => ?_
    walk_at "w"
    refine draw_spec hd ht5 (by decide) fun g S6 g0 g1 ht6 kb6 hl6 => ?_
    have g1 : g < 4 := g1
    have kb7 := (kb4.trans kb5).trans kb6
    have hl7 : S6.length = S.length := by rw [hl6, hl5, hl4]
    rcases (by omega : g = 0 ∨ g = 1 ∨ g = 2 ∨ g = 3) with rfl | rfl | rfl | rfl
    · walk_at "w"
      exact h ⟨ordW COp.gt d 0, 0, am, bd⟩ S6 (.inl rfl) ht6 kb7 hl7
    · walk_at "w"
      exact h ⟨ordW COp.gt d 0, 0, am, bd⟩ S6 (.inl rfl) ht6 kb7 hl7
    · walk_at "w"
      exact h ⟨ordW COp.gt d 0, 1, am, bd⟩ S6 (.inr (.inl rfl)) ht6 kb7 hl7
    · walk_at "w"
      exact h ⟨ordW COp.gt d 0, 2, am, bd⟩ S6 (.inr (.inr rfl)) ht6 kb7 hl7
  have mid : ∀ am : Int, wSs (Run T (n + 1)) ((dMatter fd).body.drop 1) [some (.ptr t), some (.int am), none] S3 { nx := fun _ S1 => k .non S1, rt := k } := by
    intro am
    walk_at "w"
    refine draw_spec hd ht3 (by decide) fun d S4 d0 d1 ht4 kb4 hl4 => ?_
    walk_at "w"
    refine ⟨fun _ => ?_, fun _ => ?_⟩
    · walk_at "w"
      refine draw_spec hd ht4 (by decide) fun b1 S5 r0 r1 ht5 kb5 hl5 => ?_
      walk_at "w"
      refine draw_spec hd ht5 (by decide) fun b2 S6 r0 r1 ht6 kb6 hl6 => ?_
      walk_at "w"
      refine draw_spec hd ht6 (by decide) fun e S7 w0 w1 ht7 kb7 hl7 => ?_
      have w1 : e < 2 := w1
      have kb8 := (((kb.trans kb4).trans kb5).trans kb6).trans kb7
      rcases (by omega : e = 0 ∨ e = 1) with rfl | rfl
      · walk_at "w"
        refine draw_spec hd ht7 (by decide) fun z S8 z0 z1 ht8 kb9 hl8 => ?_
        walk_at "w"
        refine ⟨rfl, ?_⟩
        have q := fin am (some (b1, eqD (.int z) (.int 1))) S8 ht8 (kb8.trans kb9) (by rw [hl8, hl7, hl6, hl5, hl4, hl])
        conv at q => whnf
        walk_at "w"
        exact q
      · walk_at "w"
        refine draw_spec hd ht7 (by decide) fun z S8 z0 z1 ht8 kb9 hl8 => ?_
        walk_at "w"
        refine ⟨rfl, ?_⟩
        have q := fin am (some (b2, eqD (.int z) (.int 1))) S8 ht8 (kb8.trans kb9) (by rw [hl8, hl7, hl6, hl5, hl4, hl])
        conv at q => whnf
        walk_at "w"
        exact q
    · have q := fin am none S4 ht4 (kb.trans kb4) (by rw [hl4, hl])
      conv at q => whnf
      walk_at "w"
      exact q
  rcases (by omega : c = 0 ∨ c = 1 ∨ c = 2 ∨ c = 3) with rfl | rfl | rfl | rfl
  · have q := mid 0
    conv at q => whnf
    walk_at "w"
    exact q
  · have q := mid 10000
    conv at q => whnf
    walk_at "w"
    exact q
  · have q := mid a1
    conv at q => whnf
    walk_at "w"
    exact q
  · have q := mid a2
    conv at q => whnf
    walk_at "w"
    exact q
end Ov
-- K32_data
namespace Tx
open PySem PySem.Spec PyProof.Rows L2 Ov
def d0 : DDef :=
  ⟨"least_of", ["costs", "cost"], 1, [
    .ret (.minN (.comp false (.var 1) (.nm 1) [("cost", 1)] .sq [(.var 0)] (some (.cmp .isnot (.var 1) .non))))]⟩
def d1 : DDef :=
  ⟨"votes_for_true", ["many", "majority"], 2, [
    .ite (.cmp .eq (.var 1) (.int 0)) [
      .ret (.bin .add (.bin .fdiv (.var 0) (.int 2)) (.int 1))] [],
    .ite (.cmp .eq (.var 1) (.int 1)) [
      .ret (.bin .fdiv (.bin .add (.bin .mul (.int 2) (.var 0)) (.int 2)) (.int 3))] [],
    .ret (.var 0)]⟩
def d2 : DDef :=
  ⟨"votes_needed", ["bench", "majority", "for_true"], 2, [
    .asg (.nm 2) (.call 1 [(.var 0), (.var 1)]),
    .ret (.tup [(.var 2), (.bin .add (.bin .sub (.var 0) (.var 2)) (.int 1))])]⟩
def d3 : DDef :=
  ⟨"finding_by", ["majority", "votes"], 2, [
    .ret (.cmp .ge (.meth .count (.var 1) [(.str "1")]) (.call 1 [(.bi .len [(.var 1)]), (.var 0)]))]⟩
def d4 : DDef :=
  ⟨"reviews", ["court", "of_law", "amount", "reviews_facts", "min_amount"], 3, [
    .asg (.tp [(.nm 3), (.nm 4)]) (.slc (.var 0) (some (.int 3)) (some (.int 5))),
    .ret (.andv (.cmp .le (.var 4) (.var 2)) (.one (.orv (.var 1) (.one (.var 3)))))]⟩
def d5 : DDef :=
  ⟨"bench_for", ["court", "matter", "level", "finding", "precedent", "bench", "full_bench", "bound_level", "bound_finding"], 4, [
    .asg (.tp [(.nm 5), (.nm 6)]) (.slc (.var 0) (some (.int 1)) (some (.int 3))),
    .asg (.nm 4) (.idx (.var 1) (.int 3)),
    .ite (.cmp .is (.var 4) .non) [
      .ret (.var 5)] [],
    .asg (.tp [(.nm 7), (.nm 8)]) (.var 4),
    .ite (.orv (.cmp .eq (.var 3) (.var 8)) (.one (.cmp .gt (.var 2) (.var 7)))) [
      .ret (.var 5)] [],
    .ite (.cmp .eq (.var 2) (.var 7)) [
      .ret (.var 6)] [],
    .ret .non]⟩
def d6 : DDef :=
  ⟨"votes_at", ["court", "matter", "level", "finding", "bench", "for_true", "for_false"], 4, [
    .asg (.nm 4) (.call 5 [(.var 0), (.var 1), (.var 2), (.var 3)]),
    .ite (.cmp .is (.var 4) .non) [
      .ret .non] [],
    .asg (.tp [(.nm 5), (.nm 6)]) (.call 2 [(.var 4), (.idx (.var 1) (.int 1))]),
    .ret (.ite (.tru (.var 3)) (.var 5) (.var 6))]⟩
def d7 : DDef :=
  ⟨"needed_at", ["court", "matter", "level"], 3, [
    .ret (.tup [(.call 6 [(.var 0), (.var 1), (.var 2), (.bl true)]), (.call 6 [(.var 0), (.var 1), (.var 2), (.bl false)])])]⟩
def d8 : DDef :=
  ⟨"is_allowed", ["court", "matter", "level", "votes", "finding"], 4, [
    .asg (.nm 4) (.call 3 [(.idx (.var 1) (.int 1)), (.var 3)]),
    .ret (.cmp .eq (.bi .len [(.var 3)]) (.call 5 [(.var 0), (.var 1), (.var 2), (.var 4)]))]⟩
def d9 : DDef :=
  ⟨"path_levels", ["courts", "chain", "matter", "level", "top", "levels", "of_law", "_", "amount"], 5, [
    .asg (.tp [(.nm 6), (.nm 7), (.nm 8), (.nm 7)]) (.var 2),
    .asg (.nm 5) (.mls []),
    .whil (.andv (.cmp .lt (.var 3) (.bi .len [(.var 1)])) (.andv (.cmp .le (.var 3) (.var 4)) (.one (.tru (.call 4 [(.idx (.var 0) (.idx (.var 1) (.var 3))), (.var 6), (.var 8)]))))) [
      .expr (.meth .append (.var 5) [(.var 3)]),
      .aug 3 .add (.int 1)],
    .ret (.bi .tuple [(.var 5)])]⟩
def d10 : DDef :=
  ⟨"review_path", ["courts", "chain", "matter", "level", "top", "levels", "needed", "for_true", "for_false", "one", "pair"], 5, [
    .asg (.nm 5) (.call 9 [(.var 0), (.var 1), (.var 2), (.var 3), (.var 4)]),
    .asg (.nm 6) (.comp false (.call 7 [(.idx (.var 0) (.idx (.var 1) (.var 9))), (.var 2), (.var 9)]) (.nm 9) [("one", 9)] .sq [(.var 5)] none),
    .asg (.nm 7) (.call 0 [(.comp false (.idx (.var 10) (.int 0)) (.nm 10) [("pair", 10)] .sq [(.var 6)] none)]),
    .asg (.nm 8) (.call 0 [(.comp false (.idx (.var 10) (.int 1)) (.nm 10) [("pair", 10)] .sq [(.var 6)] none)]),
    .ret (.tup [(.var 5), (.var 7), (.var 8)])]⟩
def d11 : DDef :=
  ⟨"votes_of", ["bench", "finding", "many", "letter", "other"], 3, [
    .asg (.tp [(.nm 3), (.nm 4)]) (.ite (.tru (.var 1)) (.tup [(.str "1"), (.str "0")]) (.tup [(.str "0"), (.str "1")])),
    .ret (.bin .add (.bin .mul (.var 3) (.var 2)) (.bin .mul (.var 4) (.bin .sub (.var 0) (.var 2))))]⟩
def d12 : DDef :=
  ⟨"cheapest_rulings", ["courts", "chain", "matter", "finding", "level", "top", "opposite", "needed", "rulings", "one", "levels", "for_true", "for_false", "court", "bench"], 6, [
    .asg (.tp [(.nm 10), (.nm 11), (.nm 12)]) (.call 10 [(.var 0), (.var 1), (.var 2), (.var 4), (.var 5)]),
    .asg (.nm 6) (.notv (.var 3)),
    .asg (.nm 7) (.ite (.tru (.var 6)) (.var 11) (.var 12)),
    .ite (.cmp .is (.var 7) .non) [
      .ret .non] [],
    .asg (.nm 8) (.mls []),
    .forS (.nm 9) .sq [(.var 10)] [
      .asg (.nm 13) (.idx (.var 0) (.idx (.var 1) (.var 9))),
      .ite (.cmp .eq (.call 6 [(.var 13), (.var 2), (.var 9), (.var 6)]) (.var 7)) [
        .expr (.meth .append (.var 8) [(.call 11 [(.call 5 [(.var 13), (.var 2), (.var 9), (.var 6)]), (.var 6), (.var 7)])]),
        .brk] [],
      .asg (.nm 14) (.idx (.var 13) (.int 1)),
      .expr (.meth .append (.var 8) [(.call 11 [(.var 14), (.var 3), (.var 14)])])],
    .ret (.bi .tuple [(.var 8)])]⟩
def d13 : DDef :=
  ⟨"_law_tape", ["script", "total", "cell"], 1, [
    .asg (.nm 1) (.int 7),
    .forS (.nm 2) .sq [(.var 0)] [
      .asg (.nm 1) (.bin .mod (.bi .int [(.bin .add (.bin .mul (.var 1) (.int 31)) (.bi .abs [(.bi .int [(.var 2)])]))]) (.int 2147483647))],
    .ret (.mls [(.bi .list [(.var 0)]), (.int 0), (.int 0), (.var 1)])]⟩
def d14 : DDef :=
  ⟨"_law_draw", ["tape", "many", "number", "place"], 2, [
    .ite (.cmp .eq (.idx (.var 0) (.int 2)) (.int 0)) [
      .asg (.nm 3) (.idx (.var 0) (.int 1)),
      .asg (.nm 2) (.int 0),
      .ite (.cmp .lt (.var 3) (.bi .len [(.idx (.var 0) (.int 0))])) [
        .asg (.nm 2) (.bi .abs [(.bi .int [(.idx (.idx (.var 0) (.int 0)) (.var 3))])])] [
        .sub (.var 0) (.int 3) (.bin .mod (.bi .int [(.bin .add (.bin .add (.bin .mul (.idx (.var 0) (.int 3)) (.int 48271)) (.var 3)) (.int 1))]) (.int 2147483647)),
        .asg (.nm 2) (.idx (.var 0) (.int 3))],
      .sub (.var 0) (.int 1) (.bin .add (.var 3) (.int 1)),
      .ite (.cmp .lt (.var 2) (.bin .pow (.int 10) (.int 18))) [
        .asg (.nm 2) (.bin .mod (.bi .int [(.bin .add (.bin .add (.bin .mul (.var 2) (.int 48271)) (.bin .mul (.var 3) (.int 69621))) (.int 5))]) (.int 2147483647)),
        .asg (.nm 2) (.bin .mod (.bi .int [(.bin .mul (.var 2) (.int 69621))]) (.int 2147483629)),
        .ret (.bin .mod (.bi .int [(.var 2)]) (.bi .max [(.var 1), (.int 1)]))] [],
      .sub (.var 0) (.int 2) (.var 2)] [],
    .asg (.nm 2) (.idx (.var 0) (.int 2)),
    .sub (.var 0) (.int 2) (.bin .fdiv (.var 2) (.bi .max [(.var 1), (.int 2)])),
    .ret (.bin .mod (.bi .int [(.var 2)]) (.bi .max [(.var 1), (.int 1)]))]⟩
def d15 : DDef :=
  ⟨"_law_same", ["told", "due", "k"], 2, [
    .ite (.cmp .is (.var 1) .non) [
      .ret (.cmp .is (.var 0) .non)] [],
    .ite (.tru (.bi (.isI "tuple") [(.var 1)])) [
      .ite (.orv (.notv (.tru (.bi (.isI "tuple") [(.var 0)]))) (.one (.cmp .ne (.bi .len [(.var 0)]) (.bi .len [(.var 1)])))) [
        .ret (.bl false)] [],
      .ret (.cmp .eq (.bi .len [(.comp false (.var 2) (.nm 2) [("k", 2)] .rg [(.bi .len [(.var 1)])] (some (.notv (.tru (.call 15 [(.idx (.var 0) (.var 2)), (.idx (.var 1) (.var 2))])))))]) (.int 0))] [],
    .ite (.tru (.bi (.isI "str") [(.var 1)])) [
      .ret (.andv (.bi (.isI "str") [(.var 0)]) (.one (.cmp .eq (.var 0) (.var 1))))] [],
    .ret (.andv (.bi (.isI "int") [(.var 0)]) (.andv (.cmp .eq (.bi (.isI "bool") [(.var 0)]) (.bi (.isI "bool") [(.var 1)])) (.one (.cmp .eq (.var 0) (.var 1)))))]⟩
def d16 : DDef :=
  ⟨"_law_order", ["tape", "many", "left", "order", "k"], 2, [
    .asg (.nm 2) (.lrg true (.var 1)),
    .asg (.nm 3) (.mls []),
    .forS (.nm 4) .rg [(.var 1)] [
      .expr (.meth .append (.var 3) [(.meth .pop (.var 2) [(.call 14 [(.var 0), (.bi .len [(.var 2)])])])])],
    .ret (.var 3)]⟩
def d17 : DDef :=
  ⟨"_law_mixed", ["one", "two", "k"], 3, [
    .ite (.cmp .lt (.var 2) (.int 0)) [
      .ret (.var 0)] [],
    .ret (.bin .add (.bin .add (.slc (.var 0) none (some (.var 2))) (.tup [(.idx (.var 1) (.var 2))])) (.slc (.var 0) (some (.bin .add (.var 2) (.int 1))) none))]⟩
def d18 : DDef :=
  ⟨"_law_places", ["tape", "many", "few"], 3, [
    .ret (.bin .add (.bin .add (.ls [(.neg (.int 1))]) (.slc (.call 16 [(.var 0), (.var 1)]) none (some (.var 2)))) (.ls [(.neg (.int 1))]))]⟩
def d19 : DDef :=
  ⟨"_law_sum", ["first", "second"], 2, [
    .ite (.orv (.cmp .is (.var 0) .non) (.one (.cmp .is (.var 1) .non))) [
      .ret .non] [],
    .ret (.bin .add (.var 0) (.var 1))]⟩
def d20 : DDef :=
  ⟨"_law_less", ["first", "second"], 2, [
    .ret (.andv (.cmp .isnot (.var 0) .non) (.one (.orv (.cmp .is (.var 1) .non) (.one (.cmp .lt (.var 0) (.var 1))))))]⟩
def d21 : DDef :=
  ⟨"_law_court", ["tape", "superior", "bench", "full", "least", "days"], 2, [
    .asg (.nm 2) (.bin .add (.int 1) (.call 14 [(.var 0), (.int 5)])),
    .asg (.nm 3) (.bi .min [(.bin .add (.var 2) (.call 14 [(.var 0), (.int 9)])), (.int 9)]),
    .ite (.cmp .eq (.call 14 [(.var 0), (.int 4)]) (.int 0)) [
      .asg (.nm 3) (.bin .add (.int 1) (.call 14 [(.var 0), (.int 9)]))] [],
    .asg (.nm 4) (.idx (.ls [(.int 0), (.int 0), (.int 0), (.bin .add (.int 1) (.call 14 [(.var 0), (.int 100)])), (.call 14 [(.var 0), (.int 10001)])]) (.call 14 [(.var 0), (.int 5)])),
    .asg (.nm 5) (.bin .add (.int 1) (.call 14 [(.var 0), (.int 30)])),
    .ret (.tup [(.var 1), (.var 2), (.var 3), (.cmp .gt (.call 14 [(.var 0), (.int 3)]) (.int 0)), (.var 4), (.var 5), (.cmp .eq (.call 14 [(.var 0), (.int 2)]) (.int 0)), (.call 14 [(.var 0), (.int 101)])])]⟩
def d22 : DDef :=
  ⟨"_law_courts", ["tape", "many", "shape", "courts", "k", "superior"], 2, [
    .asg (.nm 2) (.call 14 [(.var 0), (.int 3)]),
    .asg (.nm 3) (.tup []),
    .forS (.nm 4) .rg [(.var 1)] [
      .asg (.nm 5) .non,
      .ite (.andv (.cmp .gt (.var 4) (.int 0)) (.one (.cmp .eq (.var 2) (.int 0)))) [
        .asg (.nm 5) (.bin .sub (.var 4) (.int 1))] [],
      .ite (.andv (.cmp .gt (.var 4) (.int 0)) (.one (.cmp .gt (.var 2) (.int 0)))) [
        .asg (.nm 5) (.idx (.ls [.non, (.call 14 [(.var 0), (.var 4)]), (.call 14 [(.var 0), (.var 4)]), (.bin .sub (.var 4) (.int 1)), (.bi .max [(.bin .sub (.var 4) (.int 2)), (.int 0)]), (.int 0)]) (.call 14 [(.var 0), (.int 6)]))] [],
      .asg (.nm 3) (.bin .add (.var 3) (.tup [(.call 21 [(.var 0), (.var 5)])]))],
    .ret (.var 3)]⟩
def d23 : DDef :=
  ⟨"_law_chain", ["courts", "court", "chain", "k"], 2, [
    .asg (.nm 2) (.tup []),
    .forS (.nm 3) .rg [(.int 10)] [
      .ite (.cmp .is (.var 1) .non) [
        .brk] [],
      .asg (.nm 2) (.bin .add (.var 2) (.tup [(.var 1)])),
      .asg (.nm 1) (.idx (.idx (.var 0) (.var 1)) (.int 0))],
    .ret (.var 2)]⟩
def d24 : DDef :=
  ⟨"_law_two", ["majority", "votes"], 2, [
    .ite (.cmp .eq (.var 0) (.int 0)) [
      .ret (.cmp .gt (.bin .mul (.int 2) (.meth .count (.var 1) [(.str "1")])) (.bi .len [(.var 1)]))] [],
    .ite (.cmp .eq (.var 0) (.int 1)) [
      .ret (.cmp .ge (.bin .mul (.int 3) (.meth .count (.var 1) [(.str "1")])) (.bin .mul (.int 2) (.bi .len [(.var 1)])))] [],
    .ret (.cmp .eq (.meth .count (.var 1) [(.str "0")]) (.int 0))]⟩
def d25 : DDef :=
  ⟨"_law_needed", ["bench", "majority", "ones", "k"], 2, [
    .asg (.nm 2) (.comp false (.var 3) (.nm 3) [("k", 3)] .rg [(.bin .add (.var 0) (.int 1))] (some (.tru (.call 24 [(.var 1), (.bin .add (.bin .mul (.str "1") (.var 3)) (.bin .mul (.str "0") (.bin .sub (.var 0) (.var 3))))])))),
    .ret (.tup [(.idx (.var 2) (.int 0)), (.bin .sub (.bin .add (.var 0) (.int 1)) (.idx (.var 2) (.int 0)))])]⟩
def d26 : DDef :=
  ⟨"_law_matter", ["tape", "amount", "bound"], 1, [
    .asg (.nm 1) (.idx (.ls [(.int 0), (.int 10000), (.call 14 [(.var 0), (.int 120)]), (.call 14 [(.var 0), (.int 10001)])]) (.call 14 [(.var 0), (.int 4)])),
    .asg (.nm 2) .non,
    .ite (.cmp .gt (.call 14 [(.var 0), (.int 5)]) (.int 1)) [
      .asg (.nm 2) (.tup [(.idx (.ls [(.call 14 [(.var 0), (.int 4)]), (.call 14 [(.var 0), (.int 10)])]) (.call 14 [(.var 0), (.int 2)])), (.cmp .eq (.call 14 [(.var 0), (.int 2)]) (.int 1))])] [],
    .ret (.tup [(.cmp .gt (.call 14 [(.var 0), (.int 3)]) (.int 0)), (.idx (.ls [(.int 0), (.int 0), (.int 1), (.int 2)]) (.call 14 [(.var 0), (.int 4)])), (.var 1), (.var 2)])]⟩
def d27 : DDef :=
  ⟨"_law_reviewed", ["court", "matter"], 2, [
    .ret (.andv (.cmp .le (.idx (.var 0) (.int 4)) (.idx (.var 1) (.int 2))) (.one (.orv (.idx (.var 1) (.int 0)) (.one (.idx (.var 0) (.int 3))))))]⟩
def d28 : DDef :=
  ⟨"_law_at", ["court", "matter", "level", "needed", "k", "finding", "bench"], 3, [
    .asg (.nm 3) (.mls []),
    .forS (.nm 4) .rg [(.int 2)] [
      .asg (.nm 5) (.cmp .eq (.var 4) (.int 0)),
      .ite (.andv (.cmp .isnot (.idx (.var 1) (.int 3)) .non) (.andv (.cmp .ne (.idx (.idx (.var 1) (.int 3)) (.int 1)) (.var 5)) (.one (.cmp .lt (.var 2) (.idx (.idx (.var 1) (.int 3)) (.int 0)))))) [
        .expr (.meth .append (.var 3) [.non])] [
        .asg (.nm 6) (.idx (.var 0) (.int 1)),
        .ite (.andv (.cmp .isnot (.idx (.var 1) (.int 3)) .non) (.andv (.cmp .ne (.idx (.idx (.var 1) (.int 3)) (.int 1)) (.var 5)) (.one (.cmp .eq (.var 2) (.idx (.idx (.var 1) (.int 3)) (.int 0)))))) [
          .asg (.nm 6) (.idx (.var 0) (.int 2))] [],
        .expr (.meth .append (.var 3) [(.idx (.call 25 [(.var 6), (.idx (.var 1) (.int 1))]) (.var 4))])]],
    .ret (.tup [(.idx (.var 3) (.int 0)), (.idx (.var 3) (.int 1))])]⟩
def d29 : DDef :=
  ⟨"_law_let", ["court", "matter", "level", "votes", "finding", "size"], 4, [
    .asg (.nm 4) (.call 24 [(.idx (.var 1) (.int 1)), (.var 3)]),
    .asg (.nm 5) (.idx (.var 0) (.int 1)),
    .ite (.andv (.cmp .isnot (.idx (.var 1) (.int 3)) .non) (.one (.cmp .ne (.idx (.idx (.var 1) (.int 3)) (.int 1)) (.var 4)))) [
      .ite (.cmp .lt (.var 2) (.idx (.idx (.var 1) (.int 3)) (.int 0))) [
        .ret (.bl false)] [],
      .ite (.cmp .eq (.var 2) (.idx (.idx (.var 1) (.int 3)) (.int 0))) [
        .asg (.nm 5) (.idx (.var 0) (.int 2))] []] [],
    .ret (.cmp .eq (.bi .len [(.var 3)]) (.var 5))]⟩
def d30 : DDef :=
  ⟨"_law_levels", ["courts", "chain", "matter", "level", "top", "levels", "k"], 5, [
    .asg (.nm 5) (.mls []),
    .forS (.nm 6) .rg [(.int 10)] [
      .ite (.orv (.cmp .gt (.var 3) (.var 4)) (.orv (.cmp .ge (.var 3) (.bi .len [(.var 1)])) (.one (.notv (.tru (.call 27 [(.idx (.var 0) (.idx (.var 1) (.var 3))), (.var 2)])))))) [
        .brk] [],
      .expr (.meth .append (.var 5) [(.var 3)]),
      .asg (.nm 3) (.bin .add (.var 3) (.int 1))],
    .ret (.bi .tuple [(.var 5)])]⟩
def d31 : DDef :=
  ⟨"_law_best", ["courts", "chain", "matter", "finding", "levels", "sums", "best", "level", "court", "after", "size", "ones", "votes", "told", "before", "total"], 5, [
    .asg (.nm 5) (.mls [.non, .non]),
    .sub (.var 5) (.bi .int [(.var 3)]) (.int 0),
    .asg (.nm 6) .non,
    .forS (.nm 7) .sq [(.var 4)] [
      .asg (.nm 8) (.idx (.var 0) (.idx (.var 1) (.var 7))),
      .asg (.nm 9) (.mls [.non, .non]),
      .forS (.nm 10) .sq [(.ls [(.idx (.var 8) (.int 1)), (.idx (.var 8) (.int 2))])] [
        .forS (.nm 11) .rg [(.bin .add (.var 10) (.int 1))] [
          .asg (.nm 12) (.bin .add (.bin .mul (.str "1") (.var 11)) (.bin .mul (.str "0") (.bin .sub (.var 10) (.var 11)))),
          .ite (.tru (.call 29 [(.var 8), (.var 2), (.var 7), (.var 12)])) [
            .asg (.nm 13) (.bi .int [(.call 24 [(.idx (.var 2) (.int 1)), (.var 12)])]),
            .forS (.nm 14) .rg [(.int 2)] [
              .asg (.nm 15) (.call 19 [(.idx (.var 5) (.var 14)), (.idx (.ls [(.var 11), (.bin .sub (.var 10) (.var 11))]) (.var 14))]),
              .ite (.tru (.call 20 [(.var 15), (.idx (.var 9) (.var 13))])) [
                .sub (.var 9) (.var 13) (.var 15)] []]] []]],
      .asg (.nm 5) (.mls [(.idx (.var 9) (.int 0)), (.idx (.var 9) (.int 1))]),
      .ite (.tru (.call 20 [(.idx (.var 5) (.bi .int [(.notv (.var 3))])), (.var 6)])) [
        .asg (.nm 6) (.idx (.var 5) (.bi .int [(.notv (.var 3))]))] []],
    .ret (.var 6)]⟩
def d32 : DDef :=
  ⟨"_law_due_rulings", ["courts", "chain", "matter", "finding", "levels", "best", "rulings", "level", "court", "size"], 6, [
    .asg (.nm 6) (.tup []),
    .forS (.nm 7) .sq [(.var 4)] [
      .asg (.nm 8) (.idx (.var 0) (.idx (.var 1) (.var 7))),
      .ite (.andv (.cmp .isnot (.var 5) .non) (.one (.cmp .eq (.idx (.call 28 [(.var 8), (.var 2), (.var 7)]) (.bi .int [(.var 3)])) (.var 5)))) [
        .asg (.nm 9) (.idx (.var 8) (.int 1)),
        .ite (.andv (.cmp .isnot (.idx (.var 2) (.int 3)) .non) (.one (.cmp .eq (.idx (.var 2) (.int 3)) (.tup [(.var 7), (.var 3)])))) [
          .asg (.nm 9) (.idx (.var 8) (.int 2))] [],
        .ret (.bin .add (.var 6) (.tup [(.bin .add (.bin .mul (.idx (.str "10") (.bi .int [(.var 3)])) (.var 5)) (.bin .mul (.idx (.str "01") (.bi .int [(.var 3)])) (.bin .sub (.var 9) (.var 5))))]))] [],
      .asg (.nm 6) (.bin .add (.var 6) (.tup [(.bin .mul (.idx (.str "01") (.bi .int [(.var 3)])) (.idx (.var 8) (.int 1)))]))],
    .ret .non]⟩
def d33 : DDef :=
  ⟨"_law_row", ["tape", "many", "every", "courts", "chain", "matter", "level", "finding", "court"], 3, [
    .asg (.nm 3) (.call 22 [(.var 0), (.var 1)]),
    .ite (.tru (.var 2)) [
      .asg (.nm 3) (.bi .tuple [(.comp false (.bin .add (.bin .add (.slc (.var 8) none (some (.int 3))) (.tup [(.bl true), (.int 0)])) (.slc (.var 8) (some (.int 5)) none)) (.nm 8) [("court", 8)] .sq [(.var 3)] none)])] [],
    .asg (.nm 4) (.call 23 [(.var 3), (.idx (.ls [(.bin .sub (.bi .len [(.var 3)]) (.int 1)), (.call 14 [(.var 0), (.bi .len [(.var 3)])])]) (.call 14 [(.var 0), (.int 2)]))]),
    .ite (.cmp .eq (.call 14 [(.var 0), (.int 3)]) (.int 0)) [
      .asg (.nm 4) (.bi .tuple [(.slc (.call 16 [(.var 0), (.bi .len [(.var 3)])]) none (some (.bin .add (.int 1) (.call 14 [(.var 0), (.bi .len [(.var 3)])]))))])] [],
    .asg (.nm 5) (.call 26 [(.var 0)]),
    .asg (.nm 6) (.call 14 [(.var 0), (.idx (.ls [(.int 1), (.int 2), (.bin .add (.bi .len [(.var 4)]) (.int 1))]) (.call 14 [(.var 0), (.int 3)]))]),
    .asg (.nm 7) (.cmp .eq (.call 14 [(.var 0), (.int 2)]) (.int 1)),
    .ite (.andv (.cmp .isnot (.idx (.var 5) (.int 3)) .non) (.one (.cmp .ge (.idx (.idx (.var 5) (.int 3)) (.int 0)) (.var 6)))) [
      .asg (.nm 7) (.idx (.idx (.var 5) (.int 3)) (.int 1))] [],
    .ret (.bin .add (.bin .add (.tup [(.var 3), (.var 4)]) (.var 5)) (.tup [(.var 6), (.idx (.ls [(.int 9), (.bin .sub (.bi .len [(.var 4)]) (.int 1)), (.call 14 [(.var 0), (.int 10)])]) (.call 14 [(.var 0), (.int 3)])), (.var 7)]))]⟩
def d34 : DDef :=
  ⟨"_law_is_told", ["row", "levels", "best", "matter", "path", "told", "total", "present", "k"], 3, [
    .asg (.nm 3) (.slc (.var 0) (some (.int 2)) (some (.int 6))),
    .asg (.nm 4) (.call 10 [(.idx (.var 0) (.int 0)), (.idx (.var 0) (.int 1)), (.var 3), (.idx (.var 0) (.int 6)), (.idx (.var 0) (.int 7))]),
    .ite (.orv (.notv (.tru (.bi (.isI "tuple") [(.var 4)]))) (.orv (.cmp .ne (.bi .len [(.var 4)]) (.int 3)) (.one (.notv (.tru (.call 15 [(.idx (.var 4) (.bin .add (.int 1) (.bi .int [(.idx (.var 0) (.int 8))]))), (.var 2)])))))) [
      .ret (.bl false)] [],
    .ite (.cmp .ne (.idx (.var 4) (.int 0)) (.var 1)) [
      .ret (.bl false)] [],
    .asg (.nm 5) (.call 12 [(.idx (.var 0) (.int 0)), (.idx (.var 0) (.int 1)), (.var 3), (.idx (.var 0) (.int 8)), (.idx (.var 0) (.int 6)), (.idx (.var 0) (.int 7))]),
    .ite (.notv (.tru (.call 15 [(.var 5), (.call 32 [(.idx (.var 0) (.int 0)), (.idx (.var 0) (.int 1)), (.var 3), (.idx (.var 0) (.int 8)), (.var 1), (.var 2)])]))) [
      .ret (.bl false)] [],
    .ite (.cmp .is (.var 2) .non) [
      .ret (.bl true)] [],
    .asg (.nm 6) (.int 0),
    .asg (.nm 7) (.idx (.var 0) (.int 8)),
    .forS (.nm 8) .rg [(.bi .len [(.var 5)])] [
      .ite (.cmp .isnot (.call 8 [(.idx (.idx (.var 0) (.int 0)) (.idx (.idx (.var 0) (.int 1)) (.idx (.var 1) (.var 8)))), (.var 3), (.idx (.var 1) (.var 8)), (.idx (.var 5) (.var 8))]) (.bl true)) [
        .ret (.bl false)] [],
      .asg (.nm 6) (.bin .add (.var 6) (.meth .count (.idx (.var 5) (.var 8)) [(.idx (.str "01") (.bi .int [(.notv (.var 7))]))])),
      .asg (.nm 7) (.call 24 [(.idx (.var 3) (.int 1)), (.idx (.var 5) (.var 8))])],
    .ret (.andv (.cmp .ne (.var 7) (.idx (.var 0) (.int 8))) (.one (.cmp .eq (.var 6) (.var 2))))]⟩
def d35 : DDef :=
  ⟨"law", ["script", "tape", "many", "every", "one", "two", "k", "row", "levels", "best"], 1, [
    .asg (.nm 1) (.call 13 [(.var 0)]),
    .asg (.nm 2) (.bin .add (.int 1) (.call 14 [(.var 1), (.int 6)])),
    .asg (.nm 3) (.cmp .eq (.call 14 [(.var 1), (.int 2)]) (.int 0)),
    .asg (.nm 4) (.call 33 [(.var 1), (.var 2), (.var 3)]),
    .asg (.nm 5) (.call 33 [(.var 1), (.var 2), (.var 3)]),
    .forS (.nm 6) .sq [(.call 18 [(.var 1), (.int 9), (.int 5)])] [
      .asg (.nm 7) (.call 17 [(.var 4), (.var 5), (.var 6)]),
      .ite (.orv (.cmp .is (.idx (.var 7) (.int 5)) .non) (.orv (.cmp .lt (.idx (.idx (.var 7) (.int 5)) (.int 0)) (.idx (.var 7) (.int 6))) (.one (.cmp .eq (.idx (.idx (.var 7) (.int 5)) (.int 1)) (.idx (.var 7) (.int 8)))))) [
        .asg (.nm 8) (.call 30 [(.idx (.var 7) (.int 0)), (.idx (.var 7) (.int 1)), (.slc (.var 7) (some (.int 2)) (some (.int 6))), (.idx (.var 7) (.int 6)), (.idx (.var 7) (.int 7))]),
        .asg (.nm 9) (.call 31 [(.idx (.var 7) (.int 0)), (.idx (.var 7) (.int 1)), (.slc (.var 7) (some (.int 2)) (some (.int 6))), (.idx (.var 7) (.int 8)), (.var 8)]),
        .ite (.notv (.tru (.call 34 [(.var 7), (.var 8), (.var 9)]))) [
          .ret (.bl false)] []] []],
    .ret (.bl true)]⟩
def tab : List DDef := [d0, d1, d2, d3, d4, d5, d6, d7, d8, d9, d10, d11, d12, d13, d14, d15, d16, d17, d18, d19, d20, d21, d22, d23, d24, d25, d26, d27, d28, d29, d30, d31, d32, d33, d34, d35]
theorem tab0 : tab[0]? = some d0 := rfl
theorem tab1 : tab[1]? = some d1 := rfl
theorem tab2 : tab[2]? = some d2 := rfl
theorem tab3 : tab[3]? = some d3 := rfl
theorem tab4 : tab[4]? = some d4 := rfl
theorem tab5 : tab[5]? = some d5 := rfl
theorem tab6 : tab[6]? = some d6 := rfl
theorem tab7 : tab[7]? = some d7 := rfl
theorem tab8 : tab[8]? = some d8 := rfl
theorem tab9 : tab[9]? = some d9 := rfl
theorem tab10 : tab[10]? = some d10 := rfl
theorem tab11 : tab[11]? = some d11 := rfl
theorem tab12 : tab[12]? = some d12 := rfl
theorem tab13 : tab[13]? = some d13 := rfl
theorem tab14 : tab[14]? = some d14 := rfl
theorem tab15 : tab[15]? = some d15 := rfl
theorem tab16 : tab[16]? = some d16 := rfl
theorem tab17 : tab[17]? = some d17 := rfl
theorem tab18 : tab[18]? = some d18 := rfl
theorem tab19 : tab[19]? = some d19 := rfl
theorem tab20 : tab[20]? = some d20 := rfl
theorem tab21 : tab[21]? = some d21 := rfl
theorem tab22 : tab[22]? = some d22 := rfl
theorem tab23 : tab[23]? = some d23 := rfl
theorem tab24 : tab[24]? = some d24 := rfl
theorem tab25 : tab[25]? = some d25 := rfl
theorem tab26 : tab[26]? = some d26 := rfl
theorem tab27 : tab[27]? = some d27 := rfl
theorem tab28 : tab[28]? = some d28 := rfl
theorem tab29 : tab[29]? = some d29 := rfl
theorem tab30 : tab[30]? = some d30 := rfl
theorem tab31 : tab[31]? = some d31 := rfl
theorem tab32 : tab[32]? = some d32 := rfl
theorem tab33 : tab[33]? = some d33 := rfl
theorem tab34 : tab[34]? = some d34 := rfl
theorem tab35 : tab[35]? = some d35 := rfl
theorem call_eq (n : Nat) (f : Nat) (d : DDef) (h : tab[f]? = some d) (ds : List D) (S : Sto) (k : WK) (hl : ds.length = d.np)
    (w : wSs (callW tab n) d.body (startD d ds) S { nx := fun _ S1 => k .non S1, rt := k }) : callW tab (n + 1) f ds S k := by
  show (match tab[f]? with
    | some d => ds.length = d.np ∧ wSs (callW tab n) d.body (startD d ds) S { nx := fun _ S1 => k .non S1, rt := k }
    | none => False)
  rw [h]
  exact ⟨hl, w⟩
end Tx
-- K32_head
namespace Tx
open PySem PySem.Spec PyProof.Rows L2 Ov
def top (i : Nat) : Stmt := PySem.Challenge.pw_overturn_k32_whole_cheapest_rulings.main.body.getD i (.Pass ⟨0, 0, 0, 0⟩)
def pl : List Nat := [1, 3, 4, 5, 7, 8, 9, 10, 11, 12, 13, 14, 15, 17, 18, 19, 20, 21, 22, 23, 24, 25, 26, 27, 28, 29, 30, 31, 32, 33, 34, 35, 36, 37, 38, 39]
def st (f : Nat) : Stmt := top (pl.getD f 0)
theorem chk0 : chkD tab d0 (st 0) = true := by decide +kernel
theorem chk1 : chkD tab d1 (st 1) = true := by decide +kernel
theorem chk2 : chkD tab d2 (st 2) = true := by decide +kernel
theorem chk3 : chkD tab d3 (st 3) = true := by decide +kernel
theorem chk4 : chkD tab d4 (st 4) = true := by decide +kernel
theorem chk5 : chkD tab d5 (st 5) = true := by decide +kernel
theorem chk6 : chkD tab d6 (st 6) = true := by decide +kernel
theorem chk7 : chkD tab d7 (st 7) = true := by decide +kernel
theorem chk8 : chkD tab d8 (st 8) = true := by decide +kernel
theorem chk9 : chkD tab d9 (st 9) = true := by decide +kernel
theorem chk10 : chkD tab d10 (st 10) = true := by decide +kernel
theorem chk11 : chkD tab d11 (st 11) = true := by decide +kernel
theorem chk12 : chkD tab d12 (st 12) = true := by decide +kernel
theorem chk13 : chkD tab d13 (st 13) = true := by decide +kernel
theorem chk14 : chkD tab d14 (st 14) = true := by decide +kernel
theorem chk15 : chkD tab d15 (st 15) = true := by decide +kernel
theorem chk16 : chkD tab d16 (st 16) = true := by decide +kernel
theorem chk17 : chkD tab d17 (st 17) = true := by decide +kernel
theorem chk18 : chkD tab d18 (st 18) = true := by decide +kernel
theorem chk19 : chkD tab d19 (st 19) = true := by decide +kernel
theorem chk20 : chkD tab d20 (st 20) = true := by decide +kernel
theorem chk21 : chkD tab d21 (st 21) = true := by decide +kernel
theorem chk22 : chkD tab d22 (st 22) = true := by decide +kernel
theorem chk23 : chkD tab d23 (st 23) = true := by decide +kernel
theorem chk24 : chkD tab d24 (st 24) = true := by decide +kernel
theorem chk25 : chkD tab d25 (st 25) = true := by decide +kernel
theorem chk26 : chkD tab d26 (st 26) = true := by decide +kernel
theorem chk27 : chkD tab d27 (st 27) = true := by decide +kernel
theorem chk28 : chkD tab d28 (st 28) = true := by decide +kernel
theorem chk29 : chkD tab d29 (st 29) = true := by decide +kernel
theorem chk30 : chkD tab d30 (st 30) = true := by decide +kernel
theorem chk31 : chkD tab d31 (st 31) = true := by decide +kernel
theorem chk32 : chkD tab d32 (st 32) = true := by decide +kernel
theorem chk33 : chkD tab d33 (st 33) = true := by decide +kernel
theorem chk34 : chkD tab d34 (st 34) = true := by decide +kernel
theorem chk35 : chkD tab d35 (st 35) = true := by decide +kernel
theorem chk : ∀ (f : Nat) (d : DDef), tab[f]? = some d → isC d = false → chkD tab d (st f) = true
  | 0, d, h, hn => by
    cases h
    exact chk0
  | 1, d, h, hn => by
    cases h
    exact chk1
  | 2, d, h, hn => by
    cases h
    exact chk2
  | 3, d, h, hn => by
    cases h
    exact chk3
  | 4, d, h, hn => by
    cases h
    exact chk4
  | 5, d, h, hn => by
    cases h
    exact chk5
  | 6, d, h, hn => by
    cases h
    exact chk6
  | 7, d, h, hn => by
    cases h
    exact chk7
  | 8, d, h, hn => by
    cases h
    exact chk8
  | 9, d, h, hn => by
    cases h
    exact chk9
  | 10, d, h, hn => by
    cases h
    exact chk10
  | 11, d, h, hn => by
    cases h
    exact chk11
  | 12, d, h, hn => by
    cases h
    exact chk12
  | 13, d, h, hn => by
    cases h
    exact chk13
  | 14, d, h, hn => by
    cases h
    exact chk14
  | 15, d, h, hn => by
    cases h
    exact chk15
  | 16, d, h, hn => by
    cases h
    exact chk16
  | 17, d, h, hn => by
    cases h
    exact chk17
  | 18, d, h, hn => by
    cases h
    exact chk18
  | 19, d, h, hn => by
    cases h
    exact chk19
  | 20, d, h, hn => by
    cases h
    exact chk20
  | 21, d, h, hn => by
    cases h
    exact chk21
  | 22, d, h, hn => by
    cases h
    exact chk22
  | 23, d, h, hn => by
    cases h
    exact chk23
  | 24, d, h, hn => by
    cases h
    exact chk24
  | 25, d, h, hn => by
    cases h
    exact chk25
  | 26, d, h, hn => by
    cases h
    exact chk26
  | 27, d, h, hn => by
    cases h
    exact chk27
  | 28, d, h, hn => by
    cases h
    exact chk28
  | 29, d, h, hn => by
    cases h
    exact chk29
  | 30, d, h, hn => by
    cases h
    exact chk30
  | 31, d, h, hn => by
    cases h
    exact chk31
  | 32, d, h, hn => by
    cases h
    exact chk32
  | 33, d, h, hn => by
    cases h
    exact chk33
  | 34, d, h, hn => by
    cases h
    exact chk34
  | 35, d, h, hn => by
    cases h
    exact chk35
  | n + 36, d, h, hn => by cases h
def dd (f : Nat) (d : DDef) : He.DefD := ⟨(d.name, none), d.name, d.name, defArgs (st f), defBody (st f), defScope (st f), [], []⟩
def fn : List He.DefD := [dd 0 d0, dd 1 d1, dd 2 d2, dd 3 d3, dd 4 d4, dd 5 d5, dd 6 d6, dd 7 d7, dd 8 d8, dd 9 d9, dd 10 d10, dd 11 d11, dd 12 d12, dd 13 d13, dd 14 d14, dd 15 d15, dd 16 d16, dd 17 d17, dd 18 d18, dd 19 d19, dd 20 d20, dd 21 d21, dd 22 d22, dd 23 d23, dd 24 d24, dd 25 d25, dd 26 d26, dd 27 d27, dd 28 d28, dd 29 d29, dd 30 d30, dd 31 d31, dd 32 d32, dd 33 d33, dd 34 d34, dd 35 d35]
def fa : List He.Fa := [.glo "least_of", .glo "votes_for_true", .glo "votes_needed", .glo "finding_by", .glo "reviews", .glo "bench_for", .glo "votes_at", .glo "needed_at", .glo "is_allowed", .glo "path_levels", .glo "review_path", .glo "votes_of", .glo "cheapest_rulings", .glo "_law_tape", .glo "_law_draw", .glo "_law_same", .glo "_law_order", .glo "_law_mixed", .glo "_law_places", .glo "_law_sum", .glo "_law_less", .glo "_law_court", .glo "_law_courts", .glo "_law_chain", .glo "_law_two", .glo "_law_needed", .glo "_law_matter", .glo "_law_reviewed", .glo "_law_at", .glo "_law_let", .glo "_law_levels", .glo "_law_best", .glo "_law_due_rulings", .glo "_law_row", .glo "_law_is_told", .glo "law", .free "len", .free "int", .free "abs", .free "bool", .free "tuple", .free "list", .free "max", .free "min", .free "sum", .free "any", .free "all", .free "str", .free "isinstance", .free "range", .free "sorted", .free "enumerate"]
abbrev R : PySem.W.OpenRow := PySem.W.OpenLaw.row PySem.Challenge.rw_overturn_k32_whole_cheapest_rulings
abbrev hk : PySem.W.Hook := He.hookD 4 fa fn
def ob (s : PySem.W.SharedT) : He.AlD := He.obsDG 4 fa fn (HandSHeadRun.getT s)
theorem ob_eq (s : PySem.W.SharedT) : ob s = hk.obs s.abs := He.obsDG_eq (HandSHeadRun.getT_eq s)
def loose : List Str := (["least_of", "votes_for_true", "votes_needed", "finding_by", "reviews", "bench_for", "votes_at", "needed_at", "is_allowed", "path_levels", "review_path", "votes_of", "cheapest_rulings", "_law_tape", "_law_draw", "_law_same", "_law_order", "_law_mixed", "_law_places", "_law_sum", "_law_less", "_law_court", "_law_courts", "_law_chain", "_law_two", "_law_needed", "_law_matter", "_law_reviewed", "_law_at", "_law_let"] : List Str) ++ (["_law_levels", "_law_best", "_law_due_rulings", "_law_row", "_law_is_told"] : List Str)
theorem run (w : World) : HandSHeadRun.RunEq R (PySem.W.view R.prog [39]) hk ob 4000 loose w := by
  intro os
  kernel_rfl
theorem tabOk {K : PySem.W.Frag} {h : Heap} {mg : Str → Option Value} (X : K.In h) (G : h.Ns mainGlobals mg) (c : He.SaysD fa fn K) : TabOk tab st K mg where
  fns := fun f d hd hn => match f, d, hd, hn with
    | 0, d, hd, hn => by
      cases hd
      obtain ⟨fd, F⟩ := c.def_ 0 (d := dd 0 d0) rfl
      exact ⟨_, fd, F, He.glo_ok X G (c.fact 0 (f := .glo "least_of") rfl), FunD.bindsN F fun _ _ _ _ _ _ us hl => match us, hl with | [_], _ => rfl⟩
    | 1, d, hd, hn => by
      cases hd
      obtain ⟨fd, F⟩ := c.def_ 1 (d := dd 1 d1) rfl
      exact ⟨_, fd, F, He.glo_ok X G (c.fact 1 (f := .glo "votes_for_true") rfl), FunD.bindsN F fun _ _ _ _ _ _ us hl => match us, hl with | [_, _], _ => rfl⟩
    | 2, d, hd, hn => by
      cases hd
      obtain ⟨fd, F⟩ := c.def_ 2 (d := dd 2 d2) rfl
      exact ⟨_, fd, F, He.glo_ok X G (c.fact 2 (f := .glo "votes_needed") rfl), FunD.bindsN F fun _ _ _ _ _ _ us hl => match us, hl with | [_, _], _ => rfl⟩
    | 3, d, hd, hn => by
      cases hd
      obtain ⟨fd, F⟩ := c.def_ 3 (d := dd 3 d3) rfl
      exact ⟨_, fd, F, He.glo_ok X G (c.fact 3 (f := .glo "finding_by") rfl), FunD.bindsN F fun _ _ _ _ _ _ us hl => match us, hl with | [_, _], _ => rfl⟩
    | 4, d, hd, hn => by
      cases hd
      obtain ⟨fd, F⟩ := c.def_ 4 (d := dd 4 d4) rfl
      exact ⟨_, fd, F, He.glo_ok X G (c.fact 4 (f := .glo "reviews") rfl), FunD.bindsN F fun _ _ _ _ _ _ us hl => match us, hl with | [_, _, _], _ => rfl⟩
    | 5, d, hd, hn => by
      cases hd
      obtain ⟨fd, F⟩ := c.def_ 5 (d := dd 5 d5) rfl
      exact ⟨_, fd, F, He.glo_ok X G (c.fact 5 (f := .glo "bench_for") rfl), FunD.bindsN F fun _ _ _ _ _ _ us hl => match us, hl with | [_, _, _, _], _ => rfl⟩
    | 6, d, hd, hn => by
      cases hd
      obtain ⟨fd, F⟩ := c.def_ 6 (d := dd 6 d6) rfl
      exact ⟨_, fd, F, He.glo_ok X G (c.fact 6 (f := .glo "votes_at") rfl), FunD.bindsN F fun _ _ _ _ _ _ us hl => match us, hl with | [_, _, _, _], _ => rfl⟩
    | 7, d, hd, hn => by
      cases hd
      obtain ⟨fd, F⟩ := c.def_ 7 (d := dd 7 d7) rfl
      exact ⟨_, fd, F, He.glo_ok X G (c.fact 7 (f := .glo "needed_at") rfl), FunD.bindsN F fun _ _ _ _ _ _ us hl => match us, hl with | [_, _, _], _ => rfl⟩
    | 8, d, hd, hn => by
      cases hd
      obtain ⟨fd, F⟩ := c.def_ 8 (d := dd 8 d8) rfl
      exact ⟨_, fd, F, He.glo_ok X G (c.fact 8 (f := .glo "is_allowed") rfl), FunD.bindsN F fun _ _ _ _ _ _ us hl => match us, hl with | [_, _, _, _], _ => rfl⟩
    | 9, d, hd, hn => by
      cases hd
      obtain ⟨fd, F⟩ := c.def_ 9 (d := dd 9 d9) rfl
      exact ⟨_, fd, F, He.glo_ok X G (c.fact 9 (f := .glo "path_levels") rfl), FunD.bindsN F fun _ _ _ _ _ _ us hl => match us, hl with | [_, _, _, _, _], _ => rfl⟩
    | 10, d, hd, hn => by
      cases hd
      obtain ⟨fd, F⟩ := c.def_ 10 (d := dd 10 d10) rfl
      exact ⟨_, fd, F, He.glo_ok X G (c.fact 10 (f := .glo "review_path") rfl), FunD.bindsN F fun _ _ _ _ _ _ us hl => match us, hl with | [_, _, _, _, _], _ => rfl⟩
    | 11, d, hd, hn => by
      cases hd
      obtain ⟨fd, F⟩ := c.def_ 11 (d := dd 11 d11) rfl
      exact ⟨_, fd, F, He.glo_ok X G (c.fact 11 (f := .glo "votes_of") rfl), FunD.bindsN F fun _ _ _ _ _ _ us hl => match us, hl with | [_, _, _], _ => rfl⟩
    | 12, d, hd, hn => by
      cases hd
      obtain ⟨fd, F⟩ := c.def_ 12 (d := dd 12 d12) rfl
      exact ⟨_, fd, F, He.glo_ok X G (c.fact 12 (f := .glo "cheapest_rulings") rfl), FunD.bindsN F fun _ _ _ _ _ _ us hl => match us, hl with | [_, _, _, _, _, _], _ => rfl⟩
    | 13, d, hd, hn => by
      cases hd
      obtain ⟨fd, F⟩ := c.def_ 13 (d := dd 13 d13) rfl
      exact ⟨_, fd, F, He.glo_ok X G (c.fact 13 (f := .glo "_law_tape") rfl), FunD.bindsN F fun _ _ _ _ _ _ us hl => match us, hl with | [_], _ => rfl⟩
    | 14, d, hd, hn => by
      cases hd
      obtain ⟨fd, F⟩ := c.def_ 14 (d := dd 14 d14) rfl
      exact ⟨_, fd, F, He.glo_ok X G (c.fact 14 (f := .glo "_law_draw") rfl), FunD.bindsN F fun _ _ _ _ _ _ us hl => match us, hl with | [_, _], _ => rfl⟩
    | 15, d, hd, hn => by
      cases hd
      obtain ⟨fd, F⟩ := c.def_ 15 (d := dd 15 d15) rfl
      exact ⟨_, fd, F, He.glo_ok X G (c.fact 15 (f := .glo "_law_same") rfl), FunD.bindsN F fun _ _ _ _ _ _ us hl => match us, hl with | [_, _], _ => rfl⟩
    | 16, d, hd, hn => by
      cases hd
      obtain ⟨fd, F⟩ := c.def_ 16 (d := dd 16 d16) rfl
      exact ⟨_, fd, F, He.glo_ok X G (c.fact 16 (f := .glo "_law_order") rfl), FunD.bindsN F fun _ _ _ _ _ _ us hl => match us, hl with | [_, _], _ => rfl⟩
    | 17, d, hd, hn => by
      cases hd
      obtain ⟨fd, F⟩ := c.def_ 17 (d := dd 17 d17) rfl
      exact ⟨_, fd, F, He.glo_ok X G (c.fact 17 (f := .glo "_law_mixed") rfl), FunD.bindsN F fun _ _ _ _ _ _ us hl => match us, hl with | [_, _, _], _ => rfl⟩
    | 18, d, hd, hn => by
      cases hd
      obtain ⟨fd, F⟩ := c.def_ 18 (d := dd 18 d18) rfl
      exact ⟨_, fd, F, He.glo_ok X G (c.fact 18 (f := .glo "_law_places") rfl), FunD.bindsN F fun _ _ _ _ _ _ us hl => match us, hl with | [_, _, _], _ => rfl⟩
    | 19, d, hd, hn => by
      cases hd
      obtain ⟨fd, F⟩ := c.def_ 19 (d := dd 19 d19) rfl
      exact ⟨_, fd, F, He.glo_ok X G (c.fact 19 (f := .glo "_law_sum") rfl), FunD.bindsN F fun _ _ _ _ _ _ us hl => match us, hl with | [_, _], _ => rfl⟩
    | 20, d, hd, hn => by
      cases hd
      obtain ⟨fd, F⟩ := c.def_ 20 (d := dd 20 d20) rfl
      exact ⟨_, fd, F, He.glo_ok X G (c.fact 20 (f := .glo "_law_less") rfl), FunD.bindsN F fun _ _ _ _ _ _ us hl => match us, hl with | [_, _], _ => rfl⟩
    | 21, d, hd, hn => by
      cases hd
      obtain ⟨fd, F⟩ := c.def_ 21 (d := dd 21 d21) rfl
      exact ⟨_, fd, F, He.glo_ok X G (c.fact 21 (f := .glo "_law_court") rfl), FunD.bindsN F fun _ _ _ _ _ _ us hl => match us, hl with | [_, _], _ => rfl⟩
    | 22, d, hd, hn => by
      cases hd
      obtain ⟨fd, F⟩ := c.def_ 22 (d := dd 22 d22) rfl
      exact ⟨_, fd, F, He.glo_ok X G (c.fact 22 (f := .glo "_law_courts") rfl), FunD.bindsN F fun _ _ _ _ _ _ us hl => match us, hl with | [_, _], _ => rfl⟩
    | 23, d, hd, hn => by
      cases hd
      obtain ⟨fd, F⟩ := c.def_ 23 (d := dd 23 d23) rfl
      exact ⟨_, fd, F, He.glo_ok X G (c.fact 23 (f := .glo "_law_chain") rfl), FunD.bindsN F fun _ _ _ _ _ _ us hl => match us, hl with | [_, _], _ => rfl⟩
    | 24, d, hd, hn => by
      cases hd
      obtain ⟨fd, F⟩ := c.def_ 24 (d := dd 24 d24) rfl
      exact ⟨_, fd, F, He.glo_ok X G (c.fact 24 (f := .glo "_law_two") rfl), FunD.bindsN F fun _ _ _ _ _ _ us hl => match us, hl with | [_, _], _ => rfl⟩
    | 25, d, hd, hn => by
      cases hd
      obtain ⟨fd, F⟩ := c.def_ 25 (d := dd 25 d25) rfl
      exact ⟨_, fd, F, He.glo_ok X G (c.fact 25 (f := .glo "_law_needed") rfl), FunD.bindsN F fun _ _ _ _ _ _ us hl => match us, hl with | [_, _], _ => rfl⟩
    | 26, d, hd, hn => by
      cases hd
      obtain ⟨fd, F⟩ := c.def_ 26 (d := dd 26 d26) rfl
      exact ⟨_, fd, F, He.glo_ok X G (c.fact 26 (f := .glo "_law_matter") rfl), FunD.bindsN F fun _ _ _ _ _ _ us hl => match us, hl with | [_], _ => rfl⟩
    | 27, d, hd, hn => by
      cases hd
      obtain ⟨fd, F⟩ := c.def_ 27 (d := dd 27 d27) rfl
      exact ⟨_, fd, F, He.glo_ok X G (c.fact 27 (f := .glo "_law_reviewed") rfl), FunD.bindsN F fun _ _ _ _ _ _ us hl => match us, hl with | [_, _], _ => rfl⟩
    | 28, d, hd, hn => by
      cases hd
      obtain ⟨fd, F⟩ := c.def_ 28 (d := dd 28 d28) rfl
      exact ⟨_, fd, F, He.glo_ok X G (c.fact 28 (f := .glo "_law_at") rfl), FunD.bindsN F fun _ _ _ _ _ _ us hl => match us, hl with | [_, _, _], _ => rfl⟩
    | 29, d, hd, hn => by
      cases hd
      obtain ⟨fd, F⟩ := c.def_ 29 (d := dd 29 d29) rfl
      exact ⟨_, fd, F, He.glo_ok X G (c.fact 29 (f := .glo "_law_let") rfl), FunD.bindsN F fun _ _ _ _ _ _ us hl => match us, hl with | [_, _, _, _], _ => rfl⟩
    | 30, d, hd, hn => by
      cases hd
      obtain ⟨fd, F⟩ := c.def_ 30 (d := dd 30 d30) rfl
      exact ⟨_, fd, F, He.glo_ok X G (c.fact 30 (f := .glo "_law_levels") rfl), FunD.bindsN F fun _ _ _ _ _ _ us hl => match us, hl with | [_, _, _, _, _], _ => rfl⟩
    | 31, d, hd, hn => by
      cases hd
      obtain ⟨fd, F⟩ := c.def_ 31 (d := dd 31 d31) rfl
      exact ⟨_, fd, F, He.glo_ok X G (c.fact 31 (f := .glo "_law_best") rfl), FunD.bindsN F fun _ _ _ _ _ _ us hl => match us, hl with | [_, _, _, _, _], _ => rfl⟩
    | 32, d, hd, hn => by
      cases hd
      obtain ⟨fd, F⟩ := c.def_ 32 (d := dd 32 d32) rfl
      exact ⟨_, fd, F, He.glo_ok X G (c.fact 32 (f := .glo "_law_due_rulings") rfl), FunD.bindsN F fun _ _ _ _ _ _ us hl => match us, hl with | [_, _, _, _, _, _], _ => rfl⟩
    | 33, d, hd, hn => by
      cases hd
      obtain ⟨fd, F⟩ := c.def_ 33 (d := dd 33 d33) rfl
      exact ⟨_, fd, F, He.glo_ok X G (c.fact 33 (f := .glo "_law_row") rfl), FunD.bindsN F fun _ _ _ _ _ _ us hl => match us, hl with | [_, _, _], _ => rfl⟩
    | 34, d, hd, hn => by
      cases hd
      obtain ⟨fd, F⟩ := c.def_ 34 (d := dd 34 d34) rfl
      exact ⟨_, fd, F, He.glo_ok X G (c.fact 34 (f := .glo "_law_is_told") rfl), FunD.bindsN F fun _ _ _ _ _ _ us hl => match us, hl with | [_, _, _], _ => rfl⟩
    | 35, d, hd, hn => by
      cases hd
      obtain ⟨fd, F⟩ := c.def_ 35 (d := dd 35 d35) rfl
      exact ⟨_, fd, F, He.glo_ok X G (c.fact 35 (f := .glo "law") rfl), FunD.bindsN F fun _ _ _ _ _ _ us hl => match us, hl with | [_], _ => rfl⟩
    | n + 36, d, hd, hn => by cases hd
  chk := chk
  con := con_of (A := [d0, d1, d2, d3, d4, d5, d6, d7, d8, d9, d10, d11, d12, d13, d14, d15, d16, d17, d18, d19, d20, d21, d22, d23, d24, d25, d26, d27, d28, d29, d30, d31, d32, d33, d34, d35]) (cs := []) rfl (by decide +kernel) (fun p hp => by
    simp only [List.mem_cons, List.not_mem_nil, or_false] at hp)
  enu := He.free_ok X G (c.fact 51 (f := .free "enumerate") rfl)
  blt := fun b => by
    cases b
    · exact He.free_ok X G (c.fact 36 (f := .free "len") rfl)
    · exact He.free_ok X G (c.fact 37 (f := .free "int") rfl)
    · exact He.free_ok X G (c.fact 38 (f := .free "abs") rfl)
    · exact He.free_ok X G (c.fact 39 (f := .free "bool") rfl)
    · exact He.free_ok X G (c.fact 40 (f := .free "tuple") rfl)
    · exact He.free_ok X G (c.fact 41 (f := .free "list") rfl)
    · exact He.free_ok X G (c.fact 41 (f := .free "list") rfl)
    · exact He.free_ok X G (c.fact 42 (f := .free "max") rfl)
    · exact He.free_ok X G (c.fact 43 (f := .free "min") rfl)
    · exact He.free_ok X G (c.fact 44 (f := .free "sum") rfl)
    · exact He.free_ok X G (c.fact 45 (f := .free "any") rfl)
    · exact He.free_ok X G (c.fact 46 (f := .free "all") rfl)
    · exact He.free_ok X G (c.fact 47 (f := .free "str") rfl)
    · exact He.free_ok X G (c.fact 50 (f := .free "sorted") rfl)
    · exact He.free_ok X G (c.fact 50 (f := .free "sorted") rfl)
    · exact He.free_ok X G (c.fact 48 (f := .free "isinstance") rfl)
    · exact He.free_ok X G (c.fact 49 (f := .free "range") rfl)
  rng := He.free_ok X G (c.fact 49 (f := .free "range") rfl)
theorem facts {P : Program} {w : World} {K : PySem.W.Frag} {h : Heap} {mg : Str → Option Value} {f : Addr} (X : K.In h) (G : h.Ns mainGlobals mg) (hfa : mg ("law" : Str) = some (.ref f)) (c : He.SaysD fa fn K) :
    ∃ fd : FuncData, (∀ (s : Shared) (v : Value), BindsTo s fd ⟨[v], []⟩ [("script", v)]) ∧ ∀ base : Heap, K.In base → base.Ns mainGlobals mg → FnOk P w K mg base CX0 100 f fd ["script"] (spD K (callW tab 100 35)) := by
  have O := tabOk X G c
  obtain ⟨fd, F⟩ := c.def_ 35 (d := dd 35 d35) rfl
  have e := hfa.symm.trans (He.glo_ok X G (c.fact 35 (f := .glo "law") rfl))
  cases e
  have b := FunD.bindsA (ps := ["script"]) F fun _ _ _ _ _ _ us hl => match us, hl with | [_], _ => rfl
  exact ⟨fd, fun s v => b s [v] rfl, fun base _ _ => tab_ok O 100 35 d35 rfl rfl _ fd F⟩
end Tx
open PySem PySem.W PySem.Calls PyProof.Rows
theorem Tx.law_end (hl : ∀ ns : List Int, ns.length ≤ 63 → Ov.callW Tx.tab 100 35 [.ro (ns.map Ov.D.int)] [] fun d _ => d = .bl true) : PySem.Challenge.rw_overturn_k32_whole_cheapest_rulings.Holds := by
  w_on; o_law
  refine HandSHeadRun.head_any (r := OpenLaw.row PySem.Challenge.rw_overturn_k32_whole_cheapest_rulings) (q := view (OpenLaw.row PySem.Challenge.rw_overturn_k32_whole_cheapest_rulings).prog [39]) (H := Tx.hk) (ob := Tx.ob) (M := 4000) (loose := Tx.loose) (d := HandSHeadRun.topDef (OpenLaw.row PySem.Challenge.rw_overturn_k32_whole_cheapest_rulings).prog 39) (kwd := []) Tx.ob_eq
    (by kernel_rfl) (fun s => by kernel_rfl) Tx.run (by kernel_rfl) (by kernel_rfl) (by kernel_rfl) (by rfl) (by first | assumption | decide +kernel) (by decide +kernel) ⟨rfl, rfl, rfl, rfl, rfl, by decide +kernel⟩ ?hw ?hc
  case hw => w_witness2
  case hc =>
    refine L2.walk_ofE (l := PySem.Challenge.rw_overturn_k32_whole_cheapest_rulings) (n := 63) (k := 100) (x := "script") (CX := L2.CX0) rfl (by decide) (by kernel_rfl) ⟨rfl, by decide, by decide⟩ ?F (fun _ _ _ _ z => z)
    intro w mg fa h Y G hmg0
    obtain ⟨K, KX, c⟩ := Y
    have hmg : mg ("law" : PySem.Str) = some (.ref fa) := by
      have e : (HandSHeadRun.topDef (OpenLaw.row PySem.Challenge.rw_overturn_k32_whole_cheapest_rulings).prog 39).name = ("law" : PySem.Str) := by kernel_rfl
      rw [← e]
      exact hmg0
    obtain ⟨fd, hb, hF⟩ := Tx.facts (P := (PySem.Challenge.rw_overturn_k32_whole_cheapest_rulings).prog) (w := w) KX G hmg c
    exact ⟨K, fd, _, KX, hb, Ov.law_sp hl, hF⟩
-- K32_law
namespace Ov
open PySem L2
local macro_rules | `(tactic| walk_at "w") => `(tactic| conv => whnf)
local macro_rules | `(tactic| walk_at "y") => `(tactic| refine ⟨fun _ => ?_, fun hb => y_end hb⟩)
local macro_rules | `(tactic| walk_at "n") => `(tactic| refine ⟨fun hb => n_end hb, fun _ => ?_⟩)

/-- a ruling: so many votes for the finding, the others against it -/
def rul (b : Int) (fi : Bool) (m : Int) : List Bool := List.replicate m.toNat fi ++ List.replicate (b - m).toNat (!fi)
theorem votesOf_spec {n : Nat} {b m : Int} (fi : Bool) (h0 : 0 ≤ m) (h1 : m ≤ b) (h2 : b ≤ 100) {S : Sto} {k : WK} (h : k (.str (txt (rul b fi m))) S) : Run Tx.tab (n + 1) 11 [.int b, .bl fi, .int m] S k := by
  refine run_of Tx.tab11 rfl ?_
  have e1 : ∀ j : Int, strRep "1" j.toNat = txt (List.replicate j.toNat true) := fun j => rep_one true _
  have e0 : ∀ j : Int, strRep "0" j.toNat = txt (List.replicate j.toNat false) := fun j => rep_one false _
  cases fi with
  | true =>
    walk_at "w"
    walk_at "y"
    walk_at "w"
    refine ⟨rfl, ?_⟩
    walk_at "w"
    refine ⟨⟨by omega, by omega, by show 1 ≤ 1000; decide⟩, ?_⟩
    walk_at "w"
    refine ⟨⟨by omega, by omega, by show 1 ≤ 1000; decide⟩, ?_⟩
    walk_at "w"
    rw [e1, e0]
    refine ⟨by rw [txt_len, txt_len, List.length_replicate, List.length_replicate]; show _ ≤ 16777216; omega, ?_⟩
    rw [txt_app]
    exact h
  | false =>
    walk_at "w"
    walk_at "n"
    walk_at "w"
    refine ⟨rfl, ?_⟩
    walk_at "w"
    refine ⟨⟨by omega, by omega, by show 1 ≤ 1000; decide⟩, ?_⟩
    walk_at "w"
    refine ⟨⟨by omega, by omega, by show 1 ≤ 1000; decide⟩, ?_⟩
    walk_at "w"
    rw [e1, e0]
    refine ⟨by rw [txt_len, txt_len, List.length_replicate, List.length_replicate]; show _ ≤ 16777216; omega, ?_⟩
    rw [txt_app]
    exact h
theorem vt_in {fi : Bool} {x j : Int} (hj : Maj j) (hx : 1 ≤ x) : 1 ≤ vt fi x j ∧ vt fi x j ≤ x := by
  have := vft_in hj hx
  unfold vt
  split <;> omega
/-- the rulings by which the finding stays, level by level -/
def kept (ct : Nat → Ct) (fi : Bool) (lv m : Nat) : List D := (List.range m).map fun i => D.str (txt (rul (ct (lv + i)).b fi (ct (lv + i)).b))
theorem kept_succ (ct : Nat → Ct) (fi : Bool) (lv m : Nat) : kept ct fi lv (m + 1) = kept ct fi lv m ++ [.str (txt (rul (ct (lv + m)).b fi (ct (lv + m)).b))] := by
  unfold kept
  rw [List.range_succ, List.map_append]
  rfl
theorem kept_len (ct : Nat → Ct) (fi : Bool) (lv m : Nat) : (kept ct fi lv m).length = m := by simp [kept]
/-- the first level with the least number of votes against the finding -/
structure Fst (ct : Nat → Ct) (m : Mt) (fi : Bool) (lv mm : Nat) (v : Int) (i : Nat) (x : Int) : Prop where
  lt : i < mm
  bench : bench (ct (lv + i)) m.bd ((lv + i : Nat) : Int) (!fi) = some x
  val : vt (!fi) x m.mj = v
  min : ∀ j, j < i → vAt (ct (lv + j)) m ((lv + j : Nat) : Int) (!fi) ≠ some v
theorem Fst.ex {ct : Nat → Ct} {m : Mt} {fi : Bool} {lv mm : Nat} {v : Int} (h : Mn (osL ct m lv mm (!fi)) (some v)) : ∃ i x, Fst ct m fi lv mm v i x := by
  obtain ⟨h1, _⟩ := h
  unfold osL at h1
  obtain ⟨i, hi, e⟩ := List.mem_map.mp h1
  have hi := List.mem_range.mp hi
  have : ∀ n i, i < n → i < mm → vAt (ct (lv + i)) m ((lv + i : Nat) : Int) (!fi) = some v → ∃ i x, Fst ct m fi lv mm v i x := by
    intro n
    induction n with
    | zero => exact fun i h => absurd h (Nat.not_lt_zero i)
    | succ n ih =>
      intro i hn hi e
      by_cases hx : ∃ j, j < i ∧ vAt (ct (lv + j)) m ((lv + j : Nat) : Int) (!fi) = some v
      · obtain ⟨j, hj, e2⟩ := hx
        exact ih j (by omega) (by omega) e2
      · have e2 := e
        unfold vAt at e2
        cases q : Ov.bench (ct (lv + i)) m.bd ((lv + i : Nat) : Int) (!fi) with
        | none => rw [q] at e2; cases e2
        | some x =>
          rw [q] at e2
          exact ⟨i, x, hi, q, Option.some.inj e2, fun j hj e3 => hx ⟨j, hj, e3⟩⟩
  exact this (i + 1) i (Nat.lt_succ_self i) hi e
section
variable {cs : List D} {l : List Nat} {ct : Nat → Ct} (c : Ch cs l ct)
include c
theorem cheapest_spec {n : Nat} (m : Mt) (hj : Maj m.mj) (fi : Bool) (lv : Nat) (top : Int) {mm : Nat} (hm : LvN (okL l ct m top) lv mm) (hmm : mm ≤ 9) {r : Option Int} (hr : Mn (osL ct m lv mm (!fi)) r) {S : Sto} {k : WK}
    (h0 : r = none → ∀ S', Keep S S' → k .non S') (h1 : ∀ v i x, r = some v → Fst ct m fi lv mm v i x → ∀ S', Keep S S' → k (.tup (kept ct fi lv i ++ [.str (txt (rul x (!fi) v))])) S') : Run Tx.tab (n + 6) 12 [.tup cs, .tup (natD l), mtD m, .bl fi, .int lv, .int top] S k := by
  refine run_of Tx.tab12 rfl ?_
  obtain ⟨r1, n1⟩ := Mn.ex (osL ct m lv mm true)
  obtain ⟨r2, n2⟩ := Mn.ex (osL ct m lv mm false)
  walk_at "w"
  refine reviewPath_spec c Tx.tab10 Tx.tab9 Tx.tab4 Tx.tab7 Tx.tab6 Tx.tab5 Tx.tab2 Tx.tab1 Tx.tab0 m hj lv top hm hmm n1 n2 fun S1 k1 => ?_
  have rest : wSs (Run Tx.tab (n + 5)) (Tx.d12.body.drop 3) [some (.tup cs), some (.tup (natD l)), some (mtD m), some (.bl fi), some (.int lv), some (.int top), some (.bl (!fi)), some (opD r), none, none, some (.tup (lvD lv mm)), some (opD r1), some (opD r2), none, none] S1 { nx := fun _ S1 => k .non S1, rt := k } := by
    cases r with
    | none =>
      walk_at "w"
      walk_at "y"
      exact h0 rfl S1 k1
    | some v =>
      obtain ⟨i0, x0, F⟩ := Fst.ex hr
      have h1 := h1 v i0 x0 rfl F
      walk_at "w"
      walk_at "n"
      walk_at "w"
      refine ⟨trivial, ?_⟩
      refine for_inv (Run_mono Tx.tab (n + 5)) (fun i σ S2 => i ≤ i0 ∧ ∃ v9 v13 v14, σ = [some (.tup cs), some (.tup (natD l)), some (mtD m), some (.bl fi), some (.int lv), some (.int top), some (.bl (!fi)), some (.int v), some (.ptr S1.length), v9, some (.tup (lvD lv mm)), some (opD r1), some (opD r2), v13, v14] ∧ S2[S1.length]? = some (kept ct fi lv i) ∧ Keep S1 S2)
        ⟨Nat.zero_le _, none, none, none, rfl, List.getElem?_concat_length .., Keep.app _ _⟩ ?_ ?_
      · rintro i x σ S2 hx ⟨hi, v9, v13, v14, rfl, e2, k2⟩
        obtain ⟨him, rfl⟩ := lvD_at hx
        have hq := okL_lt c (hm.1 i him)
        obtain ⟨g1, g2⟩ := c.get hq
        have oc := c.ok _ hq
        have ho := c.short
        have hlt := (List.getElem?_eq_some_iff.mp e2).1
        have stop : vAt (ct (lv + i)) m ((lv + i : Nat) : Int) (!fi) = some v → i = i0 := fun e => by
          by_cases q : i < i0
          · exact absurd e (F.min i q)
          · omega
        have go : vAt (ct (lv + i)) m ((lv + i : Nat) : Int) (!fi) ≠ some v → i < i0 := fun e => by
          by_cases q : i = i0
          · rw [q] at e
            refine absurd ?_ e
            unfold vAt
            rw [F.bench, ← F.val]
            rfl
          · omega
        have ks := kept_succ ct fi lv i
        have fb := F.bench
        have fv := F.val
        walk_at "w"
        rw [at_n g1]
        walk_at "w"
        rw [at_n g2]
        walk_at "w"
        refine votesAt_spec Tx.tab6 Tx.tab5 Tx.tab2 Tx.tab1 (ct (lv + i)) m hj ((lv + i : Nat) : Int) (!fi) ?_
        walk_at "w"
        refine ⟨opD_ok _ (some v), ?_⟩
        refine ⟨fun e => ?_, fun e => ?_⟩
        · have e : decide (vAt (ct (lv + i)) m ((lv + i : Nat) : Int) (!fi) = some v) = true := (opD_eq _ (some v)).symm.trans e
          have hi0 := stop (of_decide_eq_true e)
          subst hi0
          have xin := bench_in oc fb
          have vin := vt_in (fi := !fi) hj xin.1
          rw [fv] at vin
          walk_at "w"
          refine ⟨trivial, ?_⟩
          walk_at "w"
          refine bench_spec Tx.tab5 (ct (lv + i)) m ((lv + i : Nat) : Int) (!fi) ?_
          rw [fb]
          walk_at "w"
          refine votesOf_spec (!fi) (by omega) vin.2 (by omega) ?_
          walk_at "w"
          rw [e2]
          refine ⟨by rw [kept_len]; show _ < 16777216; omega, ?_⟩
          walk_at "w"
          rw [show seqOf (S2.set S1.length (kept ct fi lv i ++ [.str (txt (rul x0 (!fi) v))])) (.ptr S1.length) = some (kept ct fi lv i ++ [.str (txt (rul x0 (!fi) v))]) from List.getElem?_set_self hlt]
          exact h1 _ ((k1.trans k2).own k1.1 _)
        · have e : decide (vAt (ct (lv + i)) m ((lv + i : Nat) : Int) (!fi) = some v) = false := (opD_eq _ (some v)).symm.trans e
          have hi0 := go (of_decide_eq_false e)
          walk_at "w"
          refine ⟨trivial, ?_⟩
          walk_at "w"
          refine votesOf_spec fi (by have := oc.b1; omega) (Int.le_refl _) (by have := oc.b2; omega) ?_
          walk_at "w"
          rw [e2]
          refine ⟨by rw [kept_len]; show _ < 16777216; omega, ?_⟩
          exact ⟨hi0, _, _, _, rfl, by rw [List.getElem?_set_self hlt, ks], k2.own (Nat.le_refl _) _⟩
      · rintro σ S2 ⟨hi, v9, v13, v14, rfl, e2, k2⟩
        rw [lvD_len] at hi
        have := F.lt
        omega
  cases fi with
  | true =>
    have q2 : r2 = r := n2.min.symm.trans hr.min
    subst q2
    conv at rest => whnf
    walk_at "w"
    refine ⟨rfl, ?_⟩
    walk_at "w"
    walk_at "n"
    walk_at "w"
    exact rest
  | false =>
    have q2 : r1 = r := n1.min.symm.trans hr.min
    subst q2
    conv at rest => whnf
    walk_at "w"
    refine ⟨rfl, ?_⟩
    walk_at "w"
    walk_at "y"
    walk_at "w"
    exact rest
theorem due_spec {n : Nat} (m : Mt) (hj : Maj m.mj) (fi : Bool) (lv : Nat) (top : Int) {mm : Nat} (hm : LvN (okL l ct m top) lv mm) (hmm : mm ≤ 9) {r : Option Int} (hr : Mn (osL ct m lv mm (!fi)) r) {S : Sto} {k : WK}
    (h0 : r = none → ∀ S', Keep S S' → k .non S') (h1 : ∀ v i x, r = some v → Fst ct m fi lv mm v i x → ∀ S', Keep S S' → k (.tup (kept ct fi lv i ++ [.str (txt (rul x (!fi) v))])) S') : Run Tx.tab (n + 5) 32 [.tup cs, .tup (natD l), mtD m, .bl fi, .tup (lvD lv mm), opD r] S k := by
  refine run_of Tx.tab32 rfl ?_
  -- one more level at which the finding stays
  have stay : ∀ (i : Nat) (S2 : Sto) (v9 : Option D) (E : DEnds), i < mm → (E.nx [some (.tup cs), some (.tup (natD l)), some (mtD m), some (.bl fi), some (.tup (lvD lv mm)), some (opD r), some (.tup (kept ct fi lv (i + 1))), some (.int ((lv + i : Nat) : Int)), some (ctD (ct (lv + i))), v9] S2) →
      wSs (Run Tx.tab (n + 4)) (match Tx.d32.body with
        | [_, .forS _ _ _ b, _] => b.drop 2
        | _ => []) [some (.tup cs), some (.tup (natD l)), some (mtD m), some (.bl fi), some (.tup (lvD lv mm)), some (opD r), some (.tup (kept ct fi lv i)), some (.int ((lv + i : Nat) : Int)), some (ctD (ct (lv + i))), v9] S2 E := by
    intro i S2 v9 E hi hE
    have oc := c.ok _ (okL_lt c (hm.1 i hi))
    have b1 := oc.b1
    have b2 := oc.b2
    rw [kept_succ] at hE
    have er : txt (rul (ct (lv + i)).b fi (ct (lv + i)).b) = txt (List.replicate (ct (lv + i)).b.toNat fi) := by
      unfold rul
      rw [show ((ct (lv + i)).b - (ct (lv + i)).b).toNat = 0 by omega, List.replicate_zero, List.append_nil]
    rw [er] at hE
    have kl := kept_len ct fi lv i
    generalize kept ct fi lv i = ke at hE kl ⊢
    generalize ct (lv + i) = co at hE oc b1 b2 ⊢
    cases fi with
    | true =>
      walk_at "w"
      refine ⟨by decide, ?_⟩
      walk_at "w"
      refine ⟨⟨by omega, by omega, by show 1 ≤ 1000; decide⟩, ?_⟩
      walk_at "w"
      refine ⟨by rw [kl]; show _ + 1 ≤ 16777216; omega, ?_⟩
      walk_at "w"
      rw [show txt (List.replicate co.b.toNat true) = strRep ⟨#[chB true]⟩ co.b.toNat from (rep_one true _).symm] at hE
      exact hE
    | false =>
      walk_at "w"
      refine ⟨by decide, ?_⟩
      walk_at "w"
      refine ⟨⟨by omega, by omega, by show 1 ≤ 1000; decide⟩, ?_⟩
      walk_at "w"
      refine ⟨by rw [kl]; show _ + 1 ≤ 16777216; omega, ?_⟩
      walk_at "w"
      rw [show txt (List.replicate co.b.toNat false) = strRep ⟨#[chB false]⟩ co.b.toNat from (rep_one false _).symm] at hE
      exact hE
  cases r with
  | none =>
    walk_at "w"
    refine ⟨trivial, ?_⟩
    refine for_inv (Run_mono Tx.tab (n + 4)) (fun i σ S2 => i ≤ mm ∧ ∃ v7 v8 v9, σ = [some (.tup cs), some (.tup (natD l)), some (mtD m), some (.bl fi), some (.tup (lvD lv mm)), some .non, some (.tup (kept ct fi lv i)), v7, v8, v9] ∧ Keep S S2) ⟨Nat.zero_le _, none, none, none, rfl, Keep.refl S⟩ ?_ ?_
    · rintro i x σ S2 hx ⟨hi, v7, v8, v9, rfl, k2⟩
      obtain ⟨him, rfl⟩ := lvD_at hx
      have hq := okL_lt c (hm.1 i him)
      obtain ⟨g1, g2⟩ := c.get hq
      walk_at "w"
      rw [at_n g1]
      walk_at "w"
      rw [at_n g2]
      walk_at "w"
      walk_at "n"
      walk_at "w"
      walk_at "n"
      exact stay i S2 v9 _ him ⟨him, _, _, _, rfl, k2⟩
    · rintro σ S2 ⟨hi, v7, v8, v9, rfl, k2⟩
      exact h0 rfl S2 k2
  | some v =>
    obtain ⟨i0, x0, F⟩ := Fst.ex hr
    have h1 := h1 v i0 x0 rfl F
    walk_at "w"
    refine ⟨trivial, ?_⟩
    refine for_inv (Run_mono Tx.tab (n + 4)) (fun i σ S2 => i ≤ i0 ∧ ∃ v7 v8 v9, σ = [some (.tup cs), some (.tup (natD l)), some (mtD m), some (.bl fi), some (.tup (lvD lv mm)), some (.int v), some (.tup (kept ct fi lv i)), v7, v8, v9] ∧ Keep S S2) ⟨Nat.zero_le _, none, none, none, rfl, Keep.refl S⟩ ?_ ?_
    · rintro i x σ S2 hx ⟨hi, v7, v8, v9, rfl, k2⟩
      obtain ⟨him, rfl⟩ := lvD_at hx
      have hq := okL_lt c (hm.1 i him)
      obtain ⟨g1, g2⟩ := c.get hq
      have oc := c.ok _ hq
      have stop : vAt (ct (lv + i)) m ((lv + i : Nat) : Int) (!fi) = some v → i = i0 := fun e => by
        by_cases q : i < i0
        · exact absurd e (F.min i q)
        · omega
      have go : vAt (ct (lv + i)) m ((lv + i : Nat) : Int) (!fi) ≠ some v → i < i0 := fun e => by
        by_cases q : i = i0
        · rw [q] at e
          refine absurd ?_ e
          unfold vAt
          rw [F.bench, ← F.val]
          rfl
        · omega
      walk_at "w"
      rw [at_n g1]
      walk_at "w"
      rw [at_n g2]
      walk_at "w"
      walk_at "y"
      walk_at "w"
      refine at_spec Tx.tab28 Tx.tab25 Tx.tab24 oc m hj ((lv + i : Nat) : Int) fun S3 k3 => ?_
      -- the ruling that turns the finding
      have fin : ∀ (v9 : Option D) (nx bk ct' : DEnv → Sto → Prop), i = i0 → wSs (Run Tx.tab (n + 4)) [.ret (.bin .add (.var 6) (.tup [(.bin .add (.bin .mul (.idx (.str "10") (.bi .int [(.var 3)])) (.var 5)) (.bin .mul (.idx (.str "01") (.bi .int [(.var 3)])) (.bin .sub (.var 9) (.var 5))))]))]
          [some (.tup cs), some (.tup (natD l)), some (mtD m), some (.bl fi), some (.tup (lvD lv mm)), some (.int v), some (.tup (kept ct fi lv i)), some (.int ((lv + i : Nat) : Int)), some (ctD (ct (lv + i))), some (.int x0)] S3 { nx := nx, rt := k, bk := bk, ct := ct' } := by
        rintro v9 nx bk ct' rfl
        have h1 := h1 S3 (k2.trans k3)
        have xin := bench_in oc F.bench
        have vin := vt_in (fi := !fi) hj xin.1
        rw [F.val] at vin
        have kl := kept_len ct fi lv i
        generalize kept ct fi lv i = ke at h1 kl ⊢
        unfold rul at h1
        rw [← txt_app] at h1
        cases fi with
        | true =>
          rw [show txt (List.replicate v.toNat (!true)) = strRep ⟨#[chB false]⟩ v.toNat from (rep_one false _).symm, show txt (List.replicate (x0 - v).toNat (!!true)) = strRep ⟨#[chB true]⟩ (x0 - v).toNat from (rep_one true _).symm] at h1
          have l1 : (strRep ⟨#[chB false]⟩ v.toNat).length = v.toNat := by rw [rep_one, txt_len, List.length_replicate]
          have l2 : (strRep ⟨#[chB true]⟩ (x0 - v).toNat).length = (x0 - v).toNat := by rw [rep_one, txt_len, List.length_replicate]
          walk_at "w"
          refine ⟨by decide, ?_⟩
          walk_at "w"
          refine ⟨⟨by omega, by omega, by show 1 ≤ 1000; decide⟩, ?_⟩
          walk_at "w"
          refine ⟨by decide, ?_⟩
          walk_at "w"
          refine ⟨⟨by omega, by omega, by show 1 ≤ 1000; decide⟩, ?_⟩
          walk_at "w"
          refine ⟨by show (strRep ⟨#[chB false]⟩ v.toNat).length + (strRep ⟨#[chB true]⟩ (x0 - v).toNat).length ≤ 16777216; omega, ?_⟩
          walk_at "w"
          refine ⟨by rw [kl]; show _ + 1 ≤ 16777216; omega, ?_⟩
          exact h1
        | false =>
          rw [show txt (List.replicate v.toNat (!false)) = strRep ⟨#[chB true]⟩ v.toNat from (rep_one true _).symm, show txt (List.replicate (x0 - v).toNat (!!false)) = strRep ⟨#[chB false]⟩ (x0 - v).toNat from (rep_one false _).symm] at h1
          have l1 : (strRep ⟨#[chB true]⟩ v.toNat).length = v.toNat := by rw [rep_one, txt_len, List.length_replicate]
          have l2 : (strRep ⟨#[chB false]⟩ (x0 - v).toNat).length = (x0 - v).toNat := by rw [rep_one, txt_len, List.length_replicate]
          walk_at "w"
          refine ⟨by decide, ?_⟩
          walk_at "w"
          refine ⟨⟨by omega, by omega, by show 1 ≤ 1000; decide⟩, ?_⟩
          walk_at "w"
          refine ⟨by decide, ?_⟩
          walk_at "w"
          refine ⟨⟨by omega, by omega, by show 1 ≤ 1000; decide⟩, ?_⟩
          walk_at "w"
          refine ⟨by show (strRep ⟨#[chB true]⟩ v.toNat).length + (strRep ⟨#[chB false]⟩ (x0 - v).toNat).length ≤ 16777216; omega, ?_⟩
          walk_at "w"
          refine ⟨by rw [kl]; show _ + 1 ≤ 16777216; omega, ?_⟩
          exact h1
      have size : ∀ (nx bk ct' : DEnv → Sto → Prop), i = i0 → wSs (Run Tx.tab (n + 4)) (match Tx.d32.body with
        | [_, .forS _ _ _ [_, .ite _ b _, _], _] => b
        | _ => []) [some (.tup cs), some (.tup (natD l)), some (mtD m), some (.bl fi), some (.tup (lvD lv mm)), some (.int v), some (.tup (kept ct fi lv i)), some (.int ((lv + i : Nat) : Int)), some (ctD (ct (lv + i))), v9] S3 { nx := nx, rt := k, bk := bk, ct := ct' } := by
        intro nx bk ct' hi0
        have fb := F.bench
        rw [← hi0] at fb
        have fin := fun nx => fin v9 nx bk ct' hi0
        generalize ct (lv + i) = co at fb fin ⊢
        generalize kept ct fi lv i = ke at fin ⊢
        rcases m with ⟨ol, mj, am, bd⟩
        cases bd with
        | none =>
          have fb : some co.b = some x0 := fb
          rw [← Option.some.inj fb] at fin
          have q := fin nx
          conv at q => whnf
          walk_at "w"
          walk_at "n"
          walk_at "w"
          walk_at "n"
          walk_at "w"
          exact q
        | some p =>
          obtain ⟨bl, bf⟩ := p
          have fb : (if (!fi) = bf ∨ bl < ((lv + i : Nat) : Int) then some co.b else if ((lv + i : Nat) : Int) = bl then some co.fu else none) = some x0 := fb
          walk_at "w"
          walk_at "y"
          walk_at "w"
          refine ⟨rfl, ?_⟩
          refine ⟨fun e => ?_, fun e => ?_⟩
          · have e : ((bl == ((lv + i : Nat) : Int)) && ((bf == fi) && true)) = true := e
            rw [Bool.and_eq_true, Bool.and_true] at e
            have e1 : bl = ((lv + i : Nat) : Int) := eq_of_beq e.1
            have e2 : bf = fi := eq_of_beq e.2
            rw [if_neg (fun z => z.elim (fun z => by rw [e2] at z; cases fi <;> cases z) (by omega)), if_pos e1.symm] at fb
            rw [← Option.some.inj fb] at fin
            have q := fin nx
            conv at q => whnf
            walk_at "w"
            exact q
          · have e : ((bl == ((lv + i : Nat) : Int)) && ((bf == fi) && true)) = false := e
            rw [Bool.and_true] at e
            have xb : co.b = x0 := by
              split at fb
              · exact Option.some.inj fb
              · rename_i z
                split at fb
                · rename_i z2
                  have b1 : bf = fi := by
                    cases bf <;> cases fi <;> first | rfl | exact absurd (Or.inl rfl) z
                  rw [b1, ← z2, beq_self_eq_true, beq_self_eq_true] at e
                  cases e
                · cases fb
            rw [← xb] at fin
            have q := fin nx
            conv at q => whnf
            walk_at "w"
            exact q
      cases fi with
      | true =>
        walk_at "w"
        refine ⟨opD_ok _ (some v), ?_⟩
        refine ⟨fun e => ?_, fun e => ?_⟩
        · have e : decide (vAt (ct (lv + i)) m ((lv + i : Nat) : Int) false = some v) = true := (opD_eq _ (some v)).symm.trans e
          exact size _ _ _ (stop (of_decide_eq_true e))
        · have e : decide (vAt (ct (lv + i)) m ((lv + i : Nat) : Int) false = some v) = false := (opD_eq _ (some v)).symm.trans e
          exact stay i S3 v9 _ him ⟨go (of_decide_eq_false e), _, _, _, rfl, k2.trans k3⟩
      | false =>
        walk_at "w"
        refine ⟨opD_ok _ (some v), ?_⟩
        refine ⟨fun e => ?_, fun e => ?_⟩
        · have e : decide (vAt (ct (lv + i)) m ((lv + i : Nat) : Int) true = some v) = true := (opD_eq _ (some v)).symm.trans e
          exact size _ _ _ (stop (of_decide_eq_true e))
        · have e : decide (vAt (ct (lv + i)) m ((lv + i : Nat) : Int) true = some v) = false := (opD_eq _ (some v)).symm.trans e
          exact stay i S3 v9 _ him ⟨go (of_decide_eq_false e), _, _, _, rfl, k2.trans k3⟩
    · rintro σ S2 ⟨hi, v7, v8, v9, rfl, k2⟩
      rw [lvD_len] at hi
      have := F.lt
      omega
end
/-! ### the law's least sum -/
def addO : Option Int → Int → Option Int
  | none, _ => none
  | some a, b => some (a + b)
theorem sum_spec {n : Nat} (a : Option Int) (b : Int) {S : Sto} {k : WK} (h : k (opD (addO a b)) S) : Run Tx.tab (n + 1) 19 [opD a, .int b] S k := by
  refine run_of Tx.tab19 rfl ?_
  cases a with
  | none =>
    walk_at "w"
    walk_at "y"
    walk_at "w"
    walk_at "y"
    exact h
  | some a =>
    walk_at "w"
    walk_at "n"
    walk_at "w"
    walk_at "n"
    exact h
def bsOf (sz i : Nat) : List Bool := List.replicate i true ++ List.replicate (sz - i) false
theorem bsOf_len {sz i : Nat} (h : i ≤ sz) : (bsOf sz i).length = sz := by
  unfold bsOf
  rw [List.length_append, List.length_replicate, List.length_replicate]
  omega
theorem bsOf_true (sz i : Nat) : (bsOf sz i).count true = i := by
  unfold bsOf
  rw [List.count_append, List.count_replicate_self, List.count_replicate, if_neg (by decide)]
  omega
theorem bsOf_false (sz i : Nat) : (bsOf sz i).count false = sz - i := by
  unfold bsOf
  rw [List.count_append, List.count_replicate_self, List.count_replicate, if_neg (by decide)]
  omega
/-- what is held for both findings: false, true -/
def twoD (A : Bool → Option Int) : List D := [opD (A false), opD (A true)]
structure Lb (c : Ct) (m : Mt) (lv : Int) (s A : Bool → Option Int) : Prop where
  ex : ∀ t w, A t = some w → ∃ (bs : List Bool) (b : Bool) (s0 : Int), s b = some s0 ∧ letB c m lv bs = true ∧ two m.mj bs = t ∧ w = s0 + (bs.count (!b) : Nat)
def LeO (A B : Bool → Option Int) : Prop := ∀ t w, A t = some w → ∃ w', B t = some w' ∧ w' ≤ w
theorem LeO.refl (A : Bool → Option Int) : LeO A A := fun t w h => ⟨w, h, Int.le_refl w⟩
theorem LeO.trans {A B C : Bool → Option Int} (a : LeO A B) (b : LeO B C) : LeO A C := fun t w h => by
  obtain ⟨w1, h1, h2⟩ := a t w h
  obtain ⟨w2, h3, h4⟩ := b t w1 h1
  exact ⟨w2, h3, Int.le_trans h4 h2⟩
def Hit (c : Ct) (m : Mt) (lv : Int) (s A : Bool → Option Int) (bs : List Bool) : Prop := letB c m lv bs = true → ∀ b s0, s b = some s0 → ∃ w, A (two m.mj bs) = some w ∧ w ≤ s0 + (bs.count (!b) : Nat)
theorem Hit.le {c : Ct} {m : Mt} {lv : Int} {s A B : Bool → Option Int} {bs : List Bool} (h : Hit c m lv s A bs) (l : LeO A B) : Hit c m lv s B bs := fun q b s0 e => by
  obtain ⟨w, h1, h2⟩ := h q b s0 e
  obtain ⟨w', h3, h4⟩ := l _ _ h1
  exact ⟨w', h3, Int.le_trans h4 h2⟩
def putO (A : Bool → Option Int) (t : Bool) (x : Option Int) : Bool → Option Int := fun u => if u = t then stpO (A t) x else A u
theorem stpO_le (a x : Option Int) : (∀ w, a = some w → ∃ w', stpO a x = some w' ∧ w' ≤ w) ∧ (∀ w, x = some w → ∃ w', stpO a x = some w' ∧ w' ≤ w) ∧ (∀ w, stpO a x = some w → a = some w ∨ x = some w) := by
  unfold stpO
  cases a with
  | none =>
    cases x with
    | none => exact ⟨(fun w h => nomatch h), (fun w h => nomatch h), (fun w h => by cases h)⟩
    | some b => exact ⟨(fun w h => nomatch h), fun w h => ⟨b, rfl, by cases h; exact Int.le_refl _⟩, fun w h => .inr h⟩
  | some a =>
    cases x with
    | none => exact ⟨fun w h => ⟨a, rfl, by cases h; exact Int.le_refl _⟩, (fun w h => nomatch h), fun w h => .inl h⟩
    | some b =>
      by_cases q : b < a
      · rw [if_pos (show lessB (some b) (some a) = true from decide_eq_true q)]
        exact ⟨fun w h => ⟨b, rfl, by cases h; omega⟩, fun w h => ⟨b, rfl, by cases h; omega⟩, fun w h => .inr h⟩
      · rw [if_neg (show ¬ lessB (some b) (some a) = true by rw [show lessB (some b) (some a) = false from decide_eq_false q]; exact Bool.false_ne_true)]
        exact ⟨fun w h => ⟨a, rfl, by cases h; omega⟩, fun w h => ⟨a, rfl, by cases h; omega⟩, fun w h => .inl h⟩
theorem putO_le (A : Bool → Option Int) (t : Bool) (x : Option Int) : LeO A (putO A t x) := fun u w h => by
  unfold putO
  by_cases q : u = t
  · rw [if_pos q]
    subst q
    exact (stpO_le (A u) x).1 w h
  · rw [if_neg q]
    exact ⟨w, h, Int.le_refl w⟩
theorem putO_get (A : Bool → Option Int) (t : Bool) (x : Option Int) {w : Int} (h : x = some w) : ∃ w', putO A t x t = some w' ∧ w' ≤ w := by
  unfold putO
  rw [if_pos rfl]
  exact (stpO_le (A t) x).2.1 w h
theorem putO_lb {c : Ct} {m : Mt} {lv : Int} {s A : Bool → Option Int} (h : Lb c m lv s A) {bs : List Bool} (hl : letB c m lv bs = true) (b : Bool) : Lb c m lv s (putO A (two m.mj bs) (addO (s b) (bs.count (!b) : Nat))) := ⟨fun u w e => by
  unfold putO at e
  by_cases q : u = two m.mj bs
  · rw [if_pos q] at e
    rcases (stpO_le _ _).2.2 w e with e | e
    · rw [← q] at e
      exact h.ex u w e
    · cases hs : s b with
      | none => rw [hs] at e; cases e
      | some s0 =>
        rw [hs] at e
        exact ⟨bs, b, s0, hs, hl, q.symm, (Option.some.inj e).symm⟩
  · rw [if_neg q] at e
    exact h.ex u w e⟩
theorem putO_fold (A : Bool → Option Int) (t : Bool) (x : Option Int) : (lessB x (A t) = true → twoD (putO A t x) = (twoD A).set (if t = true then 1 else 0) (opD x)) ∧ (lessB x (A t) = false → twoD (putO A t x) = twoD A) := by
  refine ⟨fun h => ?_, fun h => ?_⟩
  · cases t with
    | true =>
      show [opD (A false), opD (if lessB x (A true) = true then x else A true)] = _
      rw [if_pos h]
      rfl
    | false =>
      show [opD (if lessB x (A false) = true then x else A false), opD (A true)] = _
      rw [if_pos h]
      rfl
  · have h2 : ¬ lessB x (A t) = true := by rw [h]; exact Bool.false_ne_true
    cases t with
    | true =>
      show [opD (A false), opD (if lessB x (A true) = true then x else A true)] = _
      rw [if_neg h2]
      rfl
    | false =>
      show [opD (if lessB x (A false) = true then x else A false), opD (A true)] = _
      rw [if_neg h2]
      rfl
section
variable {c : Ct} {m : Mt} (hj : Maj m.mj) {lv : Int} {s : Bool → Option Int} {ps pa : Nat} (hp : ps ≠ pa) {S0 : Sto} (h0 : S0.length ≤ pa)
include hj hp h0
/-- the state: sums, after -/
def StB (s : Bool → Option Int) (ps pa : Nat) (S0 : Sto) (A : Bool → Option Int) (S : Sto) : Prop := S[ps]? = some (twoD s) ∧ S[pa]? = some (twoD A) ∧ Keep S0 S
omit hj in
theorem StB.put {A B : Bool → Option Int} {S : Sto} (h : StB s ps pa S0 A S) : StB s ps pa S0 B (S.set pa (twoD B)) := by
  obtain ⟨a, b, k⟩ := h
  refine ⟨by rw [List.getElem?_set_ne (Ne.symm hp)]; exact a, by rw [List.getElem?_set_self (List.getElem?_eq_some_iff.mp b).1], k.own h0 _⟩
theorem votes_body {n : Nat} {d0 d1 d3 d4 d6 : Option D} {sz i : Nat} (hi : i ≤ sz) (h9 : sz ≤ 9) {A : Bool → Option Int} (lb : Lb c m lv s A) {S : Sto} (st : StB s ps pa S0 A S) {v12 v13 v14 v15 : Option D} {E : DEnds}
    (hE : ∀ B v12 v13 v14 v15 S', Lb c m lv s B → LeO A B → Hit c m lv s B (bsOf sz i) → StB s ps pa S0 B S' → E.nx [d0, d1, some (mtD m), d3, d4, some (.ptr ps), d6, some (.int lv), some (ctD c), some (.ptr pa), some (.int sz), some (.int i), v12, v13, v14, v15] S') :
    wSs (Run Tx.tab (n + 3)) (match Tx.d31.body with
      | [_, _, _, .forS _ _ _ [_, _, .forS _ _ _ [.forS _ _ _ b], _, _], _] => b
      | _ => []) [d0, d1, some (mtD m), d3, d4, some (.ptr ps), d6, some (.int lv), some (ctD c), some (.ptr pa), some (.int sz), some (.int i), v12, v13, v14, v15] S E := by
  have e1 : strRep "1" (i : Int).toNat = txt (List.replicate i true) := by
    rw [Int.toNat_natCast]
    exact rep_one true i
  have e0 : strRep "0" ((sz : Int) - (i : Int)).toNat = txt (List.replicate (sz - i) false) := by
    rw [show ((sz : Int) - (i : Int)).toNat = sz - i by omega]
    exact rep_one false _
  have bl := bsOf_len hi
  walk_at "w"
  refine ⟨⟨by omega, by omega, by show 1 ≤ 1000; decide⟩, ?_⟩
  walk_at "w"
  refine ⟨⟨by omega, by omega, by show 1 ≤ 1000; decide⟩, ?_⟩
  walk_at "w"
  rw [e1, e0]
  refine ⟨by rw [txt_len, txt_len, List.length_replicate, List.length_replicate]; show _ ≤ 16777216; omega, ?_⟩
  rw [txt_app, show List.replicate i true ++ List.replicate (sz - i) false = bsOf sz i from rfl]
  walk_at "w"
  refine let_spec Tx.tab29 Tx.tab24 c m hj lv (by omega) ?_
  walk_at "w"
  refine ⟨fun q => ?_, fun q => ?_⟩
  · have q : letB c m lv (bsOf sz i) = true := q
    have bt := bsOf_true sz i
    have bf := bsOf_false sz i
    -- one turn of the loop
    have turn : ∀ (b t : Bool) (A' : Bool → Option Int) (S' : Sto) (v15 : Option D) (E' : DEnds), t = two m.mj (bsOf sz i) → Lb c m lv s A' → StB s ps pa S0 A' S' →
        (∀ v15 S2, StB s ps pa S0 (putO A' t (addO (s b) ((bsOf sz i).count (!b) : Nat))) S2 → E'.nx [d0, d1, some (mtD m), d3, d4, some (.ptr ps), d6, some (.int lv), some (ctD c), some (.ptr pa), some (.int sz), some (.int i), some (.str (txt (bsOf sz i))), some (.int (if t = true then 1 else 0)), some (.int (if b = true then 1 else 0)), v15] S2) →
        wSs (Run Tx.tab (n + 3)) (match Tx.d31.body with
          | [_, _, _, .forS _ _ _ [_, _, .forS _ _ _ [.forS _ _ _ [_, .ite _ [_, .forS _ _ _ b] _]], _, _], _] => b
          | _ => []) [d0, d1, some (mtD m), d3, d4, some (.ptr ps), d6, some (.int lv), some (ctD c), some (.ptr pa), some (.int sz), some (.int i), some (.str (txt (bsOf sz i))), some (.int (if t = true then 1 else 0)), some (.int (if b = true then 1 else 0)), v15] S' E' := by
      intro b t A' S' v15 E' ht lb' st' hE'
      obtain ⟨s1, s2, s3⟩ := st'
      have f := putO_fold A' t (addO (s b) ((bsOf sz i).count (!b) : Nat))
      have hlt := (List.getElem?_eq_some_iff.mp s2).1
      have stp : StB s ps pa S0 A' S' := ⟨s1, s2, s3⟩
      cases b <;> cases t
      · rw [show (bsOf sz i).count (!false) = i from bt] at f hE'
        generalize hB : putO A' false (addO (s false) (i : Int)) = B at f hE'
        walk_at "w"
        rw [show seqOf S' (.ptr ps) = _ from s1]
        walk_at "w"
        refine sum_spec (s false) (i : Int) ?_
        generalize addO (s false) (i : Int) = x at f ⊢
        walk_at "w"
        rw [show seqOf S' (.ptr pa) = _ from s2]
        walk_at "w"
        refine less_spec Tx.tab20 x (A' false) ?_
        walk_at "w"
        refine ⟨fun g => ?_, fun g => ?_⟩
        · have f := f.1 g
          walk_at "w"
          rw [s2]
          walk_at "w"
          have q := hE' (some (opD x)) (S'.set pa (twoD B)) (stp.put hp h0)
          rw [f] at q
          exact q
        · have f := f.2 g
          exact hE' (some (opD x)) S' ⟨s1, by rw [f]; exact s2, s3⟩
      · rw [show (bsOf sz i).count (!false) = i from bt] at f hE'
        generalize hB : putO A' true (addO (s false) (i : Int)) = B at f hE'
        walk_at "w"
        rw [show seqOf S' (.ptr ps) = _ from s1]
        walk_at "w"
        refine sum_spec (s false) (i : Int) ?_
        generalize addO (s false) (i : Int) = x at f ⊢
        walk_at "w"
        rw [show seqOf S' (.ptr pa) = _ from s2]
        walk_at "w"
        refine less_spec Tx.tab20 x (A' true) ?_
        walk_at "w"
        refine ⟨fun g => ?_, fun g => ?_⟩
        · have f := f.1 g
          walk_at "w"
          rw [s2]
          walk_at "w"
          have q := hE' (some (opD x)) (S'.set pa (twoD B)) (stp.put hp h0)
          rw [f] at q
          exact q
        · have f := f.2 g
          exact hE' (some (opD x)) S' ⟨s1, by rw [f]; exact s2, s3⟩
      · rw [show (bsOf sz i).count (!true) = sz - i from bf] at f hE'
        rw [show ((sz - i : Nat) : Int) = (sz : Int) - (i : Int) by omega] at f hE'
        generalize hB : putO A' false (addO (s true) ((sz : Int) - (i : Int))) = B at f hE'
        walk_at "w"
        rw [show seqOf S' (.ptr ps) = _ from s1]
        walk_at "w"
        refine sum_spec (s true) ((sz : Int) - (i : Int)) ?_
        generalize addO (s true) ((sz : Int) - (i : Int)) = x at f ⊢
        walk_at "w"
        rw [show seqOf S' (.ptr pa) = _ from s2]
        walk_at "w"
        refine less_spec Tx.tab20 x (A' false) ?_
        walk_at "w"
        refine ⟨fun g => ?_, fun g => ?_⟩
        · have f := f.1 g
          walk_at "w"
          rw [s2]
          walk_at "w"
          have q := hE' (some (opD x)) (S'.set pa (twoD B)) (stp.put hp h0)
          rw [f] at q
          exact q
        · have f := f.2 g
          exact hE' (some (opD x)) S' ⟨s1, by rw [f]; exact s2, s3⟩
      · rw [show (bsOf sz i).count (!true) = sz - i from bf] at f hE'
        rw [show ((sz - i : Nat) : Int) = (sz : Int) - (i : Int) by omega] at f hE'
        generalize hB : putO A' true (addO (s true) ((sz : Int) - (i : Int))) = B at f hE'
        walk_at "w"
        rw [show seqOf S' (.ptr ps) = _ from s1]
        walk_at "w"
        refine sum_spec (s true) ((sz : Int) - (i : Int)) ?_
        generalize addO (s true) ((sz : Int) - (i : Int)) = x at f ⊢
        walk_at "w"
        rw [show seqOf S' (.ptr pa) = _ from s2]
        walk_at "w"
        refine less_spec Tx.tab20 x (A' true) ?_
        walk_at "w"
        refine ⟨fun g => ?_, fun g => ?_⟩
        · have f := f.1 g
          walk_at "w"
          rw [s2]
          walk_at "w"
          have q := hE' (some (opD x)) (S'.set pa (twoD B)) (stp.put hp h0)
          rw [f] at q
          exact q
        · have f := f.2 g
          exact hE' (some (opD x)) S' ⟨s1, by rw [f]; exact s2, s3⟩
    have hitK : ∀ (A' : Bool → Option Int) (b : Bool) (s0 : Int), s b = some s0 → ∃ w, putO A' (two m.mj (bsOf sz i)) (addO (s b) ((bsOf sz i).count (!b) : Nat)) (two m.mj (bsOf sz i)) = some w ∧ w ≤ s0 + ((bsOf sz i).count (!b) : Nat) := fun A' b s0 e => putO_get A' _ _ (by rw [e]; rfl)
    walk_at "w"
    refine two_spec Tx.tab24 hj (by omega) ?_
    generalize ht : two m.mj (bsOf sz i) = t at turn hitK
    walk_at "w"
    refine ⟨⟨by decide, by decide⟩, trivial, ?_⟩
    refine for_inv (Run_mono Tx.tab (n + 3)) (fun j σ S' => ∃ A' v14 v15, σ = [d0, d1, some (mtD m), d3, d4, some (.ptr ps), d6, some (.int lv), some (ctD c), some (.ptr pa), some (.int sz), some (.int i), some (.str (txt (bsOf sz i))), some (.int (if t = true then 1 else 0)), v14, v15] ∧ Lb c m lv s A' ∧ LeO A A' ∧ StB s ps pa S0 A' S' ∧ ∀ b : Bool, (if b = true then 2 else 1) ≤ j → ∀ s0, s b = some s0 → ∃ w, A' t = some w ∧ w ≤ s0 + ((bsOf sz i).count (!b) : Nat))
      ⟨A, v14, v15, rfl, lb, LeO.refl A, st, fun b hb => absurd hb (by cases b <;> decide)⟩ ?_ ?_
    · rintro j x σ S' hx ⟨A', v14, v15, rfl, lb', le', st', hits⟩
      obtain ⟨hj2, rfl⟩ := range_at hx
      have hj2 : j < 2 := hj2
      have plb : ∀ b, Lb c m lv s (putO A' t (addO (s b) ((bsOf sz i).count (!b) : Nat))) := fun b => by
        rw [← ht]
        exact putO_lb lb' q b
      obtain rfl | rfl : j = 0 ∨ j = 1 := by omega
      · refine turn false t A' S' v15 _ rfl lb' st' fun v15 S2 st2 => ?_
        refine ⟨_, _, v15, rfl, plb false, le'.trans (putO_le _ _ _), st2, fun b hb s0 e => ?_⟩
        cases b with
        | false => exact hitK A' false s0 e
        | true => exact absurd hb (by decide)
      · refine turn true t A' S' v15 _ rfl lb' st' fun v15 S2 st2 => ?_
        refine ⟨_, _, v15, rfl, plb true, le'.trans (putO_le _ _ _), st2, fun b hb s0 e => ?_⟩
        cases b with
        | false =>
          obtain ⟨w, w1, w2⟩ := hits false (by decide) s0 e
          obtain ⟨w', w3, w4⟩ := putO_le A' t (addO (s true) ((bsOf sz i).count (!true) : Nat)) t w w1
          exact ⟨w', w3, Int.le_trans w4 w2⟩
        | true => exact hitK A' true s0 e
    · rintro σ S' ⟨A', v14, v15, rfl, lb', le', st', hits⟩
      exact hE A' _ _ _ _ S' lb' le' (fun _ b s0 e => by
        rw [ht]
        exact hits b (by cases b <;> decide) s0 e) st'
  · have q : letB c m lv (bsOf sz i) = false := q
    exact hE A _ _ _ _ S lb (LeO.refl A) (fun q2 => by rw [q] at q2; cases q2) st
theorem sizes_body {n : Nat} (oc : c.Ok) {d0 d1 d3 d4 d6 : Option D} {A : Bool → Option Int} (lb : Lb c m lv s A) {S : Sto} (st : StB s ps pa S0 A S) {v10 v11 v12 v13 v14 v15 : Option D} {E : DEnds}
    (hE : ∀ B v10 v11 v12 v13 v14 v15 S', Lb c m lv s B → (∀ sz i : Nat, ((sz : Int) = c.b ∨ (sz : Int) = c.fu) → i ≤ sz → Hit c m lv s B (bsOf sz i)) → StB s ps pa S0 B S' → E.nx [d0, d1, some (mtD m), d3, d4, some (.ptr ps), d6, some (.int lv), some (ctD c), some (.ptr pa), v10, v11, v12, v13, v14, v15] S') :
    wSs (Run Tx.tab (n + 3)) (match Tx.d31.body with
      | [_, _, _, .forS _ _ _ [_, _, f, _, _], _] => [f]
      | _ => []) [d0, d1, some (mtD m), d3, d4, some (.ptr ps), d6, some (.int lv), some (ctD c), some (.ptr pa), v10, v11, v12, v13, v14, v15] S E := by
  have ob1 := oc.b1
  have ob2 := oc.b2
  have of1 := oc.f1
  have of2 := oc.f2
  walk_at "w"
  refine ⟨trivial, ?_⟩
  refine for_inv (Run_mono Tx.tab (n + 3)) (fun k σ S' => ∃ B v10 v11 v12 v13 v14 v15, σ = [d0, d1, some (mtD m), d3, d4, some (.ptr ps), d6, some (.int lv), some (ctD c), some (.ptr pa), v10, v11, v12, v13, v14, v15] ∧ Lb c m lv s B ∧ StB s ps pa S0 B S' ∧ (1 ≤ k → ∀ sz i : Nat, (sz : Int) = c.b → i ≤ sz → Hit c m lv s B (bsOf sz i)) ∧ (2 ≤ k → ∀ sz i : Nat, (sz : Int) = c.fu → i ≤ sz → Hit c m lv s B (bsOf sz i)))
    ⟨A, v10, v11, v12, v13, v14, v15, rfl, lb, st, fun h => absurd h (by decide), fun h => absurd h (by decide)⟩ ?_ ?_
  · rintro k x σ S' hx ⟨B, v10, v11, v12, v13, v14, v15, rfl, lb, st, hA, hB⟩
    -- one size
    have one : ∀ (sz : Nat) (E' : DEnds), sz ≤ 9 → (∀ B' v11 v12 v13 v14 v15 S2, Lb c m lv s B' → LeO B B' → (∀ i : Nat, i ≤ sz → Hit c m lv s B' (bsOf sz i)) → StB s ps pa S0 B' S2 → E'.nx [d0, d1, some (mtD m), d3, d4, some (.ptr ps), d6, some (.int lv), some (ctD c), some (.ptr pa), some (.int sz), v11, v12, v13, v14, v15] S2) →
        wSs (Run Tx.tab (n + 3)) (match Tx.d31.body with
          | [_, _, _, .forS _ _ _ [_, _, .forS _ _ _ b, _, _], _] => b
          | _ => []) [d0, d1, some (mtD m), d3, d4, some (.ptr ps), d6, some (.int lv), some (ctD c), some (.ptr pa), some (.int sz), v11, v12, v13, v14, v15] S' E' := by
      intro sz E' h9 hE'
      walk_at "w"
      refine ⟨⟨by omega, by omega⟩, trivial, ?_⟩
      refine for_inv (Run_mono Tx.tab (n + 3)) (fun j σ S2 => ∃ B' v11 v12 v13 v14 v15, σ = [d0, d1, some (mtD m), d3, d4, some (.ptr ps), d6, some (.int lv), some (ctD c), some (.ptr pa), some (.int sz), v11, v12, v13, v14, v15] ∧ Lb c m lv s B' ∧ LeO B B' ∧ StB s ps pa S0 B' S2 ∧ ∀ i : Nat, i < j → Hit c m lv s B' (bsOf sz i))
        ⟨B, v11, v12, v13, v14, v15, rfl, lb, LeO.refl B, st, fun i h => absurd h (Nat.not_lt_zero i)⟩ ?_ ?_
      · rintro j y σ S2 hy ⟨B', v11, v12, v13, v14, v15, rfl, lb', le', st', hits⟩
        obtain ⟨hj2, rfl⟩ := range_at hy
        have hj3 : j ≤ sz := by omega
        rw [Int.zero_add]
        refine votes_body hj hp h0 hj3 h9 lb' st' fun B2 v12 v13 v14 v15 S3 l2 le2 ht st2 => ?_
        refine ⟨B2, _, v12, v13, v14, v15, rfl, l2, le'.trans le2, st2, fun i hi => ?_⟩
        by_cases q : i = j
        · rw [q]
          exact ht
        · exact (hits i (by omega)).le le2
      · rintro σ S2 ⟨B', v11, v12, v13, v14, v15, rfl, lb', le', st', hits⟩
        rw [rangeD_len] at hits
        exact hE' B' _ _ _ _ _ S2 lb' le' (fun i hi => hits i (by omega)) st'
    match k, hx with
    | 0, hx =>
      obtain ⟨sz, hz⟩ : ∃ sz : Nat, c.b = sz := ⟨c.b.toNat, by omega⟩
      have hx2 : x = .int sz := by
        rw [← hz]
        cases hx
        rfl
      subst hx2
      refine one sz _ (by omega) fun B' v11 v12 v13 v14 v15 S2 l2 le2 ht st2 => ?_
      exact ⟨B', _, v11, v12, v13, v14, v15, rfl, l2, st2, fun _ sz' i e hi => by
        have : sz' = sz := by omega
        rw [this] at hi ⊢
        exact ht i hi, fun h => absurd h (by decide)⟩
    | 1, hx =>
      obtain ⟨sz, hz⟩ : ∃ sz : Nat, c.fu = sz := ⟨c.fu.toNat, by omega⟩
      have hx2 : x = .int sz := by
        rw [← hz]
        cases hx
        rfl
      subst hx2
      refine one sz _ (by omega) fun B' v11 v12 v13 v14 v15 S2 l2 le2 ht st2 => ?_
      exact ⟨B', _, v11, v12, v13, v14, v15, rfl, l2, st2, fun _ sz' i e hi => (hA (by decide) sz' i e hi).le le2, fun _ sz' i e hi => by
        have : sz' = sz := by omega
        rw [this] at hi ⊢
        exact ht i hi⟩
    | k + 2, hx => cases hx
  · rintro σ S' ⟨B, v10, v11, v12, v13, v14, v15, rfl, lb, st, hA, hB⟩
    exact hE B _ _ _ _ _ _ S' lb (fun sz i e hi => e.elim (fun e => hA (show 1 ≤ 2 by decide) sz i e hi) fun e => hB (show 2 ≤ 2 by decide) sz i e hi) st
end
theorem bench_bf {c : Ct} {bd : Option (Int × Bool)} {lv : Int} {fi : Bool} {x : Int} (h : bench c bd lv fi = some x) : x = c.b ∨ x = c.fu := by
  unfold bench at h
  split at h
  · exact .inl (Option.some.inj h).symm
  · split at h
    · exact .inl (Option.some.inj h).symm
    · split at h
      · exact .inr (Option.some.inj h).symm
      · cases h
/-- one level more -/
theorem level_math {c : Ct} (oc : c.Ok) {m : Mt} (hj : Maj m.mj) {lv : Int} {fi : Bool} (keep : bench c m.bd lv fi = some c.b) {s B : Bool → Option Int} (s0 : s fi = some 0) (sn : ∀ w, s (!fi) = some w → 0 ≤ w)
    (lb : Lb c m lv s B) (hits : ∀ sz i : Nat, ((sz : Int) = c.b ∨ (sz : Int) = c.fu) → i ≤ sz → Hit c m lv s B (bsOf sz i)) :
    B fi = some 0 ∧ (∀ u, vAt c m lv (!fi) = some u → ∃ w, B (!fi) = some w ∧ w ≤ u) ∧ ∀ w, B (!fi) = some w → 0 ≤ w ∧ ((∃ u, vAt c m lv (!fi) = some u ∧ u ≤ w) ∨ ∃ w0, s (!fi) = some w0 ∧ w0 ≤ w) := by
  have pos : ∀ t w, B t = some w → 0 ≤ w := fun t w h => by
    obtain ⟨bs, b, z, e, _, _, rfl⟩ := lb.ex t w h
    by_cases q : b = fi
    · rw [q, s0] at e
      have := Option.some.inj e
      omega
    · have q2 : b = !fi := by cases b <;> cases fi <;> first | rfl | exact absurd rfl q
      rw [q2] at e
      have := sn z e
      omega
  have b1 := oc.b1
  refine ⟨?_, fun u hu => ?_, fun w hw => ⟨pos _ w hw, ?_⟩⟩
  · obtain ⟨sz, hz⟩ : ∃ sz : Nat, (sz : Int) = c.b := ⟨c.b.toNat, by omega⟩
    have hv := vft_in hj (show (1 : Int) ≤ sz by omega)
    have hi : (if fi = true then sz else 0) ≤ sz := by split <;> omega
    have bl := bsOf_len hi
    have bt := bsOf_true sz (if fi = true then sz else 0)
    have bf := bsOf_false sz (if fi = true then sz else 0)
    have h := hits sz (if fi = true then sz else 0) (.inl hz) hi
    generalize bsOf sz (if fi = true then sz else 0) = bs at bl bt bf h
    have e2 : two m.mj bs = fi := by
      unfold two
      rw [bl, bt]
      cases fi with
      | true =>
        rw [if_pos rfl]
        exact decide_eq_true hv.2
      | false =>
        rw [if_neg Bool.false_ne_true]
        exact decide_eq_false (by omega)
    have lt : letB c m lv bs = true := by
      unfold letB
      rw [e2, keep, bl, hz]
      exact decide_eq_true rfl
    obtain ⟨w, w1, w2⟩ := h lt fi 0 s0
    rw [e2] at w1
    have w3 := pos _ w w1
    have w4 : bs.count (!fi) = 0 := by
      cases fi with
      | true =>
        rw [if_pos rfl] at bf
        show bs.count false = 0
        omega
      | false =>
        rw [if_neg Bool.false_ne_true] at bt
        exact bt
    rw [w4] at w2
    rw [w1, show w = 0 by omega]
  · unfold vAt at hu
    cases hb : bench c m.bd lv (!fi) with
    | none => rw [hb] at hu; cases hu
    | some x =>
      rw [hb] at hu
      have hu : vt (!fi) x m.mj = u := Option.some.inj hu
      have xin := bench_in oc hb
      obtain ⟨sz, hz⟩ : ∃ sz : Nat, (sz : Int) = x := ⟨x.toNat, by omega⟩
      have hv := vft_in hj xin.1
      obtain ⟨i, hi, hi2, hi3⟩ : ∃ i : Nat, i ≤ sz ∧ (fi = false → (i : Int) = u ∧ u = vft x m.mj) ∧ (fi = true → (i : Int) = x - u ∧ u = x + 1 - vft x m.mj) := by
        unfold vt at hu
        cases fi with
        | true =>
          rw [if_neg (by decide)] at hu
          exact ⟨(x - u).toNat, by omega, (fun h => nomatch h), fun _ => ⟨by omega, hu.symm⟩⟩
        | false =>
          rw [if_pos (show (!false) = true from rfl)] at hu
          exact ⟨u.toNat, by omega, fun _ => ⟨by omega, hu.symm⟩, (fun h => nomatch h)⟩
      have bl := bsOf_len hi
      have bt := bsOf_true sz i
      have bf := bsOf_false sz i
      have h := hits sz i (by rw [hz]; exact bench_bf hb) hi
      generalize bsOf sz i = bs at bl bt bf h
      have e2 : two m.mj bs = !fi := by
        unfold two
        rw [bl, bt, hz]
        cases fi with
        | true =>
          obtain ⟨z1, z2⟩ := hi3 rfl
          exact decide_eq_false (by omega)
        | false =>
          obtain ⟨z1, z2⟩ := hi2 rfl
          exact decide_eq_true (by omega)
      have lt : letB c m lv bs = true := by
        unfold letB
        rw [e2, hb, bl, hz]
        exact decide_eq_true rfl
      obtain ⟨w, w1, w2⟩ := h lt fi 0 s0
      rw [e2] at w1
      refine ⟨w, w1, ?_⟩
      cases fi with
      | true =>
        obtain ⟨z1, z2⟩ := hi3 rfl
        have w2 : w ≤ 0 + (bs.count false : Nat) := w2
        omega
      | false =>
        obtain ⟨z1, z2⟩ := hi2 rfl
        have w2 : w ≤ 0 + (bs.count true : Nat) := w2
        omega
  · obtain ⟨bs, b, z, e, lt, e2, rfl⟩ := lb.ex _ w hw
    by_cases q : b = fi
    · subst q
      rw [s0] at e
      have z0 : z = 0 := (Option.some.inj e).symm
      subst z0
      refine .inl ?_
      unfold letB at lt
      rw [e2] at lt
      have lt := of_decide_eq_true lt
      refine ⟨vt (!b) bs.length m.mj, by unfold vAt; rw [lt]; rfl, ?_⟩
      have bc := both_count bs
      unfold two at e2
      unfold vt
      cases b with
      | true =>
        have e2 := of_decide_eq_false e2
        rw [if_neg (by decide)]
        show _ ≤ (0 : Int) + (bs.count false : Nat)
        omega
      | false =>
        have e2 := of_decide_eq_true e2
        rw [if_pos (show (!false) = true from rfl)]
        show _ ≤ (0 : Int) + (bs.count true : Nat)
        omega
    · have q2 : b = !fi := by cases b <;> cases fi <;> first | rfl | exact absurd rfl q
      rw [q2] at e
      exact .inr ⟨z, e, by omega⟩
/-- the least sum goes along with the least number of votes -/
theorem best_step {os : List (Option Int)} {best o o' u : Option Int} (h : Mn os best) (h1 : ∀ w, o = some w → ∃ v, best = some v ∧ v ≤ w) (h2 : ∀ v, u = some v → ∃ w, o' = some w ∧ w ≤ v)
    (h3 : ∀ w, o' = some w → (∃ v, u = some v ∧ v ≤ w) ∨ ∃ w0, o = some w0 ∧ w0 ≤ w) : stpO best o' = stpO best u ∧ ∀ w, o' = some w → ∃ v, stpO best o' = some v ∧ v ≤ w := by
  refine ⟨?_, (stpO_le best o').2.1⟩
  cases best with
  | none =>
    have on : o = none := by
      cases o with
      | none => rfl
      | some w => obtain ⟨v, e, _⟩ := h1 w rfl; cases e
    subst on
    cases u with
    | none =>
      cases o' with
      | none => rfl
      | some w => rcases h3 w rfl with ⟨v, e, _⟩ | ⟨v, e, _⟩ <;> cases e
    | some v =>
      obtain ⟨w, rfl, hw⟩ := h2 v rfl
      rcases h3 w rfl with ⟨v', e, q⟩ | ⟨v', e, _⟩
      · cases e
        rw [show w = v by omega]
      · cases e
  | some b =>
    have val : ∀ x : Int, stpO (some b) (some x) = if x < b then some x else some b := fun x => by
      show (if decide (x < b) = true then _ else _) = _
      by_cases g : x < b
      · rw [if_pos (decide_eq_true g), if_pos g]
      · rw [if_neg (by rw [decide_eq_true_eq]; exact g), if_neg g]
    have ob : ∀ w, o' = some w → w < b → u = some w := fun w e hb => by
      rcases h3 w e with ⟨v, e2, q⟩ | ⟨w0, e2, q⟩
      · obtain ⟨w', e3, q2⟩ := h2 v e2
        rw [e] at e3
        have := Option.some.inj e3
        rw [e2, show v = w by omega]
      · obtain ⟨v, e3, q2⟩ := h1 w0 e2
        have := Option.some.inj e3
        omega
    cases u with
    | none =>
      cases o' with
      | none => rfl
      | some w =>
        rw [val]
        by_cases g : w < b
        · have := ob w rfl g
          cases this
        · rw [if_neg g]
          rfl
    | some v =>
      obtain ⟨w, rfl, hw⟩ := h2 v rfl
      rw [val, val]
      by_cases g : w < b
      · have := Option.some.inj (ob w rfl g)
        rw [this]
      · rw [if_neg g, if_neg (by omega)]
section
variable {cs : List D} {l : List Nat} {ct : Nat → Ct} (c : Ch cs l ct)
include c
theorem level_body {n : Nat} {m : Mt} (hj : Maj m.mj) {fi : Bool} {q : Nat} (hq : q < l.length) (keep : bench (ct q) m.bd (q : Int) fi = some (ct q).b) {os : List (Option Int)} {best : Option Int} (hb : Mn os best) {s : Bool → Option Int} (s0 : s fi = some 0) (sn : ∀ w, s (!fi) = some w → 0 ≤ w ∧ ∃ v, best = some v ∧ v ≤ w)
    {d4 : Option D} {ps : Nat} {S S0 : Sto} (hs : S[ps]? = some (twoD s)) (k0 : Keep S0 S) {v8 v9 v10 v11 v12 v13 v14 v15 : Option D} {E : DEnds}
    (hE : ∀ ps' s' v8 v9 v10 v11 v12 v13 v14 v15 S', s' fi = some 0 → (∀ w, s' (!fi) = some w → 0 ≤ w ∧ ∃ v, stpO best (vAt (ct q) m (q : Int) (!fi)) = some v ∧ v ≤ w) → S'[ps']? = some (twoD s') → Keep S0 S' →
      E.nx [some (.tup cs), some (.tup (natD l)), some (mtD m), some (.bl fi), d4, some (.ptr ps'), some (opD (stpO best (vAt (ct q) m (q : Int) (!fi)))), some (.int q), v8, v9, v10, v11, v12, v13, v14, v15] S') :
    wSs (Run Tx.tab (n + 3)) (match Tx.d31.body with
      | [_, _, _, .forS _ _ _ b, _] => b
      | _ => []) [some (.tup cs), some (.tup (natD l)), some (mtD m), some (.bl fi), d4, some (.ptr ps), some (opD best), some (.int q), v8, v9, v10, v11, v12, v13, v14, v15] S E := by
  obtain ⟨g1, g2⟩ := c.get hq
  have oc := c.ok _ hq
  have hps := (List.getElem?_eq_some_iff.mp hs).1
  have st : StB s ps S.length S0 (fun _ => none) (S ++ [twoD fun _ => none]) := ⟨by rw [List.getElem?_append_left hps]; exact hs, List.getElem?_concat_length .., k0.trans (Keep.app _ _)⟩
  have fin := sizes_body hj (lv := (q : Int)) (show ps ≠ S.length by omega) k0.1 (n := n) oc (d0 := some (.tup cs)) (d1 := some (.tup (natD l))) (d3 := some (.bl fi)) (d4 := d4) (d6 := some (opD best)) (A := fun _ => none) ⟨fun t w h => nomatch h⟩ st (v10 := v10) (v11 := v11) (v12 := v12) (v13 := v13) (v14 := v14) (v15 := v15)
    (E := { nx := fun σ1 S1 => wSs (Run Tx.tab (n + 3)) (match Tx.d31.body with
      | [_, _, _, .forS _ _ _ b, _] => b.drop 3
      | _ => []) σ1 S1 E, rt := E.rt, bk := E.bk, ct := E.ct }) (fun B v10 v11 v12 v13 v14 v15 S' lb hits st' => by
    obtain ⟨b1, b2, b3⟩ := st'
    obtain ⟨m1, m2, m3⟩ := level_math oc hj keep s0 (fun w h => (sn w h).1) lb hits
    obtain ⟨n1, n2⟩ := best_step hb (fun w h => (sn w h).2) m2 (fun w h => (m3 w h).2)
    rw [← n1] at hE
    have hE := hE S'.length B (some (ctD (ct q))) (some (.ptr S.length)) v10 v11 v12 v13 v14 v15 (S' ++ [twoD B]) m1 (fun w h => ⟨(m3 w h).1, n2 w h⟩) (List.getElem?_concat_length ..) (b3.trans (Keep.app _ _))
    have eS : seqOf (S' ++ [[opD (B false), opD (B true)]]) (.ptr S'.length) = some [opD (B false), opD (B true)] := List.getElem?_concat_length ..
    walk_at "w"
    rw [show seqOf S' (.ptr S.length) = _ from b2]
    walk_at "w"
    rw [show seqOf S' (.ptr S.length) = _ from b2]
    cases fi with
    | true =>
      have l1 : lessB (B false) best = true → stpO best (B false) = B false := fun h => if_pos h
      have l2 : lessB (B false) best = false → stpO best (B false) = best := fun h => if_neg (by rw [h]; exact Bool.false_ne_true)
      have hE : E.nx _ _ := hE
      walk_at "w"
      rw [eS]
      walk_at "w"
      refine less_spec Tx.tab20 (B false) best ?_
      walk_at "w"
      refine ⟨fun g => ?_, fun g => ?_⟩
      · rw [show stpO best (B (!true)) = B false from l1 g] at hE
        walk_at "w"
        rw [eS]
        exact hE
      · rw [show stpO best (B (!true)) = best from l2 g] at hE
        exact hE
    | false =>
      have l1 : lessB (B true) best = true → stpO best (B true) = B true := fun h => if_pos h
      have l2 : lessB (B true) best = false → stpO best (B true) = best := fun h => if_neg (by rw [h]; exact Bool.false_ne_true)
      have hE : E.nx _ _ := hE
      walk_at "w"
      rw [eS]
      walk_at "w"
      refine less_spec Tx.tab20 (B true) best ?_
      walk_at "w"
      refine ⟨fun g => ?_, fun g => ?_⟩
      · rw [show stpO best (B (!false)) = B true from l1 g] at hE
        walk_at "w"
        rw [eS]
        exact hE
      · rw [show stpO best (B (!false)) = best from l2 g] at hE
        exact hE)
  conv at fin => whnf
  walk_at "w"
  rw [at_n g1]
  walk_at "w"
  rw [at_n g2]
  walk_at "w"
  exact fin
theorem best_spec {n : Nat} (m : Mt) (hj : Maj m.mj) (fi : Bool) (lv : Nat) (top : Int) {mm : Nat} (hm : LvN (okL l ct m top) lv mm) (hmm : mm ≤ 9) (keep : ∀ i, i < mm → bench (ct (lv + i)) m.bd ((lv + i : Nat) : Int) fi = some (ct (lv + i)).b)
    {r : Option Int} (hr : Mn (osL ct m lv mm (!fi)) r) {S : Sto} {k : WK} (h : ∀ S', Keep S S' → k (opD r) S') : Run Tx.tab (n + 4) 31 [.tup cs, .tup (natD l), mtD m, .bl fi, .tup (lvD lv mm)] S k := by
  refine run_of Tx.tab31 rfl ?_
  have rest : ∀ (s : Bool → Option Int) (S1 : Sto), s fi = some 0 → s (!fi) = none → S1[S.length]? = some (twoD s) → Keep S S1 →
      wSs (Run Tx.tab (n + 3)) (Tx.d31.body.drop 2) [some (.tup cs), some (.tup (natD l)), some (mtD m), some (.bl fi), some (.tup (lvD lv mm)), some (.ptr S.length), none, none, none, none, none, none, none, none, none, none] S1 { nx := fun _ S1 => k .non S1, rt := k } := by
    intro s S1 s0 s1 e1 k1
    walk_at "w"
    refine ⟨trivial, ?_⟩
    refine for_inv (Run_mono Tx.tab (n + 3)) (fun i σ S2 => ∃ ps s best v7 v8 v9 v10 v11 v12 v13 v14 v15, σ = [some (.tup cs), some (.tup (natD l)), some (mtD m), some (.bl fi), some (.tup (lvD lv mm)), some (.ptr ps), some (opD best), v7, v8, v9, v10, v11, v12, v13, v14, v15] ∧ S2[ps]? = some (twoD s) ∧ s fi = some 0 ∧ (∀ w, s (!fi) = some w → 0 ≤ w ∧ ∃ v, best = some v ∧ v ≤ w) ∧ Mn (osL ct m lv i (!fi)) best ∧ Keep S S2)
      ⟨S.length, s, none, none, none, none, none, none, none, none, none, none, rfl, e1, s0, (fun w h => by rw [s1] at h; cases h), Mn.nil, k1⟩ ?_ ?_
    · rintro i x σ S2 hx ⟨ps, s, best, v7, v8, v9, v10, v11, v12, v13, v14, v15, rfl, e2, s0, sn, hb, k2⟩
      obtain ⟨him, rfl⟩ := lvD_at hx
      have hq := okL_lt c (hm.1 i him)
      have ms := hb.step (vAt (ct (lv + i)) m ((lv + i : Nat) : Int) (!fi))
      rw [← osL_succ] at ms
      exact level_body c hj hq (keep i him) hb s0 sn e2 k2 fun ps' s' v8 v9 v10 v11 v12 v13 v14 v15 S' a b d e => ⟨ps', s', _, _, v8, v9, v10, v11, v12, v13, v14, v15, rfl, d, a, b, ms, e⟩
    · rintro σ S2 ⟨ps, s, best, v7, v8, v9, v10, v11, v12, v13, v14, v15, rfl, e2, s0, sn, hb, k2⟩
      rw [lvD_len] at hb
      have q : best = r := hb.min.symm.trans hr.min
      subst q
      exact h S2 k2
  have hlt : S.length < (S ++ [[D.non, D.non]]).length := by simp
  cases fi with
  | true =>
    have q := rest (fun b => if b = true then some 0 else none) ((S ++ [[D.non, D.non]]).set S.length [D.non, .int 0]) rfl rfl (List.getElem?_set_self hlt) ((Keep.app _ _).own (Nat.le_refl _) _)
    conv at q => whnf
    walk_at "w"
    rw [show (S ++ [[D.non, D.non]])[S.length]? = some [D.non, D.non] from List.getElem?_concat_length ..]
    walk_at "w"
    exact q
  | false =>
    have q := rest (fun b => if b = true then none else some 0) ((S ++ [[D.non, D.non]]).set S.length [.int 0, D.non]) rfl rfl (List.getElem?_set_self hlt) ((Keep.app _ _).own (Nat.le_refl _) _)
    conv at q => whnf
    walk_at "w"
    rw [show (S ++ [[D.non, D.non]])[S.length]? = some [D.non, D.non] from List.getElem?_concat_length ..]
    walk_at "w"
    exact q
end
theorem Fst.uniq {ct : Nat → Ct} {m : Mt} {fi : Bool} {lv mm : Nat} {v : Int} {i j : Nat} {x y : Int} (a : Fst ct m fi lv mm v i x) (b : Fst ct m fi lv mm v j y) : i = j ∧ x = y := by
  have va : ∀ {i x}, Fst ct m fi lv mm v i x → vAt (ct (lv + i)) m ((lv + i : Nat) : Int) (!fi) = some v := fun {i x} a => by
    unfold vAt
    rw [a.bench, ← a.val]
    rfl
  have e : i = j := by
    rcases Nat.lt_trichotomy i j with h | h | h
    · exact absurd (va a) (b.min i h)
    · exact h
    · exact absurd (va b) (a.min j h)
  subst e
  exact ⟨rfl, Option.some.inj (a.bench.symm.trans b.bench)⟩
theorem rul_len {b m : Int} (fi : Bool) (h0 : 0 ≤ m) (h1 : m ≤ b) : ((rul b fi m).length : Int) = b := by
  unfold rul
  rw [List.length_append, List.length_replicate, List.length_replicate]
  omega
theorem rul_count {b m : Int} (fi : Bool) (h0 : 0 ≤ m) (h1 : m ≤ b) : (((rul b fi m).count fi : Nat) : Int) = m ∧ (((rul b fi m).count (!fi) : Nat) : Int) = b - m := by
  unfold rul
  cases fi <;> simp [List.count_append, List.count_replicate] <;> omega
theorem two_keep {b j : Int} (hj : Maj j) (fi : Bool) (hb : 1 ≤ b) : two j (rul b fi b) = fi := by
  have hv := vft_in hj hb
  have hl := rul_len fi (show (0 : Int) ≤ b by omega) (Int.le_refl b)
  have hc := rul_count fi (show (0 : Int) ≤ b by omega) (Int.le_refl b)
  unfold two
  rw [hl]
  cases fi with
  | true =>
    exact decide_eq_true (by omega)
  | false =>
    have hc2 : (((rul b false b).count true : Nat) : Int) = b - b := hc.2
    exact decide_eq_false (by omega)
theorem two_turn {x j : Int} (hj : Maj j) (fi : Bool) (hx : 1 ≤ x) : two j (rul x fi (vt fi x j)) = fi := by
  have hv := vft_in hj hx
  have hi := vt_in (fi := fi) hj hx
  have hl := rul_len fi (show (0 : Int) ≤ vt fi x j by omega) hi.2
  have hc := rul_count fi (show (0 : Int) ≤ vt fi x j by omega) hi.2
  unfold two
  rw [hl]
  cases fi with
  | true =>
    have : vt true x j = vft x j := rfl
    exact decide_eq_true (by omega)
  | false =>
    have : vt false x j = x + 1 - vft x j := rfl
    have hc2 : (((rul x false (vt false x j)).count true : Nat) : Int) = x - vt false x j := hc.2
    exact decide_eq_false (by omega)
theorem lvD_ints (lv mm : Nat) : lvD lv mm = ((List.range mm).map fun (i : Nat) => ((lv + i : Nat) : Int)).map D.int := by
  unfold lvD
  rw [List.map_map]
  rfl
def rwD9 (cs : List D) (l : List Nat) (m : Mt) (lv : Nat) (top : Int) (fi : Bool) : List D := [.tup cs, .tup (natD l), .bl m.ol, .int m.mj, .int m.am, bdD m.bd, .int lv, .int top, .bl fi]
section
variable {cs : List D} {l : List Nat} {ct : Nat → Ct} (c : Ch cs l ct)
include c
theorem told_spec {n : Nat} {m : Mt} (hj : Maj m.mj) (fi : Bool) (lv : Nat) (top : Int) {mm : Nat} (hm : LvN (okL l ct m top) lv mm) (hmm : mm ≤ 9) (keep : ∀ i, i < mm → bench (ct (lv + i)) m.bd ((lv + i : Nat) : Int) fi = some (ct (lv + i)).b)
    {r : Option Int} (hr : Mn (osL ct m lv mm (!fi)) r) {S : Sto} {k : WK} (h : ∀ S', k (.bl true) S') : Run Tx.tab (n + 8) 34 [.tup (rwD9 cs l m lv top fi), .tup (lvD lv mm), opD r] S k := by
  refine run_of Tx.tab34 rfl ?_
  obtain ⟨r1, n1⟩ := Mn.ex (osL ct m lv mm true)
  obtain ⟨r2, n2⟩ := Mn.ex (osL ct m lv mm false)
  walk_at "w"
  refine reviewPath_spec c Tx.tab10 Tx.tab9 Tx.tab4 Tx.tab7 Tx.tab6 Tx.tab5 Tx.tab2 Tx.tab1 Tx.tab0 m hj lv top hm hmm n1 n2 fun S1 k1 => ?_
  have rest : ∀ S1 : Sto, wSs (Run Tx.tab (n + 7)) (Tx.d34.body.drop 3) [some (.tup (rwD9 cs l m lv top fi)), some (.tup (lvD lv mm)), some (opD r), some (mtD m), some (.tup [.tup (lvD lv mm), opD r1, opD r2]), none, none, none, none] S1 { nx := fun _ S1 => k .non S1, rt := k } := by
    intro S1
    walk_at "w"
    rw [lvD_ints]
    refine ⟨ints_eqOk _ _, ?_⟩
    rw [ints_eqD, decide_eq_true rfl, ← lvD_ints]
    walk_at "w"
    walk_at "n"
    walk_at "w"
    refine cheapest_spec c m hj fi lv top hm hmm hr (fun e S2 k2 => ?_) (fun v i x e F S2 k2 => ?_)
    · subst e
      walk_at "w"
      refine due_spec c m hj fi lv top hm hmm hr (fun _ S3 k3 => ?_) (fun v i x e F S3 k3 => by cases e)
      walk_at "w"
      refine same_spec (f := 15) Tx.tab15 0 (n + 6) _ _ _ trivial ?_
      walk_at "w"
      walk_at "n"
      walk_at "w"
      walk_at "y"
      exact h S3
    · subst e
      walk_at "w"
      refine due_spec c m hj fi lv top hm hmm hr (fun e S3 k3 => by cases e) (fun v' i' x' e F' S3 k3 => ?_)
      have e := Option.some.inj e
      subst e
      obtain ⟨q1, q2⟩ := F.uniq F'
      subst q1 q2
      walk_at "w"
      have tl : (kept ct fi lv i ++ [D.str (txt (rul x (!fi) v))]).length = i + 1 := by rw [List.length_append, kept_len]; rfl
      have lt := F.lt
      refine same_spec (f := 15) Tx.tab15 1 (n + 5) _ _ _ ⟨by rw [tl]; omega, ?_⟩ ?_
      · have : ∀ xs : List D, (∀ y ∈ xs, ∃ z, y = .str z) → goods 0 xs := by
          intro xs
          induction xs with
          | nil => exact fun _ => trivial
          | cons y ys ih =>
            intro hy
            obtain ⟨z, rfl⟩ := hy y List.mem_cons_self
            exact ⟨trivial, ih fun w hw => hy w (List.mem_cons_of_mem _ hw)⟩
        refine this _ fun y hy => ?_
        rcases List.mem_append.mp hy with hy | hy
        · unfold kept at hy
          obtain ⟨j, _, rfl⟩ := List.mem_map.mp hy
          exact ⟨_, rfl⟩
        · exact ⟨_, List.mem_singleton.mp hy⟩
      walk_at "w"
      walk_at "n"
      walk_at "w"
      walk_at "n"
      walk_at "w"
      rw [tl]
      refine ⟨⟨by omega, by omega⟩, trivial, ?_⟩
      refine for_inv (Run_mono Tx.tab (n + 7)) (fun j σ S4 => ∃ v8, σ = [some (.tup (rwD9 cs l m lv top fi)), some (.tup (lvD lv mm)), some (.int v), some (mtD m), some (.tup [.tup (lvD lv mm), opD r1, opD r2]), some (.tup (kept ct fi lv i ++ [.str (txt (rul x (!fi) v))])), some (.int (if j ≤ i then 0 else v)), some (.bl (if j ≤ i then fi else !fi)), v8]) ⟨none, by rw [if_pos (Nat.zero_le _), if_pos (Nat.zero_le _)]; rfl⟩ ?_ ?_
      · rintro j y σ S4 hy ⟨v8, rfl⟩
        obtain ⟨hj2, rfl⟩ := range_at hy
        have hji : j ≤ i := by omega
        rw [if_pos hji, if_pos hji, Int.zero_add]
        have hjm : j < mm := by omega
        have hq := okL_lt c (hm.1 j hjm)
        obtain ⟨g1, g2⟩ := c.get hq
        have oc := c.ok _ hq
        have b1 := oc.b1
        have b2 := oc.b2
        have e1 : (lvD lv mm)[j]? = some (.int ((lv + j : Nat) : Int)) := by
          unfold lvD
          rw [List.getElem?_map, List.getElem?_range hjm]
          rfl
        obtain ⟨bs, e3, hbl, hlet, hcount, htwo⟩ : ∃ bs : List Bool, (kept ct fi lv i ++ [D.str (txt (rul x (!fi) v))])[j]? = some (.str (txt bs)) ∧ bs.length ≤ 1000 ∧ letB (ct (lv + j)) m ((lv + j : Nat) : Int) bs = true ∧ ((bs.count (!fi) : Nat) : Int) = (if j + 1 ≤ i then 0 else v) ∧ two m.mj bs = (if j + 1 ≤ i then fi else !fi) := by
          by_cases q : j < i
          · refine ⟨rul (ct (lv + j)).b fi (ct (lv + j)).b, ?_, ?_, ?_, ?_, ?_⟩
            · rw [List.getElem?_append_left (by rw [kept_len]; exact q)]
              unfold kept
              rw [List.getElem?_map, List.getElem?_range q]
              rfl
            · have := rul_len fi (show (0 : Int) ≤ (ct (lv + j)).b by omega) (Int.le_refl _)
              omega
            · unfold letB
              rw [two_keep hj fi b1, keep j hjm, rul_len fi (show (0 : Int) ≤ (ct (lv + j)).b by omega) (Int.le_refl _)]
              exact decide_eq_true rfl
            · rw [if_pos (by omega), (rul_count fi (show (0 : Int) ≤ (ct (lv + j)).b by omega) (Int.le_refl _)).2]
              omega
            · rw [if_pos (by omega)]
              exact two_keep hj fi b1
          · have q : j = i := by omega
            subst q
            have xin := bench_in oc F.bench
            have vin := vt_in (fi := !fi) hj xin.1
            have hv := F.val
            rw [hv] at vin
            refine ⟨rul x (!fi) v, ?_, ?_, ?_, ?_, ?_⟩
            · have := List.getElem?_concat_length (l := kept ct fi lv j) (a := D.str (txt (rul x (!fi) v)))
              rw [kept_len] at this
              exact this
            · have := rul_len (!fi) (show (0 : Int) ≤ v by omega) vin.2
              omega
            · unfold letB
              rw [← hv, two_turn hj (!fi) xin.1, F.bench, hv, rul_len (!fi) (show (0 : Int) ≤ v by omega) vin.2]
              exact decide_eq_true rfl
            · rw [if_neg (by omega)]
              exact (rul_count (!fi) (show (0 : Int) ≤ v by omega) vin.2).1
            · rw [if_neg (by omega), ← hv]
              exact two_turn hj (!fi) xin.1
        generalize kept ct fi lv i ++ [D.str (txt (rul x (!fi) v))] = K at e3 ⊢
        have hzc := zeros_count bs
        have hoc := ones_count bs
        cases fi with
        | true =>
          walk_at "w"
          rw [at_n e1]
          walk_at "w"
          rw [at_n g1]
          walk_at "w"
          rw [at_n g2]
          walk_at "w"
          rw [at_n e1]
          walk_at "w"
          rw [at_n e3]
          walk_at "w"
          refine allowed_spec Tx.tab8 Tx.tab3 Tx.tab1 Tx.tab5 (ct (lv + j)) m hj ((lv + j : Nat) : Int) hbl ?_
          rw [hlet]
          walk_at "w"
          walk_at "n"
          walk_at "w"
          rw [at_n e3]
          walk_at "w"
          refine ⟨trivial, ?_⟩
          walk_at "w"
          refine ⟨by decide, ?_⟩
          walk_at "w"
          rw [at_n e3]
          walk_at "w"
          refine two_spec Tx.tab24 hj hbl ?_
          walk_at "w"
          have ec : (0 : Int) + Txt.count (txt bs) { cps := #[(UInt8.ofNat '0'.val.toNat).toNat] } = if j + 1 ≤ i then 0 else v := by
            rw [← hcount, Int.zero_add]
            exact hzc
          refine ⟨some (.int j), ?_⟩
          rw [← ec, ← htwo]
          rfl
        | false =>
          walk_at "w"
          rw [at_n e1]
          walk_at "w"
          rw [at_n g1]
          walk_at "w"
          rw [at_n g2]
          walk_at "w"
          rw [at_n e1]
          walk_at "w"
          rw [at_n e3]
          walk_at "w"
          refine allowed_spec Tx.tab8 Tx.tab3 Tx.tab1 Tx.tab5 (ct (lv + j)) m hj ((lv + j : Nat) : Int) hbl ?_
          rw [hlet]
          walk_at "w"
          walk_at "n"
          walk_at "w"
          rw [at_n e3]
          walk_at "w"
          refine ⟨trivial, ?_⟩
          walk_at "w"
          refine ⟨by decide, ?_⟩
          walk_at "w"
          rw [at_n e3]
          walk_at "w"
          refine two_spec Tx.tab24 hj hbl ?_
          walk_at "w"
          have ec : (0 : Int) + Txt.count (txt bs) { cps := #[(UInt8.ofNat '1'.val.toNat).toNat] } = if j + 1 ≤ i then 0 else v := by
            rw [← hcount, Int.zero_add]
            exact hoc
          refine ⟨some (.int j), ?_⟩
          rw [← ec, ← htwo]
          rfl
      · rintro σ S4 ⟨v8, rfl⟩
        rw [rangeD_len, if_neg (by omega), if_neg (by omega)]
        have ev : eqD (.int v) (.int v) = true := beq_self_eq_true v
        cases fi with
        | true =>
          walk_at "w"
          refine ⟨rfl, ?_⟩
          walk_at "w"
          refine ⟨rfl, ?_⟩
          have q := h S4
          rw [← ev] at q
          exact q
        | false =>
          walk_at "w"
          refine ⟨rfl, ?_⟩
          walk_at "w"
          refine ⟨rfl, ?_⟩
          have q := h S4
          rw [← ev] at q
          exact q
  cases fi with
  | true =>
    have q2 : r2 = r := n2.min.symm.trans hr.min
    subst q2
    have rest := rest S1
    conv at rest => whnf
    walk_at "w"
    walk_at "n"
    walk_at "w"
    refine ⟨rfl, ?_⟩
    walk_at "w"
    walk_at "n"
    walk_at "w"
    refine same_spec (f := 15) Tx.tab15 0 (n + 6) _ _ _ (by cases r2 <;> trivial) ?_
    walk_at "w"
    walk_at "n"
    walk_at "w"
    exact rest
  | false =>
    have q2 : r1 = r := n1.min.symm.trans hr.min
    subst q2
    have rest := rest S1
    conv at rest => whnf
    walk_at "w"
    walk_at "n"
    walk_at "w"
    refine ⟨rfl, ?_⟩
    walk_at "w"
    walk_at "n"
    walk_at "w"
    refine same_spec (f := 15) Tx.tab15 0 (n + 6) _ _ _ (by cases r1 <;> trivial) ?_
    walk_at "w"
    walk_at "n"
    walk_at "w"
    exact rest
end
/-! ### rows -/
structure Crts (cs : List D) (many : Nat) (ct : Nat → Ct) : Prop where
  len : cs.length = many
  at_ : ∀ q, q < many → cs[q]? = some (ctD (ct q)) ∧ (ct q).Ok
theorem crts_of {cs : List D} {sup : Nat → Option Nat} (c : CtsR cs sup) : ∃ ct, Crts cs cs.length ct ∧ ∀ q, q < cs.length → (ct q).o = oD (sup q) := by
  have : ∀ q : Nat, ∃ x : Ct, q < cs.length → (cs[q]? = some (ctD x) ∧ x.Ok) ∧ x.o = oD (sup q) := fun q => by
    by_cases h : q < cs.length
    · obtain ⟨r, e, b, fu, le, da, fe, w, v, rfl, g1, g2, g3, g4, g5, g6, g7, g8, g9, g10⟩ := c.at_ q h
      exact ⟨⟨oD (sup q), b, fu, w, le, da, v, fe⟩, fun _ => ⟨⟨e, ⟨g1, by show b ≤ 9; omega, g3, g4⟩⟩, rfl⟩⟩
    · exact ⟨⟨.non, 1, 1, true, 0, 0, true, 0⟩, fun h2 => absurd h2 h⟩
  obtain ⟨ct, h⟩ := Classical.axiomOfChoice this
  exact ⟨ct, ⟨rfl, fun q hq => (h q hq).1⟩, fun q hq => (h q hq).2⟩
theorem Crts.map {cs : List D} {many : Nat} {ct : Nat → Ct} (h : Crts cs many ct) : cs = (List.range many).map fun q => ctD (ct q) := by
  refine List.ext_getElem? fun q => ?_
  by_cases hq : q < many
  · rw [(h.at_ q hq).1, List.getElem?_map, List.getElem?_range hq]
    rfl
  · rw [List.getElem?_eq_none (by rw [h.len]; omega), List.getElem?_eq_none (by rw [List.length_map, List.length_range]; omega)]
structure Chain (many : Nat) (l : List Nat) : Prop where
  low : ∀ x ∈ l, x < many
  pos : 1 ≤ l.length
  few : l.length ≤ 6
theorem cut_nat {os : List D} {many : Nat} (hb : Below many os) (hl : os.length = many) (h1 : 1 ≤ many) (h6 : many ≤ 6) (j : Nat) : ∃ l, cutD os none (some ((1 + j : Nat) : Int)) = natD l ∧ Chain many l := by
  have : ∀ os : List D, Below many os → ∃ l : List Nat, os = natD l ∧ ∀ x ∈ l, x < many := by
    intro os
    induction os with
    | nil => exact fun _ => ⟨[], rfl, fun x h => nomatch h⟩
    | cons y ys ih =>
      intro h
      obtain ⟨i, hi, rfl⟩ := h y List.mem_cons_self
      obtain ⟨l, rfl, hl⟩ := ih fun x hx => h x (List.mem_cons_of_mem _ hx)
      refine ⟨i :: l, rfl, fun x hx => ?_⟩
      rcases List.mem_cons.mp hx with rfl | hx
      · exact hi
      · exact hl x hx
  rw [cut_hd]
  obtain ⟨l, e, hl2⟩ := this (os.take (1 + j)) fun x hx => hb x (List.mem_of_mem_take hx)
  refine ⟨l, e, hl2, ?_, ?_⟩
  · rw [← natD_len, ← e, List.length_take]
    omega
  · rw [← natD_len, ← e, List.length_take]
    omega
section
variable {many : Nat} (h1 : 1 ≤ many) (h6 : many ≤ 6)
include h1 h6
theorem row_tail {n : Nat} {cs : List D} {ct : Nat → Ct} {sup : Nat → Option Nat} (hc : Crts cs many ct) (hcts : Cts cs sup) {S : Sto} {t : Nat} {k : WK} (ht : Tape S t) (ev : Bool)
    (h : ∀ l m lv top fi S', Chain many l → Maj m.mj → Tape S' t → k (.tup (rwD9 cs l m lv top fi)) S') :
    wSs (Run Tx.tab (n + 4)) (Tx.d33.body.drop 2) [some (.ptr t), some (.int many), some (.bl ev), some (.tup cs), none, none, none, none, none] S { nx := fun _ S1 => k .non S1, rt := k } := by
  have hlen := hc.len
  -- from the level on
  have r7 : ∀ (l : List Nat) (m : Mt) (lv : Nat) (fi : Bool) (S1 : Sto), Chain many l → Maj m.mj → Tape S1 t →
      wSs (Run Tx.tab (n + 4)) (Tx.d33.body.drop 8) [some (.ptr t), some (.int many), some (.bl ev), some (.tup cs), some (.tup (natD l)), some (mtD m), some (.int lv), some (.bl fi), none] S1 { nx := fun _ S1 => k .non S1, rt := k } := by
    intro l m lv fi S1 hl hj ht1
    walk_at "w"
    refine ⟨by show 2 + 4 ≤ 16777216; decide, ?_⟩
    walk_at "w"
    refine draw_spec Tx.tab14 ht1 (by decide) fun a S3 a0 a1 ht3 _ _ => ?_
    walk_at "w"
    refine draw_spec Tx.tab14 ht3 (by decide) fun d S4 d0 d1 ht4 _ _ => ?_
    have d1 : d < 3 := d1
    rcases (by omega : d = 0 ∨ d = 1 ∨ d = 2) with rfl | rfl | rfl
    all_goals
      walk_at "w"
      refine ⟨by show 2 + 4 + 3 ≤ 16777216; decide, ?_⟩
      exact h l m lv _ fi S4 hl hj ht4
  have r5 : ∀ (l : List Nat) (m : Mt) (S1 : Sto), Chain many l → Maj m.mj → Tape S1 t →
      wSs (Run Tx.tab (n + 4)) (Tx.d33.body.drop 5) [some (.ptr t), some (.int many), some (.bl ev), some (.tup cs), some (.tup (natD l)), some (mtD m), none, none, none] S1 { nx := fun _ S1 => k .non S1, rt := k } := by
    intro l m S1 hl hj ht1
    have ll : (natD l).length = l.length := natD_len l
    have few := hl.few
    have pos := hl.pos
    have r6 : ∀ (lv : Int) (S2 : Sto), 0 ≤ lv → Tape S2 t → wSs (Run Tx.tab (n + 4)) (Tx.d33.body.drop 6) [some (.ptr t), some (.int many), some (.bl ev), some (.tup cs), some (.tup (natD l)), some (mtD m), some (.int lv), none, none] S2 { nx := fun _ S1 => k .non S1, rt := k } := by
      intro lv S2 lv0 ht2
      obtain ⟨lv, rfl⟩ : ∃ z : Nat, lv = z := ⟨lv.toNat, by omega⟩
      have r7 := fun fi => r7 l m lv fi
      rcases m with ⟨ol, mj, am, bd⟩
      walk_at "w"
      refine draw_spec Tx.tab14 ht2 (by decide) fun a S3 a0 a1 ht3 _ _ => ?_
      walk_at "w"
      refine ⟨rfl, ?_⟩
      generalize eqD (.int a) (.int 1) = fi
      cases bd with
      | none =>
        have q := r7 fi S3 hl hj ht3
        conv at q => whnf
        walk_at "w"
        walk_at "n"
        walk_at "w"
        walk_at "n"
        walk_at "w"
        exact q
      | some p =>
        obtain ⟨bl, bf⟩ := p
        walk_at "w"
        walk_at "y"
        walk_at "w"
        refine ⟨fun _ => ?_, fun _ => ?_⟩
        · have q := r7 bf S3 hl hj ht3
          conv at q => whnf
          walk_at "w"
          exact q
        · have q := r7 fi S3 hl hj ht3
          conv at q => whnf
          walk_at "w"
          exact q
    walk_at "w"
    refine draw_spec Tx.tab14 ht1 (by decide) fun d S2 d0 d1 ht2 _ _ => ?_
    have d1 : d < 3 := d1
    rcases (by omega : d = 0 ∨ d = 1 ∨ d = 2) with rfl | rfl | rfl
    all_goals
      walk_at "w"
      refine draw_spec Tx.tab14 ht2 (by first | decide | omega) fun a S3 a0 a1 ht3 _ _ => ?_
      have q := r6 a S3 a0 ht3
      conv at q => whnf
      walk_at "w"
      exact q
  have r3 : ∀ (l : List Nat) (S1 : Sto), Chain many l → Tape S1 t →
      wSs (Run Tx.tab (n + 4)) (Tx.d33.body.drop 4) [some (.ptr t), some (.int many), some (.bl ev), some (.tup cs), some (.tup (natD l)), none, none, none, none] S1 { nx := fun _ S1 => k .non S1, rt := k } := by
    intro l S1 hl ht1
    walk_at "w"
    refine matter_spec Tx.tab26 Tx.tab14 ht1 fun m S3 hj ht3 _ _ => ?_
    have q := r5 l m S3 hl hj ht3
    conv at q => whnf
    walk_at "w"
    exact q
  have r2 : ∀ (a : Nat) (S1 : Sto), a < many → Tape S1 t → Run Tx.tab (n + 4) 23 [.tup cs, .int a] S1 fun d S2 => wSs (Run Tx.tab (n + 4)) (Tx.d33.body.drop 3) [some (.ptr t), some (.int many), some (.bl ev), some (.tup cs), some d, none, none, none, none] S2 { nx := fun _ S1 => k .non S1, rt := k } := by
    intro a S1 ha ht1
    obtain ⟨l, hl1, hl2, hl3⟩ := Chn.ex hcts (a + 1) a (Nat.lt_succ_self a) (by omega)
    have c1 : Chain many l := ⟨fun x hx => by have := hl3 x hx; omega, by obtain ⟨r, rfl⟩ := hl1.self; simp, by omega⟩
    refine lawChain_spec Tx.tab23 hcts.at_ hl1 (fun x hx => by have := hl3 x hx; omega) (by omega) ?_
    walk_at "w"
    refine draw_spec Tx.tab14 ht1 (by decide) fun d S2 d0 d1 ht2 _ _ => ?_
    walk_at "w"
    refine ⟨rfl, ?_⟩
    refine ⟨fun _ => ?_, fun _ => ?_⟩
    · walk_at "w"
      rw [hlen]
      refine order_spec Tx.tab16 Tx.tab14 ht2 (by omega) fun p os S3 e bl hos ht3 _ hp => ?_
      walk_at "w"
      rw [hlen]
      refine draw_spec Tx.tab14 ht3 (by omega) fun g S4 g0 g1 ht4 kb4 _ => ?_
      obtain ⟨g, rfl⟩ : ∃ z : Nat, g = z := ⟨g.toNat, by omega⟩
      have hpt : p ≠ t := fun q => by
        obtain ⟨xs, e2, _⟩ := ht2
        have := (List.getElem?_eq_some_iff.mp e2).1
        omega
      have e4 := kb4.2 _ _ hpt e
      have eg : (1 : Int) + (g : Int) = ((1 + g : Nat) : Int) := by omega
      obtain ⟨l2, el, c2⟩ := cut_nat bl hos h1 h6 g
      walk_at "w"
      rw [show listOf S4 (.ptr p) = _ from e4]
      rw [eg]
      walk_at "w"
      rw [el]
      have q := r3 l2 S4 c2 ht4
      conv at q => whnf
      exact q
    · have q := r3 l S2 c1 ht2
      conv at q => whnf
      walk_at "w"
      exact q
  walk_at "w"
  rw [hlen]
  refine draw_spec Tx.tab14 ht (by omega) fun a S1 a0 a1 ht1 _ _ => ?_
  obtain ⟨a, rfl⟩ : ∃ z : Nat, a = z := ⟨a.toNat, by omega⟩
  have ha : a < many := by omega
  walk_at "w"
  refine draw_spec Tx.tab14 ht1 (by decide) fun d S2 d0 d1 ht2 _ _ => ?_
  have d1 : d < 2 := d1
  rcases (by omega : d = 0 ∨ d = 1) with rfl | rfl
  · walk_at "w"
    rw [show (many : Int) - 1 = ((many - 1 : Nat) : Int) by omega]
    refine Run_mono Tx.tab _ _ _ _ _ _ (fun d S3 q => ?_) (r2 (many - 1) S2 (by omega) ht2)
    conv at q => whnf
    walk_at "w"
    exact q
  · walk_at "w"
    refine Run_mono Tx.tab _ _ _ _ _ _ (fun d S3 q => ?_) (r2 a S2 ha ht2)
    conv at q => whnf
    walk_at "w"
    exact q
theorem row_spec {n : Nat} {S : Sto} {t : Nat} (ev : Bool) {k : WK} (ht : Tape S t)
    (h : ∀ cs ct l m lv top fi S', Crts cs many ct → Chain many l → Maj m.mj → Tape S' t → k (.tup (rwD9 cs l m lv top fi)) S') : Run Tx.tab (n + 5) 33 [.ptr t, .int many, .bl ev] S k := by
  refine run_of Tx.tab33 rfl ?_
  walk_at "w"
  refine courts_spec Tx.tab22 Tx.tab21 Tx.tab14 ht (by omega) fun cs sup S1 c hl ht1 _ _ => ?_
  obtain ⟨ct, hc, ho⟩ := crts_of c
  rw [hl] at hc ho
  cases ev with
  | false =>
    have q := row_tail h1 h6 (n := n) hc c.cts ht1 false fun l m lv top fi S' => h cs ct l m lv top fi S' hc
    conv at q => whnf
    walk_at "w"
    walk_at "n"
    walk_at "w"
    exact q
  | true =>
    have e := hc.map
    have hc2 : Crts ((List.range many).map fun q => ctD { ct q with w := true, le := 0 }) many fun q => { ct q with w := true, le := 0 } := ⟨by simp, fun q hq => ⟨by rw [List.getElem?_map, List.getElem?_range hq]; rfl, ⟨(hc.at_ q hq).2.b1, (hc.at_ q hq).2.b2, (hc.at_ q hq).2.f1, (hc.at_ q hq).2.f2⟩⟩⟩
    have ct2 : Cts ((List.range many).map fun q => ctD { ct q with w := true, le := 0 }) sup := ⟨fun q hq => by
      rw [hc2.len] at hq
      exact ⟨_, by rw [(hc2.at_ q hq).1]; unfold ctD; rw [show ({ ct q with w := true, le := 0 } : Ct).o = oD (sup q) from ho q hq]⟩, fun q s hq hs => c.low q s (by rw [hc2.len] at hq; omega) hs⟩
    have q := row_tail h1 h6 (n := n) hc2 ct2 ht1 true fun l m lv top fi S' => h _ _ l m lv top fi S' hc2
    conv at q => whnf
    walk_at "w"
    walk_at "y"
    walk_at "w"
    refine ⟨by rw [hl]; show _ < 16777216; omega, ?_⟩
    rw [e]
    refine comp_map (fun q => ctD (ct q)) (fun _ => true) (fun q => ctD { ct q with w := true, le := 0 }) (List.range many) _ (fun q hq kk hk1 hk2 => ?_) ?_
    · have hk1 := hk1 rfl
      generalize ct q = co at hk1 ⊢
      rcases co with ⟨o, b, fu, w, le, da, v, fe⟩
      walk_at "w"
      walk_at "y"
      walk_at "w"
      refine ⟨by show 3 + 2 ≤ 16777216; decide, ?_⟩
      walk_at "w"
      refine ⟨by show 3 + 2 + 3 ≤ 16777216; decide, ?_⟩
      exact hk1
    rw [List.filter_eq_self.mpr fun _ _ => rfl]
    walk_at "w"
    exact q
end
def rwP9 (many : Nat) (i : Nat) (x : D) : Prop :=
  (i = 0 → ∃ cs ct, Crts cs many ct ∧ x = .tup cs) ∧ (i = 1 → ∃ l, Chain many l ∧ x = .tup (natD l)) ∧ (i = 2 → ∃ b, x = .bl b) ∧ (i = 3 → ∃ j, Maj j ∧ x = .int j) ∧
  (i = 4 → ∃ a, x = .int a) ∧ (i = 5 → ∃ b, x = bdD b) ∧ (i = 6 → ∃ n : Nat, x = .int n) ∧ (i = 7 → ∃ a, x = .int a) ∧ (i = 8 → ∃ b, x = .bl b)
theorem rw_ok {cs : List D} {many : Nat} {ct : Nat → Ct} (hc : Crts cs many ct) {l : List Nat} (hl : Chain many l) {m : Mt} (hj : Maj m.mj) {lv : Nat} {top : Int} {fi : Bool} : Row 9 (rwP9 many) (rwD9 cs l m lv top fi) := ⟨rfl, fun i x h => by
  match i, h with
  | 0, h => cases h; exact ⟨(fun _ => ⟨_, _, hc, rfl⟩), (fun h => nomatch h), (fun h => nomatch h), (fun h => nomatch h), (fun h => nomatch h), (fun h => nomatch h), (fun h => nomatch h), (fun h => nomatch h), (fun h => nomatch h)⟩
  | 1, h => cases h; exact ⟨(fun h => nomatch h), (fun _ => ⟨_, hl, rfl⟩), (fun h => nomatch h), (fun h => nomatch h), (fun h => nomatch h), (fun h => nomatch h), (fun h => nomatch h), (fun h => nomatch h), (fun h => nomatch h)⟩
  | 2, h => cases h; exact ⟨(fun h => nomatch h), (fun h => nomatch h), (fun _ => ⟨_, rfl⟩), (fun h => nomatch h), (fun h => nomatch h), (fun h => nomatch h), (fun h => nomatch h), (fun h => nomatch h), (fun h => nomatch h)⟩
  | 3, h => cases h; exact ⟨(fun h => nomatch h), (fun h => nomatch h), (fun h => nomatch h), (fun _ => ⟨_, hj, rfl⟩), (fun h => nomatch h), (fun h => nomatch h), (fun h => nomatch h), (fun h => nomatch h), (fun h => nomatch h)⟩
  | 4, h => cases h; exact ⟨(fun h => nomatch h), (fun h => nomatch h), (fun h => nomatch h), (fun h => nomatch h), (fun _ => ⟨_, rfl⟩), (fun h => nomatch h), (fun h => nomatch h), (fun h => nomatch h), (fun h => nomatch h)⟩
  | 5, h => cases h; exact ⟨(fun h => nomatch h), (fun h => nomatch h), (fun h => nomatch h), (fun h => nomatch h), (fun h => nomatch h), (fun _ => ⟨_, rfl⟩), (fun h => nomatch h), (fun h => nomatch h), (fun h => nomatch h)⟩
  | 6, h => cases h; exact ⟨(fun h => nomatch h), (fun h => nomatch h), (fun h => nomatch h), (fun h => nomatch h), (fun h => nomatch h), (fun h => nomatch h), (fun _ => ⟨_, rfl⟩), (fun h => nomatch h), (fun h => nomatch h)⟩
  | 7, h => cases h; exact ⟨(fun h => nomatch h), (fun h => nomatch h), (fun h => nomatch h), (fun h => nomatch h), (fun h => nomatch h), (fun h => nomatch h), (fun h => nomatch h), (fun _ => ⟨_, rfl⟩), (fun h => nomatch h)⟩
  | 8, h => cases h; exact ⟨(fun h => nomatch h), (fun h => nomatch h), (fun h => nomatch h), (fun h => nomatch h), (fun h => nomatch h), (fun h => nomatch h), (fun h => nomatch h), (fun h => nomatch h), (fun _ => ⟨_, rfl⟩)⟩
  | i + 9, h => cases h⟩
theorem rw_two {many : Nat} {zs : List D} (h : Row 9 (rwP9 many) zs) : ∃ cs ct l m lv top fi, Crts cs many ct ∧ Chain many l ∧ Maj m.mj ∧ zs = rwD9 cs l m lv top fi := by
  obtain ⟨hl, h⟩ := h
  match zs, hl, h with
  | [a0, a1, a2, a3, a4, a5, a6, a7, a8], _, h =>
    obtain ⟨cs, ct, h0, rfl⟩ := (h 0 a0 rfl).1 rfl
    obtain ⟨l, h1, rfl⟩ := (h 1 a1 rfl).2.1 rfl
    obtain ⟨b, rfl⟩ := (h 2 a2 rfl).2.2.1 rfl
    obtain ⟨j, h3, rfl⟩ := (h 3 a3 rfl).2.2.2.1 rfl
    obtain ⟨am, rfl⟩ := (h 4 a4 rfl).2.2.2.2.1 rfl
    obtain ⟨bd, rfl⟩ := (h 5 a5 rfl).2.2.2.2.2.1 rfl
    obtain ⟨lv, rfl⟩ := (h 6 a6 rfl).2.2.2.2.2.2.1 rfl
    obtain ⟨top, rfl⟩ := (h 7 a7 rfl).2.2.2.2.2.2.2.1 rfl
    obtain ⟨fi, rfl⟩ := (h 8 a8 rfl).2.2.2.2.2.2.2.2 rfl
    exact ⟨cs, ct, l, ⟨b, j, am, bd⟩, lv, top, fi, h0, h1, h3, rfl⟩
theorem ch_of {cs : List D} {many : Nat} {ct : Nat → Ct} (hc : Crts cs many ct) {l : List Nat} (hl : Chain many l) : Ch cs l fun i => ct (l.getD i 0) := by
  refine ⟨fun i q e => ?_, fun i hi => ?_, by have := hl.few; omega⟩
  · have hq := hl.low q (List.mem_of_getElem? e)
    show cs[q]? = some (ctD (ct (l.getD i 0)))
    rw [List.getD_eq_getElem?_getD, e]
    exact (hc.at_ q hq).1
  · show (ct (l.getD i 0)).Ok
    rw [List.getD_eq_getElem?_getD, List.getElem?_eq_getElem hi]
    exact (hc.at_ _ (hl.low _ (List.getElem_mem hi))).2
theorem law_spec (ns : List Int) : Run Tx.tab 100 35 [.ro (ns.map .int)] [] fun d _ => d = .bl true := by
  refine run_of Tx.tab35 rfl ?_
  walk_at "w"
  refine tape_spec Tx.tab13 fun S1 ht1 hl1 _ => ?_
  generalize ([] : Sto).length = t at ht1
  walk_at "w"
  refine draw_spec Tx.tab14 ht1 (by decide) fun mm S2 m0 m1 ht2 _ _ => ?_
  have m1 : mm < 6 := m1
  obtain ⟨m, rfl⟩ : ∃ m : Nat, mm = ((m : Nat) : Int) := ⟨mm.toNat, by omega⟩
  have e1 : (1 : Int) + m = ((1 + m : Nat) : Int) := by omega
  walk_at "w"
  refine draw_spec Tx.tab14 ht2 (by decide) fun ev S3 _ _ ht3 _ _ => ?_
  walk_at "w"
  refine ⟨rfl, ?_⟩
  generalize eqD (.int ev) (.int 0) = ev
  walk_at "w"
  rw [e1]
  refine row_spec (by omega) (by omega) ev ht3 fun cs ct l mt lv top fi S4 q1 q2 q3 ht4 => ?_
  have R1 := rw_ok q1 q2 q3 (lv := lv) (top := top) (fi := fi)
  generalize rwD9 cs l mt lv top fi = X1 at R1
  walk_at "w"
  refine row_spec (by omega) (by omega) ev ht4 fun cs ct l mt lv top fi S5 q1 q2 q3 ht5 => ?_
  have R2 := rw_ok q1 q2 q3 (lv := lv) (top := top) (fi := fi)
  generalize rwD9 cs l mt lv top fi = X2 at R2
  walk_at "w"
  refine places_spec (many := 9) Tx.tab18 Tx.tab16 Tx.tab14 ht5 (by decide) fun xs S6 hxs ht6 _ => ?_
  walk_at "w"
  refine ⟨trivial, ?_⟩
  refine for_inv (Run_mono Tx.tab 99) (fun i σ S => ∃ v6 v7 v8 v9 : Option D, σ = [some (.ro (ns.map .int)), some (.ptr t), some (.int ((1 + m : Nat) : Int)), some (.bl ev), some (.tup X1), some (.tup X2), v6, v7, v8, v9]) ⟨none, none, none, none, rfl⟩ ?_ ?_
  · rintro i x σ S hx ⟨v6, v7, v8, v9, rfl⟩
    walk_at "w"
    refine mixed_spec Tx.tab17 (by decide) R1 R2 (hxs x (List.mem_of_getElem? hx)) fun zs hz => ?_
    obtain ⟨cs2, ct2, l2, m2, lv2, top2, fi2, z1, z2, z3, rfl⟩ := rw_two hz
    have hh := ch_of z1 z2
    generalize (fun i => ct2 (l2.getD i 0)) = ct' at hh
    have few := z2.few
    obtain ⟨mm, mm1, hm⟩ := LvN.ex (ok := okL l2 ct' m2 top2) (N := l2.length) (fun i hi => by unfold okL; rw [decide_eq_false (by omega), Bool.false_and]) lv2
    obtain ⟨r, hr⟩ := Mn.ex (osL ct' m2 lv2 mm (!fi2))
    have body : (∀ i, i < mm → bench (ct' (lv2 + i)) m2.bd ((lv2 + i : Nat) : Int) fi2 = some (ct' (lv2 + i)).b) → ∀ E : DEnds, (∀ v8 v9 S, E.nx [some (.ro (ns.map .int)), some (.ptr t), some (.int ((1 + m : Nat) : Int)), some (.bl ev), some (.tup X1), some (.tup X2), some x, some (.tup (rwD9 cs2 l2 m2 lv2 top2 fi2)), v8, v9] S) →
        wSs (Run Tx.tab 99) (match Tx.d35.body with
          | [_, _, _, _, _, .forS _ _ _ [_, .ite _ b _], _] => b
          | _ => []) [some (.ro (ns.map .int)), some (.ptr t), some (.int ((1 + m : Nat) : Int)), some (.bl ev), some (.tup X1), some (.tup X2), some x, some (.tup (rwD9 cs2 l2 m2 lv2 top2 fi2)), v8, v9] S E := by
      intro keep E hE
      walk_at "w"
      refine levels_spec hh Tx.tab30 Tx.tab27 m2 lv2 top2 hm (by omega) fun S7 k7 => ?_
      walk_at "w"
      refine best_spec hh m2 z3 fi2 lv2 top2 hm (by omega) keep hr fun S8 k8 => ?_
      walk_at "w"
      refine told_spec hh z3 fi2 lv2 top2 hm (by omega) keep hr fun S9 => ?_
      walk_at "w"
      walk_at "n"
      exact hE _ _ S9
    rcases m2 with ⟨ol, mj, am, bd⟩
    cases bd with
    | none =>
      have body := body (fun i hi => rfl)
      walk_at "w"
      walk_at "y"
      walk_at "w"
      walk_at "y"
      exact body _ fun v8 v9 S => ⟨_, _, _, _, rfl⟩
    | some p =>
      obtain ⟨bl, bf⟩ := p
      walk_at "w"
      walk_at "n"
      walk_at "w"
      refine ⟨fun g => ?_, fun g => ?_⟩
      · have g : bl < (lv2 : Int) := of_decide_eq_true g
        have body := body (fun i hi => if_pos (.inr (by omega)))
        walk_at "w"
        walk_at "y"
        exact body _ fun v8 v9 S => ⟨_, _, _, _, rfl⟩
      · walk_at "w"
        refine ⟨rfl, ?_⟩
        refine ⟨fun g2 => ?_, fun g2 => ?_⟩
        · have g2 : (bf == fi2) = true := (eqB bf fi2).symm.trans g2
          have body := body (fun i hi => if_pos (.inl (eq_of_beq g2).symm))
          exact body _ fun v8 v9 S => ⟨_, _, _, _, rfl⟩
        · exact ⟨_, _, _, _, rfl⟩
  · rintro σ S ⟨v6, v7, v8, v9, rfl⟩
    exact rfl
end Ov
theorem PySem.Challenge.cw_overturn_k32_whole_cheapest_rulings_holds : PySem.Challenge.rw_overturn_k32_whole_cheapest_rulings.Holds := by
  exact Tx.law_end fun ns _ => (Ov.Run_eq Tx.tab 100) ▸ Ov.law_spec ns
