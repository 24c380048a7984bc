import PyProof.Rows.All
import Wide.All
import OpenK.AllK
import Wide.FinOn
import HandS.ForMost
import HandS.More
import HandS.SortInts
import HandS.IsInst
import HandS.Rev
import HandS.RevTup
import HandS.AnyAll
import HandS.LawCells
import HandS.Walk
import HandS.Codes
import HandS.Exc
import HandS.TryOnly
import HandS.ExcOwn
import HandS.ExcIs
import HandS.TryMany
import HandS.SortKw
import KE.DataMinMax
import HandS.SetKeys
import HandS.DictComp
import HandS.Ends
import HandS.WordsExc
import HandS.EndTab
import PySem.Challenge.RW_keptrow_k03_rows_walked
set_option Elab.async false
set_option linter.all false
set_option maxRecDepth 100000
namespace Kr
open PySem PySem.Spec PyProof.Rows L2
/-! ### the order of texts -/
/-- Python's order of texts -/
def Lt (a b : Str) : Prop := a.cps.toList < b.cps.toList
instance (a b : Str) : Decidable (Lt a b) := inferInstanceAs (Decidable (a.cps.toList < b.cps.toList))
theorem Lt.irrefl (a : Str) : ¬ Lt a a := List.lt_irrefl a.cps.toList
theorem Lt.trans {a b c : Str} (h1 : Lt a b) (h2 : Lt b c) : Lt a c := List.lt_trans h1 h2
theorem Lt.asymm {a b : Str} (h : Lt a b) : ¬ Lt b a := fun h2 => Lt.irrefl a (h.trans h2)
theorem str_ext {a b : Str} (h : a.cps.toList = b.cps.toList) : a = b := by
  cases a
  cases b
  exact congrArg Str.mk (Array.toList_inj.mp h)
theorem Lt.tri {a b : Str} (h1 : ¬ Lt a b) (h2 : ¬ Lt b a) : a = b :=
  str_ext (List.le_antisymm (List.not_lt.mp h2) (List.not_lt.mp h1))
/-- not falling -/
def Up (ys : List Str) : Prop := ys.Pairwise fun a b => ¬ Lt b a
section
variable {prog : Program} {w : World} {A : Around} {E : Value → Shared → Prop} {s : Shared}
def tv : Value → Str
  | .str x _ => x
  | _ => ""
def ltTv (v u : Value) : Bool := decide (Lt (tv v) (tv u))
theorem swo_txt : SrtO.Swo ltTv := by
  refine ⟨fun x y h => ?_, fun x y z h1 h2 => ?_⟩
  · have a := of_decide_eq_true (p := Lt (tv x) (tv y)) h
    exact decide_eq_false (p := Lt (tv y) (tv x)) a.asymm
  · have a := of_decide_eq_false (p := Lt (tv y) (tv x)) h1
    have b := of_decide_eq_false (p := Lt (tv z) (tv y)) h2
    refine decide_eq_false (p := Lt (tv z) (tv x)) fun c => ?_
    by_cases d : Lt (tv x) (tv y)
    · exact b (c.trans d)
    · have e := Lt.tri d a
      rw [e] at c
      exact b c
theorem txt_mem : ∀ {vs : List Value} {ss : List Str}, StrsAre vs ss → ∀ v ∈ vs, ∃ x t, v = Value.str x t
  | _, _, .nil, v, h => absurd h (by simp)
  | _, _, .cons n t r, v, h => by
    rcases List.mem_cons.mp h with e | h
    · exact ⟨n, t, e⟩
    · exact txt_mem r v h
theorem txt_tv : ∀ {vs : List Value}, (∀ v ∈ vs, ∃ x t, v = Value.str x t) → StrsAre vs (vs.map tv)
  | [], _ => .nil
  | v :: vs, h => by
    obtain ⟨x, t, e⟩ := h v List.mem_cons_self
    subst e
    exact .cons x t (txt_tv fun u hu => h u (List.mem_cons_of_mem _ hu))
theorem tv_txt : ∀ {vs : List Value} {ss : List Str}, StrsAre vs ss → vs.map tv = ss
  | _, _, .nil => rfl
  | _, _, .cons n t r => congrArg (n :: ·) (tv_txt r)
theorem txt_sortable {a : Addr} {vs : List Value} {ss : List Str} (hS : StrsAre vs ss) (h2 : 2 ≤ vs.length) : SrtO.SortableO prog w A s a vs ltTv := by
  intro h' _
  refine ⟨oneType', fun Q E hq => ?_, fun p q hm hm' => ?_⟩
  · match vs, hS, h2 with
    | v1 :: v2 :: rest, hS, _ =>
      rw [keyKind_strs hS]
      exact wpAny_pure hq
    | [], _, h => exact absurd h (by decide)
    | [v], _, h => exact absurd h (by simp)
  · obtain ⟨x, t, e⟩ := txt_mem hS _ hm
    obtain ⟨y, u, e'⟩ := txt_mem hS _ hm'
    show wpAny (model prog w) A (keyLt' oneType' p.1 q.1) (fun r s' => s' = _ ∧ r = ltTv p.1 q.1) (fun _ _ => False) _
    rw [e, e', keyLt'_oneType]
    exact oneLt_str ⟨rfl, rfl⟩
theorem txt_out {vs out : List Value} {ss : List Str} (hS : StrsAre vs ss) (hs : SrtO.Srtd ltTv out) (hb : SrtO.Stb ltTv out vs) : StrsAre out (out.map tv) ∧ (out.map tv).Perm ss ∧ Up (out.map tv) := by
  refine ⟨txt_tv fun v hv => txt_mem hS v (hb.perm.mem_iff.mp hv), ?_, ?_⟩
  · have q := hb.perm.map tv
    rw [tv_txt hS] at q
    exact q
  · exact List.pairwise_map.mpr (hs.imp fun {x y} h => of_decide_eq_false (p := Lt (tv y) (tv x)) h)
end
section
variable {X : Cx}
/-- sorted(xs), texts, any number of them -/
def rSortedTx (K : PySem.W.Frag) : List V → Hp → VK → Prop := fun vs H Q => ∃ (a : Addr) (ss : List Str), vs = [V.ref a] ∧ SqL K H a (ss.map V.str) ∧
  ∀ (ys : List Str) (p : Addr), ys.Perm ss → Up ys → H p = none → Q (.ref p) (upd H p (.lst (ys.map V.str)))
theorem cr_sortedTx : CallR X (.builtin "sorted") (rSortedTx X.K) := by
  intro pins s σ H vs us Q I r h
  obtain ⟨a, ss, rfl, hs, q⟩ := h
  obtain ⟨its, rv, hl, hz⟩ := I.list hs
  rw [Vals.ref1 r]
  have hS := rv.strs
  refine SrtO.sorted_ord swo_txt hl.isList (by rw [← rv.length]; exact hz) (fun h2 h1 b _ _ => txt_sortable hS h2) fun out o1 o2 => ?_
  obtain ⟨k1, k2, k3⟩ := txt_out hS o1 o2
  obtain ⟨ep, hat⟩ := PyProof.Rows.sortedAll_at s.heap its out.toArray
  have hlen : ((out.map tv).map V.str).length ≤ sizeLine := by
    rw [List.length_map, k2.length_eq, ← List.length_map (f := V.str)]
    exact hz
  refine ⟨.ref _, upd H (s.heap.objs.size + 1) (.lst ((out.map tv).map V.str)), ?_, rfl, q _ _ k2 k3 (I.hok.fresh (Nat.le_succ _))⟩
  exact I.laid (t' := s.toks) (fun _ _ => PyProof.Rows.sortedAll_old) (Nat.le_succ _) ⟨hlen, out, ep, vals_of_strs k1, hat⟩
/-- sorted(d), d a dict of text keys, any number of them -/
def rSortedDx : List V → Hp → VK → Prop := fun vs H Q => ∃ (a : Addr) (kvs : List (Key × V)) (ks : List Str), vs = [.ref a] ∧ Rd H a (.dK kvs) ∧ kvs.map (·.1) = ks.map Sum.inr ∧
  ∀ (ys : List Str) (p : Addr), ys.Perm ks → Up ys → H p = none → Q (.ref p) (upd H p (.lst (ys.map V.str)))
theorem cr_sortedDx (hcalm : X.calm = true) : CallR X (.builtin "sorted") rSortedDx := by
  intro pins s σ H vs us Q I r h
  obtain ⟨a, kvs, ks, rfl, hd, hks, q⟩ := h
  rw [Vals.ref1 r]
  obtain ⟨hz, lo, dv, rel, dd⟩ := dk_rd I.hok hd
  obtain ⟨ep, hat⟩ := dd.dictAt
  have hkeys : dv.map (·.1) = ks.map Sum.inr := rel.keys.symm.trans hks
  have hl : dv.length = ks.length := by
    have e := congrArg List.length hkeys
    rw [List.length_map, List.length_map] at e
    exact e
  have hl2 : kvs.length = ks.length := by
    have e := congrArg List.length hks
    rw [List.length_map, List.length_map] at e
    exact e
  have hsz : dv.length ≤ sizeLine := by
    rw [hl, ← hl2]
    exact hz
  refine Calls.call_function_entry PyProof.Rows.kind_sorted PyProof.Rows.plain_sorted PyProof.Rows.entry_sorted (PyProof.Rows.args_sorted1 _) ?_
  unfold Builtin.«sorted»
  refine wpAny_bind (m := checkCount "sorted" 1 1 _) (wpAny_pure ?_)
  refine wpAny_bind (PySem.W.kdu_collect (A := X.A.in1) (PySem.W.kdl_dict (knd := mixKind X.prog X.w) (kvs := dv) (ep := ep) lo) (I.ok.hd hcalm) hat hsz fun h1 t1 acc keep hacc => ?_)
  have hal : acc.toList.length = ks.length := by
    rw [Array.length_toList, hacc.1]
    exact hl
  have hS : StrsAre acc.toList ks := by
    refine strs_at hal fun j v e => ?_
    obtain ⟨k, x, e1, e2⟩ := hacc.2 j v (by rw [← Array.getElem?_toList]; exact e)
    have e3 : (dv.map (·.1))[j]? = some k := by
      rw [List.getElem?_map, e1]
      rfl
    rw [hkeys, List.getElem?_map] at e3
    cases e4 : ks[j]? with
    | none =>
      rw [e4] at e3
      cases e3
    | some y =>
      rw [e4] at e3
      cases Option.some.inj e3
      obtain ⟨t, ev⟩ := Value.isStrOf_shape (x := y) (v := v) e2
      exact ⟨y, t, rfl, ev⟩
  have I1 : Inv X pins σ H { s with heap := h1, toks := t1 } := I.kept keep
  have hsa : acc.toList.length ≤ sizeLine := by
    rw [hal, ← hl]
    exact hsz
  refine wpAny_bind (wpAny_newList ?_ hsa)
  have hoL : (h1.push (seqObj "list" acc.toList.toArray 0)).get? h1.objs.size = some (seqObj "list" acc.toList.toArray 0) := Heap.get?_push_size _ rfl
  show wpAny _ _ _ _ _ { s with heap := h1.push (seqObj "list" acc.toList.toArray 0), toks := t1 }
  refine wpAny_bind (wpAny_holding (wpAny_call_entry PyProof.Rows.slot_list_sort ⟨_, hoL, rfl⟩ PyProof.Rows.entry_list_sort
    (SrtO.list_sort_ord swo_txt (s := { s with heap := h1.push (seqObj "list" acc.toList.toArray 0), toks := t1 }) hoL hsa (fun h2 => txt_sortable hS h2) fun out o1 o2 => ⟨_, rfl, ?_⟩)
    (PyProof.Rows.args_list_sort _)))
  obtain ⟨k1, k2, k3⟩ := txt_out hS o1 o2
  obtain ⟨ep2, hat2⟩ := PyProof.Rows.sortedHeap_at (vs := acc.toList) (out := out.toArray) hoL
  have hlen : ((out.map tv).map V.str).length ≤ sizeLine := by
    rw [List.length_map, k2.length_eq, ← hl]
    exact hsz
  refine wpAny_pure ⟨_, rfl, .ref h1.objs.size, upd H h1.objs.size (.lst ((out.map tv).map V.str)), ?_, rfl, q _ _ k2 k3 (I1.hok.fresh (Nat.le_refl _))⟩
  refine I1.laid (t' := t1) (fun b u e => ?_) (Nat.le_refl _) (show ObjOk X.prog X.w _ _ _ (.lst ((out.map tv).map V.str)) from ⟨hlen, out, ep2, vals_of_strs k1, hat2⟩)
  have hb : b < h1.objs.size := Heap.lt_size e
  rw [PyProof.Rows.sortedHeap_old (Nat.ne_of_lt hb) (by rw [size_push']; exact Nat.lt_succ_of_lt hb)]
  exact Heap.get?_push_of_some _ e
/-- d.update(e), e another dict -/
def rUpdD : V → List V → Hp → VK → Prop := fun x xs H Q => ∃ (d e : Addr) (kvs ls : List (Key × V)), x = .ref d ∧ xs = [.ref e] ∧ H d = some (.dK kvs) ∧ Rd H e (.dK ls) ∧ d ≠ e ∧
  kvs.length + ls.length ≤ sizeLine ∧ Q .non (upd H d (.dK (mergeK kvs ls)))
theorem mt_updD : MtR X "dict.update" rUpdD := by
  intro pins s σ H x xs v us Q I rx rxs h
  obtain ⟨d, e, kvs, ls, rfl, rfl, hd, he, hne, hsz, q⟩ := h
  cases rx
  rw [Vals.ref1 rxs]
  obtain ⟨z1, lo1, dv, rel1, dd1⟩ := dk_of I.hok hd
  obtain ⟨z2, lo2, ev, rel2, dd2⟩ := dk_rd I.hok he
  refine call_meetsIn PySem.F.slot_dict_update dd1.typeIs PySem.F.entry_dict_update (PySem.F.args_dict_update_2 _ _) (meets_dict_update (mixKind X.prog X.w) d e hne lo2)
    ⟨dv, ev, dd1, dd2, (by rw [← rel1.length, ← rel2.length]; exact hsz), fun h1 m1 m2 hs => ?_⟩
  have hl : (mergeK kvs ls).length ≤ sizeLine := Nat.le_trans (length_mergeK ls kvs) hsz
  have there : ∃ o, h1.get? d = some o := let ⟨o, _, _, ho, _⟩ := m1; ⟨o, ho⟩
  exact ⟨.non, _, d_write (t' := s.toks) I (by rw [hd]; exact True.intro) hs there (dk_new hl lo1 (KV.merge rel2 rel1) m1), rfl, q⟩
/-- xs.count(y), all of them flat -/
def rCnt (K : PySem.W.Frag) : V → List V → Hp → VK → Prop := fun x xs H Q => ∃ (p : Addr) (ys : List V) (y : V), x = .ref p ∧ xs = [y] ∧ SqL K H p ys ∧ flatV y = true ∧ ys.all flatV = true ∧
  Q (.int (ys.countP (fun z => eqV z y) : Nat)) H
theorem count_eqU {x : V} : ∀ {xs : List V} {us : List Value}, Vals xs us → xs.all flatV = true → us.countP (eqU x) = xs.countP fun y => eqV y x
  | _, _, .nil, _ => rfl
  | y :: xs, u :: us, .cons r t, f => by
    rw [List.all_cons, Bool.and_eq_true] at f
    rw [List.countP_cons, List.countP_cons, eqU_of r f.1, count_eqU t f.2]
theorem mt_cnt : MtR X "list.count" (rCnt X.K) := by
  intro pins s σ H x xs v us Q I rx rxs h
  obtain ⟨p, ys, y, rfl, rfl, hs, fy, fys, q⟩ := h
  cases rx
  obtain ⟨u, rfl, ru⟩ := rxs.one
  obtain ⟨its, rv, ⟨⟨cls, dd, data, sl⟩, n, ho, hc, hdn, hd⟩, hlen⟩ := I.list hs
  simp only at hc hd
  subst hc hd
  refine call_meets PySem.F.slot_list_count ⟨_, ho, rfl⟩ PySem.F.entry_list_count (PySem.F.args_list_count_2 _ _)
    (SeqAt.list_countAt p its.toArray n dd sl u (eqU y)) ⟨ho, fun z hz => mem_eqAt ru fy rv fys z (by simpa using hz), ?_⟩
  refine ⟨.int (ys.countP (fun z => eqV z y) : Nat), H, I.tok _, ⟨s.toks, ?_⟩, q⟩
  show Value.int ((its.toArray.toList.countP (eqU y) : Nat) : Int) s.toks = Value.int ((ys.countP (fun z => eqV z y) : Nat) : Int) s.toks
  rw [List.toList_toArray, count_eqU rv fys]
end
end Kr

namespace Kr
open PySem PySem.Spec PyProof.Rows L2
/-! ### rules within a comprehension: the written part by its own name -/
section
variable {X : Cx} {K : PySem.W.Frag}
theorem len_seqK (e : X.K = K := by rfl) : CallR X (.builtin "len") (fun xs H Q => ∃ p ys, xs = [V.ref p] ∧ (SqL K H p ys ∨ SqT K H p ys) ∧ Q (.int ys.length) H) := by
  subst e
  exact call_len_seq
theorem ix_listK (e : X.K = K := by rfl) : IxR X (rIxL K) := by
  subst e
  exact ix_list
theorem ix_tupK (e : X.K = K := by rfl) : IxR X (rIxT K) := by
  subst e
  exact ix_tup
theorem in_seqK (e : X.K = K := by rfl) : OpR X (compareOp .In) (rIn K false) := by
  subst e
  exact op_in_seq
theorem notIn_seqK (e : X.K = K := by rfl) : OpR X (compareOp .NotIn) (rIn K true) := by
  subst e
  exact op_notIn_seq
theorem eqDK (hu : X.A.units + 64 < cLine) (e : X.K = K := by rfl) : OpR X (compareOp .Eq) (rEqD K) := by
  subst e
  exact op_eqD hu
theorem neDK (hu : X.A.units + 64 < cLine) (e : X.K = K := by rfl) : OpR X (compareOp .NotEq) (rNeD K) := by
  subst e
  exact op_neD hu
theorem sl_listK (e : X.K = K := by rfl) : SlR X (rSlL K) := by
  subst e
  exact sl_list
theorem isiK (e : X.K = K := by rfl) : CallR X (.builtin "isinstance") (rIsi K) := by
  subst e
  exact call_isi
end
end Kr

set_option maxHeartbeats 2000000
namespace Kr
open PySem PySem.Spec PyProof.Rows L2
section
variable {prog : Program} {w : World} {A : Around} {E : Value → Shared → Prop} {s : Shared}
/-- list.__init__ of a new list by reversed(l) -/
theorem init_rev {R : Result → Shared → Prop} {it l S : Addr} {items : Array Value} (hh : A.handled = none) (hit : s.heap.IsRevIter it l ((items.size : Int) - 1)) (hl : s.heap.IsList l items) (hne : l ≠ it) (n1 : S ≠ it) (n2 : S ≠ l)
    (hn : items.size ≤ sizeLine) (hS : s.heap.get? S = some { cls := .type "list", data := .seq #[] })
    (hR : ∀ h' tk acc c, (∀ b o, b ≠ S → b ≠ it → s.heap.get? b = some o → h'.get? b = some o) → h'.get? S = some { cls := .type "list", dict := none, data := .seq acc c, slots := #[] } →
      ItemsOf (fun i v => items[items.size - 1 - i]? = some v) acc items.size → R (.ok (.ret .none)) { s with heap := h', toks := tk }) :
    wpAny (model prog w) A.in1 (Builtin.«list.__init__» ⟨[.ref S, .ref it], []⟩)
      (fun fin z => match fin with | .done f => R (.ok f) z | .again c => c.quiet = true ∧ codeAny (model prog w) A c R z) (fun e z => R (.error e) z) s := by
  show wpAny _ _ (do let old ← Builtin.List.listItems (.ref S); Builtin.List.listUpdate (.ref S) (fun _ => #[]); letGo old.toList.reverse; Builtin.List.listExtendWith (.ref S) (.ref it) .none) _ _ s
  refine wpAny_bind ?_
  unfold Builtin.List.listItems
  refine wpAny_bind (wpAny_seqItems hS rfl (wpAny_pure ?_))
  show wpAny _ _ (updateSeq S (fun _ => #[]) >>= fun _ => letGo (#[] : Array Value).toList.reverse >>= fun _ => Builtin.List.listExtendWith (.ref S) (.ref it) .none) _ _ s
  refine wpAny_bind (wpAny_updateSeq hS rfl ?_)
  have hS2 := Heap.get?_update_self (Obj.mapSeq (fun _ => (#[] : Array Value))) hS rfl
  have oth : ∀ b o, b ≠ S → s.heap.get? b = some o → (s.heap.update S (Obj.mapSeq (fun _ => (#[] : Array Value)))).get? b = some o := fun b o hb e => (Heap.get?_update_other _ _ (Ne.symm hb)).trans e
  refine wpAny_bind (wpAny_letGo ?_)
  generalize hg : s.heap.update S (Obj.mapSeq (fun _ => (#[] : Array Value))) = h1 at hS2 oth
  have hit1 : h1.IsRevIter it l ((items.size : Int) - 1) := hit.at fun o e => oth it o n1.symm e
  have hl1 : h1.IsList l items := hl.at fun o e => oth l o n2.symm e
  have hT : ({ s with heap := h1 } : Shared).TypeIs (.ref it) "list_reverseiterator" := Heap.IsRevIter.typeIs (s := { s with heap := h1 }) hit1
  have nosame : Builtin.List.listSameRef (.ref S) (.ref it) = false := by simp [Builtin.List.listSameRef, n1]
  unfold Builtin.List.listExtendWith
  refine wpAny_bind (wpAny_typeOf hT ?_)
  rw [if_neg (by rw [nosame]; decide)]
  refine wpAny_bind (wpAny_pyIter_revIter (s := { s with heap := h1 }) hit1 ?_)
  refine wpAny_bind (wpAny_holding ?_)
  unfold Builtin.List.listLengthHint
  refine wpAny_bind (wpAny_specialOf hT RT.nolen_lri ?_)
  show wpAny _ A.in1 (specialOf (Value.ref it) (Str.ofString "__length_hint__") >>= _) _ _ _
  refine wpAny_bind (wpAny_specialOf hT RT.hint_lri ?_)
  generalize hz : ("list_reverseiterator.__length_hint__" : String) = nm
  wp_delta
  rw [show splitId nm = some ("list_reverseiterator", "__length_hint__") from by subst hz; decide +kernel]
  subst hz
  refine wpAny_bind (wpAny_isInstance (b := true) hT (by rw [isSubtype_type]; kernel_rfl) (wpAny_pure ?_))
  rw [if_neg (by decide)]
  have e0 : ((items.size : Nat) : Int) - 1 - ((0 : Nat) : Int) = (items.size : Int) - 1 := by omega
  have out : S ∉ [it, l] := by
    simp only [List.mem_cons, List.not_mem_nil, or_false, not_or]
    exact ⟨n1, n2⟩
  have W := (Walks.listRev (prog := prog) (w := w) (A := A.in1) hh it l hne items).toS
  refine wpAny_pure ⟨plainId_quiet F.plain_extend_loop _, codeAny_extend_loopS W hn S out _ items.size 0 _ _ _ rfl (Nat.zero_le _) ⟨Nat.zero_le _, by rw [e0]; exact hit1, hl1⟩ hS2 (ItemsOf.nil _) fun z acc c hm hz hacc => ?_⟩
  rw [Moved.eq_with hm]
  refine hR z.heap z.toks acc c (fun b o b1 b2 e => hm.heap b o (fun q => ?_) (oth b o b1 e)) hz hacc
  rcases List.mem_cons.mp q with q | q
  · exact b1 q
  · exact b2 (List.mem_singleton.mp q)
/-- list(reversed(l)) behind the making of the iterator -/
theorem call_list_rev {Q : Value → Shared → Prop} {it l : Addr} {items : Array Value} (hh : A.handled = none) (hit : s.heap.IsRevIter it l ((items.size : Int) - 1)) (hl : s.heap.IsList l items) (hne : l ≠ it) (hn : items.size ≤ sizeLine)
    (hQ : ∀ h' tk acc c, (∀ b o, b ≠ it → s.heap.get? b = some o → h'.get? b = some o) → h'.get? s.heap.objs.size = some { cls := .type "list", dict := none, data := .seq acc c, slots := #[] } →
      ItemsOf (fun i v => items[items.size - 1 - i]? = some v) acc items.size → Q (.ref s.heap.objs.size) { s with heap := h', toks := tk }) : wpAny (model prog w) A (call (.type "list") [.ref it]) Q E s := by
  obtain ⟨oi, hoi, _⟩ := id hit
  obtain ⟨ol, hol, _⟩ := id hl
  refine callType_codes (Q₁ := fun v z => v = .ref s.heap.objs.size ∧ z = { s with heap := s.heap.push { cls := .type "list", data := .seq #[] } }) PySem.F.called_list (PySem.F.typeCall_list_1 _) PySem.F.entry_list_init
    (code_list_new _ ⟨rfl, rfl⟩) fun v z hv => ?_
  obtain ⟨rfl, rfl⟩ := hv
  have hS : (s.heap.push { cls := .type "list", data := .seq #[] }).get? s.heap.objs.size = some { cls := .type "list", data := .seq #[] } := Heap.get?_push_size _ rfl
  refine ⟨⟨_, hS, rfl⟩, PySem.F.args_list_init_2 _ _, init_rev (A := A.in1) hh (hit.at fun o e => Heap.get?_push_of_some _ e) (hl.push _) hne (Nat.ne_of_gt (Heap.lt_size hoi)) (Nat.ne_of_gt (Heap.lt_size hol)) hn hS fun h' tk acc c keep hz hacc => ?_⟩
  exact ⟨rfl, hQ h' tk acc c (fun b o b2 e => keep b o (Nat.ne_of_lt (Heap.lt_size e)) b2 (Heap.get?_push_of_some _ e)) hz hacc⟩
end
section
variable {X : Cx}
/-- list(reversed(x)), x a list -/
def tLstRev (K : PySem.W.Frag) (te : TE) : TE := fun σ H Q => te σ H fun v H1 => ∃ (a : Addr) (xs : List V), v = .ref a ∧ SqL K H1 a xs ∧ ∀ q, H1 q = none → Q (.ref q) (upd H1 q (.lst xs.reverse))
theorem pe_lstRev {e : Expr} {te : TE} {p p2 pos pos2 : Pos} (hc : X.calm = true) (hg : Gl X "list") (hm : X.mg "list" = none) (hg2 : Gl X "reversed") (hm2 : X.mg "reversed" = none) (he : PE X e te)
    (hs : starEach [e] X.env = (false, eval e X.env) :: starEach [] X.env := by rfl)
    (hs2 : starEach [.Call (.Name "reversed" p2) [e] [] pos2] X.env = (false, eval (.Call (.Name "reversed" p2) [e] [] pos2) X.env) :: starEach [] X.env := by rfl) :
    PE X (.Call (.Name "list" p) [.Call (.Name "reversed" p2) [e] [] pos2] [] pos) (tLstRev X.K te) := by
  refine ⟨fun pins s σ H Q I h => ?_⟩
  refine Call_ (ld_blt I hg hm (show bootBuiltins "list" = some (.type "list") by decide +kernel) (PyProof.Rows.callWith_type1 (args_cons (Call_ (ld_blt I hg2 hm2 PyProof.Rows.boot_reversed (PyProof.Rows.callWith_type1 (args_cons (thn (he.run pins s σ H _ I h) fun u z ⟨v, H1, Iz, rv, q⟩ => args_nil ?_) hs) hs rfl))) hs2) hs2 rfl))
  obtain ⟨a, xs, ev, hq, q⟩ := q
  subst ev
  obtain rfl : u = Value.ref a := rv
  obtain ⟨its, rl, pl, hz⟩ := Iz.list hq
  refine call_reversed_list pl.isList (args_nil ?_)
  have hl := pl.isList
  obtain ⟨ol, hol, _⟩ := id hl
  have k0 : ∀ b o, z.heap.get? b = some o → (z.heap.push (revObj a ((its.toArray.size : Int) - 1))).get? b = some o := fun b o e => Heap.get?_push_of_some _ e
  have I2 : Inv X pins σ H1 { z with heap := z.heap.push (revObj a ((its.toArray.size : Int) - 1)) } := Iz.kept (t' := z.toks) k0
  have fp := Iz.fpOk (H' := H1) (b := z.heap.objs.size) (Nat.le_refl _) (Iz.hok.fresh (Nat.le_refl _))
  have hn : its.toArray.size ≤ sizeLine := by
    rw [List.size_toArray, ← rl.length]
    exact hz
  refine call_list_rev (s := { z with heap := z.heap.push (revObj a ((its.toArray.size : Int) - 1)) }) (Iz.ok.hd hc) ⟨_, Heap.get?_push_size _ rfl, rfl, rfl⟩ (hl.push _) (Nat.ne_of_lt (Heap.lt_size hol)) hn fun h' tk acc c hk hS hi => ?_
  have I3 := I2.turnedNew (h' := h') (t' := tk) (ch := [z.heap.objs.size]) (T := (z.heap.push (revObj a ((its.toArray.size : Int) - 1))).objs.size) (ob := .lst xs.reverse)
    (fun b o hb e => hk b o (fun q => hb (by rw [q]; exact List.mem_cons_self)) e) (fun b hb => by rw [List.mem_singleton.mp hb]; exact fp) (Nat.le_refl _)
    (show ObjOk X.prog X.w _ _ _ (.lst xs.reverse) from ⟨by rw [List.length_reverse]; exact hz, acc.toList, c, RT.vals_rev rl hi, by rw [Array.toArray_toList]; exact hS⟩)
  exact ⟨.ref _, _, I3, rfl, q _ (I2.hok.fresh (Nat.le_refl _))⟩
end
end Kr

set_option maxHeartbeats 2000000
namespace Kt
open PySem PySem.Spec PyProof.Rows L2 GxR
/-- the element of a generator expression: a test of one sign, that may read the module's own names -/
def EltM (X : Cx) (sc : Scope) (x : Str) (e : Expr) (f : Nat → Bool) : Prop :=
  ∀ (en : Env) (B : Around) (R : Value → Shared → Prop) (n : Nat) (t : Tok) (z : Shared) (m : Str → Option Value),
    en.scope = sc → en.globals = mainGlobals → z.heap.Ns mainGlobals X.mg → z.heap.Ns en.locals m → m x = some (.str ⟨#[n]⟩ t) →
      wpAny (model X.prog X.w) B (eval e en) (fun y z' => y = .bool (f n) ∧ Keeps z z') R z
section
variable {X : Cx} {pins : List (Addr × Obj)} {σ : L2.St} {H : Hp} {s : Shared}
/-- x in NAME, NAME a text of the module -/
theorem elt_in {sc : Scope} {x y : Str} {w : Str} {tw : Tok} {p1 p2 p3 : Pos} (hk : sc.kind = .function) (hl : sc.names.lookup x = some .local) (hg : sc.names.lookup y = some .globalImplicit)
    (hm : X.mg y = some (.str w tw)) (d1 : (x == ("__debug__" : Str)) = false := by decide) (d2 : (y == ("__debug__" : Str)) = false := by decide) :
    EltM X sc x (.Compare (.Name x p1) [.In] [.Name y p2] p3) (fun n => decide (n ∈ w.cps.toList)) := by
  intro en B R n t z m hsc hgl hG hL hv
  refine wpAny_Compare1 (wpAny_Name (wpAny_loadName_local (by rw [hsc]; exact hk) (show en.scope.names.lookup x = some .local by rw [hsc]; exact hl) hL hv ?_) d1)
  refine Calls.Name_function_global (by rw [hsc]; exact hk) (show en.scope.names.lookup y = some .globalImplicit by rw [hsc]; exact hg) (Calls.loadGlobal_global (by rw [hgl]; exact hG) hm ?_) d2
  refine PyProof.Rows.in_str ⟨?_, keeps_tok _ _⟩
  exact congrArg Value.bool (PySem.StrLaws.found_one w n)
/-- what the making of the generator asks, behind its code object, in the state z4 -/
def Onward (X : Cx) (sc : Scope) (x : Str) (elt : Expr) (it : Addr) (cd : Value)
    (G : Value → Shared → Prop) (bi : Addr) (z4 : Shared) : Prop :=
  ∃ (J : Addr) (fp wr : List Addr) (n : Nat) (V : Nat → Value → Prop) (S0 : Nat → Heap → Prop)
      (pz : Nat → Bool) (F : Nat → Value → Prop), Value.ref it = .ref J ∧
    (∀ B : Around, B.handled = none → Walks X.prog X.w B J fp wr n V S0) ∧ S0 0 z4.heap ∧
    (∀ b ∈ fp, b < z4.heap.objs.size) ∧ z4.heap.NoLimit ∧ cStatics ∉ wr ∧
    (∀ hr : Heap, (∀ b o, z4.heap.get? b = some o → hr.get? b = some o) →
      QuietGen X.prog X.w (genEnv sc (cloFrom X.env.cells sc.names [])
        z4.heap.objs.size cd bi X.env) x [] elt (List.range z4.heap.objs.size) wr V pz F hr) ∧
    (∀ a h5 tk gs, gs.bare = true → z4.heap.objs.size < a → h5.objs.size = a + 1 →
      (∀ b o, z4.heap.get? b = some o → h5.get? b = some o) →
      WalksS X.prog X.w X.A.in4 a
        (a :: z4.heap.objs.size :: List.range z4.heap.objs.size) (z4.heap.objs.size :: wr)
        (GenOnlyQ z4.gens.size) (passing pz n 0).length
        (fun j y => ∃ i, (passing pz n 0)[j]? = some i ∧ F i y)
        (GenAt X.prog X.w X.A.in4 a z4.gens.size z4.heap.objs.size
          (List.range z4.heap.objs.size) wr pz n F) →
      GenAt X.prog X.w X.A.in4 a z4.gens.size z4.heap.objs.size
        (List.range z4.heap.objs.size) wr pz n F 0
        { z4 with gens := z4.gens.push gs, toks := tk, heap := h5 } →
      G (.ref a) { z4 with gens := z4.gens.push gs, toks := tk, heap := h5 })
/-- the walk over the signs of z, made ready for any or all -/
theorem gen_signs {c P : Addr} {elt iter : Expr} {x : Str} {px gp : Pos} {sc : Scope} {f : Nat → Bool} {te : TE} {k : Nat} {G : Value → Shared → Prop} {R : Str → Hp → Prop}
    (hr : Room k X.A) (TB : TabB X.base X.mg c P) (hcode : X.env.code = .ref c) (S : GenS X.env sc x) (hi : PE X iter te) (hel : EltM X sc x elt f)
    (hf : ∀ v, genFold iter X.env v = pure v) (I : Inv X pins σ H s) (h : te σ H fun v H1 => ∃ z : Str, v = .str z ∧ TabG H1 P ∧ R z H1)
    (hQ : ∀ z H1 g sg, R z H1 → Ready X pins σ H1 P z f g sg → G (.ref g) sg) :
    wpAny (model X.prog X.w) X.A (eval (.GeneratorExp elt [⟨.Name x px, iter, [], 0⟩] sc gp) X.env) G X.xe s := by
  refine wpAny_GeneratorExp_walksQ hr.hd S.co (closure_ok S.free) S.cell S.dot S.loc S.kind (by have := hr.dp; omega) ?_ hf
  refine thn (hi.run pins s σ H _ I h) fun u sa ⟨v, H1, Ia, rv, ⟨z, ev, ⟨ps, hP, htr⟩, hR⟩⟩ => ?_
  subst ev
  obtain ⟨tz, rfl⟩ := rv
  refine wpAny_pyIter_str fun ob St W hst => ?_
  have eP : sa.heap.get? P = some { cls := .none, data := .fields ps } := Ia.hok P _ hP
  have ltP : P < sa.heap.objs.size := Heap.lt_size eP
  have eP2 : (sa.heap.push ob).get? P = some { cls := .none, data := .fields ps } := Heap.get?_push_of_some _ eP
  have hcd : PySem.W.CodeHd (sa.heap.push ob) c P := TB.code.keeps fun b o e => Heap.get?_push_of_some _ (Ia.bk b o e)
  have nl : (sa.heap.push ob).NoLimit := Ia.nolimit.push ob
  have nsz : (sa.heap.push ob).objs.size = sa.heap.objs.size + 1 := Heap.size_push ..
  have ltS : cStatics < sa.heap.objs.size := let ⟨_, q, _⟩ := Ia.nolimit; q.lt
  have neS : cStatics ≠ P := fun q => by
    obtain ⟨_, ⟨o, es, ep, ho, hd, _⟩, _⟩ := Ia.nolimit
    rw [q, eP] at ho
    cases ho
    cases hd
  -- behind the code object (found, or made anew: then the table has grown)
  have behind : ∀ (cd : Value) (hh : Heap) (tk : Nat) (qs : Array Value), Heap.ExtBut P (sa.heap.push ob) hh → (sa.heap.push ob).objs.size ≤ hh.objs.size →
      hh.get? P = some { cls := .none, data := .fields qs } → (∃ more, qs = ps ++ more) → TriplesOk qs.toList →
      wpAny (model X.prog X.w) X.A (builtinsFor X.env.globals X.env.builtins) (Onward X sc x elt sa.heap.objs.size cd G) X.xe { sa with heap := hh, toks := tk } := by
    intro cd hh tk qs hx hsz hq hmore htq
    have lt2 : sa.heap.objs.size < hh.objs.size := Nat.lt_of_lt_of_le (by rw [nsz]; exact Nat.lt_succ_self _) hsz
    obtain ⟨bm, obm, b1, b2, b3, b4, b5, b6, b7, b8⟩ := TB.bm
    have up : ∀ b o, b ≠ P → sa.heap.get? b = some o → hh.get? b = some o := fun b o hb e => hx b o hb (Heap.get?_push_of_some _ e)
    have hgl : hh.Ns mainGlobals X.mg := ((Ia.mod.glob.keeps Ia.bk).push ob).extBut hx TB.gP
    refine wpAny_builtinsFor (m := X.mg) (by rw [Ia.ok.glob]; exact hgl) b1 b2 (up _ _ b4 (Ia.bk _ _ b5)) b6 b7 b8 ?_
    refine ⟨sa.heap.objs.size, [sa.heap.objs.size], [sa.heap.objs.size], z.cps.size, SignAt z, St, (fun _ => true),
      (fun i y => ∃ n, z.cps[i]? = some n ∧ y = .bool (f n)), rfl, W, ?_, ?_, nl.extBut hx neS, ?_, ?_, ?_⟩
    · refine (W X.A hr.hd).frame _ _ _ hst fun b hb o e => hx b o ?_ e
      intro q
      have e1 : b = sa.heap.objs.size := List.mem_singleton.mp hb
      have e2 : P = sa.heap.objs.size := q.symm.trans e1
      exact absurd ltP (by rw [e2]; exact Nat.lt_irrefl _)
    · intro b hb
      have e1 : b = sa.heap.objs.size := List.mem_singleton.mp hb
      show b < hh.objs.size
      rw [e1]
      exact lt2
    · intro q
      have e1 : cStatics = sa.heap.objs.size := List.mem_singleton.mp q
      exact absurd ltS (by rw [← e1]; exact Nat.lt_irrefl _)
    · intro hr2 hup
      refine ⟨fun B R i v z2 m2 hB hPv hn hm hkeep => ?_, fun B R i v z2 m2 hB hPv hp hn hm hkeep => ?_⟩
      · rw [List.forIn_nil]
        exact wpAny_pure ⟨rfl, keeps_tok _ _⟩
      · obtain ⟨n, u, hn2, rfl⟩ := hPv
        have ltG : mainGlobals < sa.heap.objs.size := let ⟨_, _, _, e, _⟩ := Ia.mod.glob.keeps Ia.bk; Heap.lt_size e
        have g2 : z2.heap.Ns mainGlobals X.mg := by
          obtain ⟨o, es, ep, e, r⟩ := hgl
          refine ⟨o, es, ep, hkeep mainGlobals (List.mem_range.mpr ?_) (fun q => ?_) o (hup _ _ e), r⟩
          · exact Nat.lt_trans ltG lt2
          · have e1 : mainGlobals = sa.heap.objs.size := List.mem_singleton.mp q
            exact absurd ltG (by rw [← e1]; exact Nat.lt_irrefl _)
        exact wpAny_mono (hel _ B R n u z2 m2 rfl Ia.ok.glob g2 hn hm) (fun y z3 r => ⟨⟨n, hn2, r.1⟩, r.2⟩) fun _ _ e => e
    · intro g h5 tk5 gs hgs hag hs5 hk5 W5 hat
      have en : (passing (fun _ => true) z.cps.size 0) = List.range z.cps.size := passing_true _
      rw [en, List.length_range] at W5
      refine hQ z H1 g _ hR ⟨_, _, _, _, _, W5.in4_1, hat, ?_, fun s' hmv => ?_⟩
      · intro j y sj Qj Ej hy hQj
        obtain ⟨i, hij, n, hn, rfl⟩ := hy
        obtain ⟨_, ej⟩ := List.getElem?_eq_some_iff.mp hij
        rw [List.getElem_range] at ej
        subst ej
        have e9 : z.cps.toList[j]? = some n := by
          rw [Array.getElem?_toList]
          exact hn
        have hq2 : Qj (trF f z.cps.toList j) sj := hQj
        rw [trF_some e9] at hq2
        exact wpAny_truthy_bool hq2
      · obtain ⟨more, em⟩ := hmore
        subst em
        have away : ∀ b o, sa.heap.get? b = some o → b ∉ hh.objs.size :: [sa.heap.objs.size] := fun b o e q => by
          have l1 := Heap.lt_size e
          rcases List.mem_cons.mp q with q | q
          · rw [q] at l1
            exact Nat.lt_irrefl _ (Nat.lt_of_lt_of_le l1 (Nat.le_of_lt lt2))
          · rw [List.mem_singleton.mp q] at l1
            exact Nat.lt_irrefl _ l1
        have I9 := inv_tab (more := more) (h' := s'.heap) (g' := s'.gens) (d' := s'.drawn) (t' := s'.toks) Ia hP
          (fun b o hb e => hmv.heap b o (away b o e) (hk5 b o (up b o hb e)))
          (hmv.heap P _ (away P _ eP) (hk5 P _ hq)) (AllBare.movedS (Ia.bare.push hgs) hmv)
        rw [sh_eta sa s' hmv.os] at I9
        exact ⟨_, ⟨⟨_, upd_same, htq⟩, fun b hb => upd_ne hb⟩, I9⟩
  refine ⟨nl, ?_⟩
  cases hf2 : codeAmong gp ps.toList with
  | none =>
    refine wpAny_genexprCodeX hcode (hcd.code eP2 htr) (hcd.tab eP2) hf2 fun c2 h2 tk hx hge hlt hco _ htb _ => ?_
    obtain ⟨_, _, _, _, _, _, _, _, _, _, _, _, _, _, _, _, _, _, _, ht2, _⟩ := hco
    exact behind _ h2 tk _ hx (Nat.le_trans hge (Nat.le_of_lt hlt)) htb.2 ⟨_, rfl⟩ ht2
  | some cv =>
    refine wpAny_genexprCode_hit hcode (hcd.code eP2 htr) hf2 ?_
    exact behind cv (sa.heap.push ob) sa.toks ps (Heap.ExtBut.refl _ _) (Nat.le_refl _) eP2 ⟨#[], by simp⟩ htr
/-- all(test for x in e), the test by the module's names too -/
theorem pe_allM {c P : Addr} {elt iter : Expr} {x : Str} {px p pos gp : Pos} {sc : Scope} {f : Nat → Bool} {te : TE} {k : Nat}
    (hr : Room k X.A) (hg : Gl X "all") (hm : X.mg "all" = none) (TB : TabB X.base X.mg c P) (hcode : X.env.code = .ref c) (S : GenS X.env sc x) (hi : PE X iter te) (hel : EltM X sc x elt f)
    (hf : ∀ v, genFold iter X.env v = pure v)
    (he : starEach [.GeneratorExp elt [⟨.Name x px, iter, [], 0⟩] sc gp] X.env = (false, eval (.GeneratorExp elt [⟨.Name x px, iter, [], 0⟩] sc gp) X.env) :: starEach [] X.env := by rfl) :
    PE X (.Call (.Name "all" p) [.GeneratorExp elt [⟨.Name x px, iter, [], 0⟩] sc gp] [] pos) (tAllS P f te) := by
  refine ⟨fun pins s σ H Q I h => ?_⟩
  refine wpAny_Call_Name_kw (ld_blt I hg hm (show bootBuiltins "all" = some (.builtin "all") by decide +kernel) (PyProof.Rows.callWith_builtin1 ?_ he (by rfl)))
  rw [he]
  refine Calls.spliced_cons ?_
  refine gen_signs (R := fun z H1 => ∀ H2, Tabbed P H1 H2 → Q (.bl (z.cps.toList.all f)) H2) hr TB hcode S hi hel hf I h fun z H1 g sg hR hG => ?_
  obtain ⟨fp, wr, G, F, St, W, hst, htr, hI⟩ := hG
  refine Calls.spliced_nil ?_
  refine call_all_walkS (W.self 0 _ _ _ hst ⟨g, fp, wr, G, _, F, St, _, rfl, W, hst, htr, fun s' hmv => ?_⟩)
  obtain ⟨H2, hT, J⟩ := hI s' hmv
  refine ⟨.bl _, H2, J, rfl, ?_⟩
  have e : (List.range z.cps.size).all (trF f z.cps.toList) = z.cps.toList.all f := all_signs z f
  rw [e]
  exact hR H2 hT
end
end Kt

namespace Kt
open PySem PySem.Spec PyProof.Rows L2 GxR Kr
/-! ### defs of the text -/
/-- a def of the module: where it stands, how its arguments bind, its name -/
structure Def (K : PySem.W.Frag) (mg : Str → Option Value) (x : Str) (st : Stmt) (ps : List Str) where
  f : Addr
  fd : FuncData
  F : Fun K x x st f fd
  b : Binds K fd ps []
  g : mg x = some (.ref f)
theorem def_ex {K : PySem.W.Frag} {h : Heap} {mg : Str → Option Value} {x : Str} {st : Stmt} {ps : List Str} {f : Addr} {oc : Value} {od an : Option Addr} {osl : Array (Option Value)} {kV dc pm cdv ct : Value}
    (X : K.In h) (G : h.Ns mainGlobals mg) (hb : ∀ (kV doc pm : Value) (an : Option Addr) (cdv ct : Value) (us : List Value), us.length = ps.length →
      bindArgs (PySem.W.fnOf x x (defArgs st) (defBody st) (defScope st) .none kV doc pm an cdv ct) ⟨us, []⟩ = pure (ps.zip us))
    (a : PySem.W.nsIn K mainGlobals x = some (some (.ref f))) (l : K.lookup f = some ⟨oc, od, .func (PySem.W.fnOf x x (defArgs st) (defBody st) (defScope st) .none kV dc pm an cdv ct), osl⟩)
    (c : PySem.W.codeIn K cdv x = true) (k : PySem.W.keepIn K (.ref f) = true) : Nonempty (Def K mg x st ps) :=
  ⟨⟨f, _, fun_mk l c k, (fun_mk (st := st) l c k).binds hb, PySem.W.mg_of X G a⟩⟩
/-! ### heaps -/
theorem same_new {H : Hp} {p : Addr} {o : HO} (h : H p = none) : Same H (upd H p o) := fun b x e => by
  rw [upd_ne (ne_of_none e h)]
  exact e
/-- what is new in H' -/
def Fresh (H H' : Hp) : Hp := fun b => match H b with
  | some _ => none
  | none => H' b
theorem fresh_iff {H H' : Hp} {b : Addr} {o : HO} : Fresh H H' b = some o ↔ H b = none ∧ H' b = some o := by
  unfold Fresh
  cases e : H b with
  | none => exact ⟨fun h => ⟨rfl, h⟩, fun h => h.2⟩
  | some u => exact ⟨fun h => (nomatch h), fun h => (nomatch h.1)⟩
theorem fresh_to (H H' : Hp) : Same (Fresh H H') H' := fun _ _ h => (fresh_iff.mp h).2
theorem fresh_back {H H1 H2 : Hp} (s : Same H H1) : Same (Fresh H1 H2) (Fresh H H2) := fun b o h => by
  obtain ⟨h1, h2⟩ := fresh_iff.mp h
  exact fresh_iff.mpr ⟨s.free h1, h2⟩
theorem fresh_on {H H1 H2 : Hp} (s : Same H1 H2) : Same (Fresh H H1) (Fresh H H2) := fun b o h => by
  obtain ⟨h1, h2⟩ := fresh_iff.mp h
  exact fresh_iff.mpr ⟨h1, s _ _ h2⟩
theorem fresh_at {H H' : Hp} {p : Addr} {o : HO} (h : H p = none) : Fresh H (upd H' p o) p = some o := fresh_iff.mpr ⟨h, upd_same⟩
open Classical in
/-- what stands outside M -/
noncomputable def Cut (M : Addr → Prop) (H : Hp) : Hp := fun b => if M b then none else H b
theorem cut_iff {M : Addr → Prop} {H : Hp} {b : Addr} {o : HO} : Cut M H b = some o ↔ ¬ M b ∧ H b = some o := by
  unfold Cut
  by_cases h : M b
  · rw [if_pos h]
    exact ⟨fun e => (nomatch e), fun e => absurd h e.1⟩
  · rw [if_neg h]
    exact ⟨fun e => ⟨h, e⟩, fun e => e.2⟩
theorem cut_to (M : Addr → Prop) (H : Hp) : Same (Cut M H) H := fun _ _ h => (cut_iff.mp h).2
theorem cut_same {M : Addr → Prop} {H H' : Hp} (s : Same H H') : Same (Cut M H) (Cut M H') := fun b o h => by
  obtain ⟨h1, h2⟩ := cut_iff.mp h
  exact cut_iff.mpr ⟨h1, s _ _ h2⟩
/-- the new part lies outside what stood -/
theorem fresh_cut {M : Addr → Prop} {H H' : Hp} (hM : ∀ b, M b → ∃ o, H b = some o) : Same (Fresh H H') (Cut M H') := fun b o h => by
  obtain ⟨h1, h2⟩ := fresh_iff.mp h
  refine cut_iff.mpr ⟨fun z => ?_, h2⟩
  obtain ⟨u, e⟩ := hM b z
  rw [h1] at e
  cases e
/-- a store within M -/
theorem cut_upd {M : Addr → Prop} {H : Hp} {p : Addr} {o : HO} (h : M p) : Same (Cut M H) (Cut M (upd H p o)) := fun b u e => by
  obtain ⟨h1, h2⟩ := cut_iff.mp e
  exact cut_iff.mpr ⟨h1, by rw [upd_ne (fun z => h1 (by rw [z]; exact h))]; exact h2⟩
/-- M grows by what is new -/
theorem cut_grow {M M' : Addr → Prop} {H H' : Hp} (s : Same H H') (g : ∀ b, M' b → M b ∨ H b = none) : Same (Cut M H) (Cut M' H') := fun b u e => by
  obtain ⟨h1, h2⟩ := cut_iff.mp e
  refine cut_iff.mpr ⟨fun z => ?_, s _ _ h2⟩
  rcases g b z with q | q
  · exact h1 q
  · rw [q] at h2
    cases h2
/-! ### numbers, texts, lists -/
theorem at_has {α : Type} {l : List α} {i : Int} (h0 : 0 ≤ i) (h1 : i < (l.length : Int)) : ∃ c, atI l i = some c := by
  obtain ⟨j, rfl⟩ : ∃ j : Nat, i = (j : Int) := ⟨i.toNat, by omega⟩
  have hj : j < l.length := by omega
  exact ⟨l[j], atI_nat (List.getElem?_eq_getElem hj)⟩
theorem small_line {n : Nat} (h : n ≤ 1000000) : n ≤ sizeLine := Nat.le_trans h (by decide)
theorem len_app (a b : Str) : (a ++ b).length = a.length + b.length := Str.length_append a b
theorem len_list (a : Str) : a.cps.toList.length = a.length := Array.length_toList
theorem app_list (a b : Str) : (a ++ b).cps.toList = a.cps.toList ++ b.cps.toList := Array.toList_append
theorem cut_head (a b : Str) : (cutS a none (some (b.length : Int))).cps.toList = a.cps.toList.take b.length := by
  unfold cutS
  rw [HT.sIx_none, HT.sIx_nat, List.drop_zero, Nat.sub_zero]
  show (a.cps.toList.take (min b.length a.length)) = _
  have e : a.cps.toList.length = a.length := len_list a
  by_cases h : b.length ≤ a.length
  · rw [Nat.min_eq_left h]
  · rw [Nat.min_eq_right (by omega), List.take_of_length_le (by omega), List.take_of_length_le (by omega)]
/-- the name lies under the head -/
def pre (head name : Str) : Bool := Txt.startswith name head
theorem under_eq (a b : Str) : decide (V.str (cutS a none (some (b.length : Int))) = V.str b) = pre b a := by
  have la := len_list a
  have lb := len_list b
  unfold pre Txt.startswith
  rw [StrLaws.subAt_eq, List.drop_zero]
  by_cases h : a.cps.toList.take b.length = b.cps.toList
  · have hl : b.length ≤ a.length := by
      have e := congrArg List.length h
      rw [List.length_take, la, lb] at e
      omega
    have e : cutS a none (some (b.length : Int)) = b := Kr.str_ext (by rw [cut_head]; exact h)
    rw [e, h, decide_eq_true rfl, decide_eq_true (by omega : 0 + b.length ≤ a.length), beq_self_eq_true]
    rfl
  · have e : ¬ (V.str (cutS a none (some (b.length : Int))) = V.str b) := fun q => h (by
      have q2 := V.str.inj q
      rw [← cut_head, q2])
    rw [decide_eq_false e, beq_eq_false_iff_ne.mpr h, Bool.and_false]
theorem cut_sub (z : Str) (lo hi : Option Int) : ∀ c ∈ (cutS z lo hi).cps.toList, c ∈ z.cps.toList := fun c hc => by
  have h1 : c ∈ (z.cps.toList.drop (HT.sIx z.length 0 lo)).take (HT.sIx z.length z.length hi - HT.sIx z.length 0 lo) := hc
  exact List.mem_of_mem_drop (List.mem_of_mem_take h1)
/-! ### names, heads, values -/
def signsS : Str := "abcdefghijklmnopqrstuvwxyz0123456789."
theorem signs_len : signsS.cps.toList.length = 37 := by decide +kernel
theorem signs_len2 : signsS.length = 37 := by decide +kernel
/-- the signs that may stand -/
def Good (z : Str) : Prop := ∀ c ∈ z.cps.toList, c ∈ signsS.cps.toList
def headB (z : Str) : Bool := z.cps.toList.all (fun n => decide (n ∈ signsS.cps.toList)) && decide (z.length ≤ 12)
def headV : V → Bool
  | .str z => headB z
  | _ => false
def nameV : V → Bool
  | .str z => headB z && !decide (V.str z = V.str "")
  | _ => false
def valueV : V → Bool
  | .non => true
  | .int i => decide (-(10 ^ 30) ≤ i) && decide (i ≤ 10 ^ 30)
  | _ => false
theorem headB_iff {z : Str} : headB z = true ↔ Good z ∧ z.length ≤ 12 := by
  unfold headB Good
  rw [Bool.and_eq_true, List.all_eq_true, decide_eq_true_eq]
  simp only [decide_eq_true_eq]
structure Name (z : Str) : Prop where
  good : Good z
  lo : 1 ≤ z.length
  hi : z.length ≤ 12
theorem Name.head {z : Str} (h : Name z) : headB z = true := headB_iff.mpr ⟨h.good, h.hi⟩
theorem Name.v {z : Str} (h : Name z) : nameV (.str z) = true := by
  show (headB z && _) = true
  rw [h.head, decide_eq_false (fun e => by
    have e2 := V.str.inj e
    have h1 := h.lo
    rw [e2] at h1
    exact absurd h1 (by decide))]
  rfl
theorem good_app {a b : Str} (ha : Good a) (hb : Good b) : Good (a ++ b) := fun c hc => by
  rw [app_list] at hc
  rcases List.mem_append.mp hc with h | h
  · exact ha c h
  · exact hb c h
theorem good_cut {z : Str} (h : Good z) (lo hi : Option Int) : Good (cutS z lo hi) := fun c hc => h c (cut_sub z lo hi c hc)
theorem good_at {i : Int} {c : Nat} (h : atI signsS.cps.toList i = some c) : Good ⟨#[c]⟩ := fun d hd => by
  have e : d = c := by simpa using hd
  rw [e]
  unfold atI at h
  cases hx : ixN signsS.cps.toList.length i with
  | none =>
    rw [hx] at h
    cases h
  | some j =>
    rw [hx] at h
    exact List.mem_of_getElem? (show signsS.cps.toList[j]? = some c from h)
/-- None or a whole number -/
def IsVal (x : V) : Prop := x = .non ∨ ∃ i, x = .int i
theorem isVal_of {x : V} (h : valueV x = true) : IsVal x := by
  cases x with
  | non => exact .inl rfl
  | int i => exact .inr ⟨i, rfl⟩
  | _ => cases h
/-! ### pairs of names and values -/
abbrev Prs := List (Str × V)
/-- a list of pairs stands at p -/
def PairsAt (H : Hp) (p : Addr) (ps : Prs) : Prop := ∃ as : List Addr, H p = some (.lst (as.map V.ref)) ∧ Paired (fun (a : Addr) (q : Str × V) => H a = some (.tup [.str q.1, q.2])) as ps
theorem PairsAt.mono {H H' : Hp} {p : Addr} {ps : Prs} (h : PairsAt H p ps) (s : Same H H') : PairsAt H' p ps := by
  obtain ⟨as, h1, h2⟩ := h
  exact ⟨as, s _ _ h1, Paired.mono (fun a b e => s _ _ e) h2⟩
theorem paired_get {α β : Type} {F : α → β → Prop} : ∀ {xs : List α} {ys : List β} {i : Nat} {y : β}, Paired F xs ys → ys[i]? = some y → ∃ x, xs[i]? = some x ∧ F x y
  | _, _, _, _, .nil, e => by simp at e
  | _, _, 0, _, .cons r _, e => by
    simp at e
    subst e
    exact ⟨_, rfl, r⟩
  | _, _, i + 1, y, .cons _ t, e => by
    obtain ⟨u, h1, h2⟩ := paired_get (i := i) (y := y) t (by simpa using e)
    exact ⟨u, by simpa using h1, h2⟩
theorem PairsAt.len {H : Hp} {p : Addr} {ps : Prs} (h : PairsAt H p ps) : ∃ xs, H p = some (.lst xs) ∧ xs.length = ps.length := by
  obtain ⟨as, h1, h2⟩ := h
  exact ⟨_, h1, by rw [List.length_map, h2.length]⟩
/-! ### dicts with text keys -/
def dk (m : Prs) : List (Key × V) := m.map fun q => ((Sum.inr q.1 : Key), q.2)
theorem dk_keys (m : Prs) : (dk m).map (·.1) = (m.map (·.1)).map Sum.inr := by
  unfold dk
  rw [List.map_map, List.map_map]
  rfl
theorem dk_len (m : Prs) : (dk m).length = m.length := by
  unfold dk
  rw [List.length_map]
theorem inr_dec (a b : Str) : decide ((Sum.inr a : Key) = Sum.inr b) = decide (a = b) := by
  by_cases h : a = b
  · rw [h, decide_eq_true rfl, decide_eq_true rfl]
  · rw [decide_eq_false h, decide_eq_false (fun e => h (Sum.inr.inj e))]
theorem dk_val : ∀ (m : Prs) (n : Str), valV (dk m) (Sum.inr n : Key) = valV m n
  | [], n => rfl
  | q :: r, n => by
    by_cases h : q.1 = n
    · rw [valV_pos h]
      exact valV_pos (p := ((Sum.inr q.1 : Key), q.2)) (r := dk r) (by rw [h])
    · rw [valV_neg h, ← dk_val r n]
      exact valV_neg (p := ((Sum.inr q.1 : Key), q.2)) (r := dk r) (fun e => h (Sum.inr.inj e))
theorem dk_put (m : Prs) (n : Str) (v : V) : putK (dk m) (Sum.inr n : Key) v = dk (putK m n v) := by
  unfold putK
  rw [valV_any, valV_any, dk_val]
  by_cases h : (valV m n).isSome = true
  · rw [if_pos h, if_pos h]
    unfold dk
    rw [List.map_map, List.map_map]
    refine List.map_congr_left fun q _ => ?_
    show (if (Sum.inr q.1 : Key) = Sum.inr n then ((Sum.inr q.1 : Key), v) else (Sum.inr q.1, q.2)) = _
    by_cases e : q.1 = n
    · rw [if_pos (by rw [e])]
      show _ = ((Sum.inr (if q.1 = n then (q.1, v) else q).1 : Key), (if q.1 = n then (q.1, v) else q).2)
      rw [if_pos e]
    · rw [if_neg (fun z => e (Sum.inr.inj z))]
      show _ = ((Sum.inr (if q.1 = n then (q.1, v) else q).1 : Key), (if q.1 = n then (q.1, v) else q).2)
      rw [if_neg e]
  · rw [if_neg h, if_neg h]
    unfold dk
    rw [List.map_append]
    rfl
/-- the second's entries put into the first -/
def putAll (m l : Prs) : Prs := l.foldl (fun acc q => putK acc q.1 q.2) m
theorem dk_merge : ∀ (l m : Prs), mergeK (dk m) (dk l) = dk (putAll m l)
  | [], m => rfl
  | q :: r, m => by
    show mergeK (putK (dk m) (Sum.inr q.1 : Key) q.2) (dk r) = dk (putAll (putK m q.1 q.2) r)
    rw [dk_put]
    exact dk_merge r _
theorem put_keys {m : Prs} {n : Str} {v : V} (h : (m.map (·.1)).Nodup) : ((putK m n v).map (·.1)).Nodup := by
  cases e : valV m n with
  | none => exact nd_putK v h e
  | some x =>
    have ha : (m.any fun kv => decide (kv.1 = n)) = true := by rw [valV_any, e]; rfl
    unfold putK
    rw [if_pos ha, List.map_map]
    have : (m.map ((fun x : Str × V => x.1) ∘ fun kv => if kv.1 = n then (kv.1, v) else kv)) = m.map (·.1) := List.map_congr_left fun q _ => by
      show (if q.1 = n then (q.1, v) else q).1 = q.1
      by_cases z : q.1 = n
      · rw [if_pos z]
      · rw [if_neg z]
    rw [this]
    exact h
theorem putAll_keys : ∀ (l : Prs) {m : Prs}, (m.map (·.1)).Nodup → ((putAll m l).map (·.1)).Nodup
  | [], _, h => h
  | q :: r, _, h => putAll_keys r (put_keys h)
theorem putAll_len : ∀ (l m : Prs), (putAll m l).length ≤ m.length + l.length
  | [], m => Nat.le_refl _
  | q :: r, m => by
    have h1 := putAll_len r (putK m q.1 q.2)
    have h2 := length_putK m q.1 q.2
    show (putAll (putK m q.1 q.2) r).length ≤ m.length + (r.length + 1)
    omega
theorem putAll_val : ∀ (l m : Prs) (n : Str), valV (putAll m l) n = (match valV (putAll [] l) n with | some v => some v | none => valV m n)
  | [], m, n => rfl
  | q :: r, m, n => by
    show valV (putAll (putK m q.1 q.2) r) n = (match valV (putAll (putK [] q.1 q.2) r) n with | some v => some v | none => valV m n)
    rw [putAll_val r (putK m q.1 q.2) n, putAll_val r (putK [] q.1 q.2) n]
    cases valV (putAll [] r) n with
    | some v => rfl
    | none =>
      show valV (putK m q.1 q.2) n = (match valV (putK [] q.1 q.2) n with | some v => some v | none => valV m n)
      rw [valV_put, valV_put]
      by_cases e : n = q.1
      · rw [if_pos e, if_pos e]
      · rw [if_neg e, if_neg e]
        rfl
theorem val_mem : ∀ {m : Prs} {n : Str} {v : V}, (m.map (·.1)).Nodup → ((n, v) ∈ m ↔ valV m n = some v)
  | [], n, v, _ => by simp [valV_nil]
  | q :: r, n, v, h => by
    rw [List.map_cons, List.nodup_cons] at h
    by_cases e : q.1 = n
    · rw [valV_pos e]
      constructor
      · intro hm
        rcases List.mem_cons.mp hm with z | z
        · rw [← z]
        · exact absurd (by rw [e]; exact List.mem_map.mpr ⟨_, z, rfl⟩) h.1
      · intro z
        cases z
        rw [← e]
        exact List.mem_cons_self
    · rw [valV_neg e, ← val_mem h.2]
      constructor
      · intro hm
        rcases List.mem_cons.mp hm with z | z
        · exact absurd (by rw [← z]) e
        · exact z
      · exact fun z => List.mem_cons_of_mem _ z
/-- what a dict tells of a name: None where it is not there -/
def tells (m : Prs) (n : Str) : V := (valV m n).getD .non
/-- a dict with text keys stands at a -/
structure DictAt (H : Hp) (a : Addr) (m : Prs) : Prop where
  at' : H a = some (.dK (dk m))
  nd : (m.map (·.1)).Nodup
theorem DictAt.mono {H H' : Hp} {a : Addr} {m : Prs} (h : DictAt H a m) (s : Same H H') : DictAt H' a m := ⟨s _ _ h.at', h.nd⟩
/-! ### what a head tells -/
/-- the list of pairs that is told of a head, where the names have the values f -/
structure IsTold (f : Str → V) (head : Str) (ps : Prs) : Prop where
  up : ps.Pairwise fun p q => Lt p.1 q.1
  mem : ∀ n v, (n, v) ∈ ps ↔ v ≠ .non ∧ f n = v ∧ pre head n = true
theorem told_sub : ∀ {ps qs : Prs}, ps.Pairwise (fun p q => Lt p.1 q.1) → qs.Pairwise (fun p q => Lt p.1 q.1) → (∀ x, x ∈ ps ↔ x ∈ qs) → ps = qs
  | [], [], _, _, _ => rfl
  | [], q :: r, _, _, h => absurd ((h q).mpr List.mem_cons_self) (by simp)
  | q :: r, [], _, _, h => absurd ((h q).mp List.mem_cons_self) (by simp)
  | p :: ps, q :: qs, hp, hq, h => by
    rw [List.pairwise_cons] at hp hq
    have e : p = q := by
      rcases List.mem_cons.mp ((h p).mp List.mem_cons_self) with z | z
      · exact z
      · rcases List.mem_cons.mp ((h q).mpr List.mem_cons_self) with y | y
        · exact y.symm
        · exact absurd (hq.1 p z) (hp.1 q y).asymm
    subst e
    have h2 : ∀ x, x ∈ ps ↔ x ∈ qs := fun x => by
      constructor
      · intro hx
        rcases List.mem_cons.mp ((h x).mp (List.mem_cons_of_mem _ hx)) with z | z
        · subst z
          exact absurd (hp.1 x hx) (Lt.irrefl _)
        · exact z
      · intro hx
        rcases List.mem_cons.mp ((h x).mpr (List.mem_cons_of_mem _ hx)) with z | z
        · subst z
          exact absurd (hq.1 x hx) (Lt.irrefl _)
        · exact z
    rw [told_sub hp.2 hq.2 h2]
theorem IsTold.unique {f : Str → V} {head : Str} {ps qs : Prs} (a : IsTold f head ps) (b : IsTold f head qs) : ps = qs :=
  told_sub a.up b.up fun x => by
    obtain ⟨n, v⟩ := x
    rw [a.mem, b.mem]
end Kt

namespace Kt
open PySem PySem.Spec PyProof.Rows L2 GxR Kr
/-! ### data, compared -/
/-- it may be laid, and is no deeper -/
def Sd (d : PyData) (n : Nat) : Prop := d.canLay0 = true ∧ d.depth ≤ n
theorem Sd.mono {d : PyData} {n m : Nat} (h : Sd d n) (l : n ≤ m) : Sd d m := ⟨h.1, Nat.le_trans h.2 l⟩
theorem all_lay : ∀ {xs : List PyData} {n : Nat}, (∀ x ∈ xs, Sd x n) → PyData.canLayAll0 xs = true ∧ PyData.depthAll xs ≤ n
  | [], n, _ => ⟨rfl, Nat.zero_le _⟩
  | x :: r, n, h => by
    have h1 := h x List.mem_cons_self
    have h2 := all_lay (fun y hy => h y (List.mem_cons_of_mem _ hy))
    refine ⟨?_, ?_⟩
    · show (PyData.canLay0 x && PyData.canLayAll0 r) = true
      rw [h1.1, h2.1]
      rfl
    · show max (PyData.depth x) (PyData.depthAll r) ≤ n
      exact Nat.max_le.mpr ⟨h1.2, h2.2⟩
theorem sd_list {xs : List PyData} {n : Nat} (h : ∀ x ∈ xs, Sd x n) : Sd (.list xs) (n + 1) := by
  have h1 := all_lay h
  exact ⟨h1.1, Nat.succ_le_succ h1.2⟩
theorem sd_tuple {xs : List PyData} {n : Nat} (h : ∀ x ∈ xs, Sd x n) : Sd (.tuple xs) (n + 1) := by
  have h1 := all_lay h
  exact ⟨h1.1, Nat.succ_le_succ h1.2⟩
theorem Sd.shaped {d : PyData} {n : Nat} (h : Sd d n) (l : n ≤ 64) : SeqAt.shaped d = true := by
  unfold SeqAt.shaped
  rw [h.1, decide_eq_true (Nat.le_trans h.2 l)]
  rfl
theorem sd_none (n : Nat) : Sd .none n := ⟨rfl, Nat.zero_le _⟩
theorem sd_int (i : Int) (n : Nat) : Sd (.int i) n := ⟨rfl, Nat.zero_le _⟩
theorem strOk_good {z : Str} (h : Good z) : PyData.strOk z = true := by
  unfold PyData.strOk
  rw [← Array.all_toList, List.all_eq_true]
  intro c hc
  have h1 : ∀ d ∈ signsS.cps.toList, d < 0x110000 := by decide +kernel
  exact decide_eq_true (h1 c (h c hc))
theorem sd_str {z : Str} (h : PyData.strOk z = true) (n : Nat) : Sd (.str z) n := ⟨h, Nat.zero_le _⟩
mutual
/-- no truth values, no dicts -/
def plain : PyData → Bool
  | .bool _ => false
  | .dict _ => false
  | .list xs => plainAll xs
  | .tuple xs => plainAll xs
  | _ => true
def plainAll : List PyData → Bool
  | [] => true
  | x :: r => plain x && plainAll r
end
mutual
theorem eqv_iff : ∀ a b : PyData, plain a = true → plain b = true → (PyData.eqv a b = true ↔ a = b)
  | .none, b, _, hb => by cases b <;> simp_all [PyData.eqv, plain]
  | .bool _, _, ha, _ => absurd ha Bool.false_ne_true
  | .int i, b, _, hb => by cases b <;> simp_all [PyData.eqv, plain]
  | .str x, b, _, hb => by cases b <;> simp_all [PyData.eqv, plain]
  | .list xs, b, ha, hb => by
    cases b with
    | list ys =>
      have h := eqvAll_iff xs ys ha hb
      show PyData.eqvAll xs ys = true ↔ _
      rw [h]
      exact ⟨fun e => by rw [e], fun e => by injection e⟩
    | bool _ => exact absurd hb Bool.false_ne_true
    | dict _ => exact absurd hb Bool.false_ne_true
    | none => exact ⟨fun e => (nomatch e), fun e => (nomatch e)⟩
    | int _ => exact ⟨fun e => (nomatch e), fun e => (nomatch e)⟩
    | str _ => exact ⟨fun e => (nomatch e), fun e => (nomatch e)⟩
    | tuple _ => exact ⟨fun e => (nomatch e), fun e => (nomatch e)⟩
  | .tuple xs, b, ha, hb => by
    cases b with
    | tuple ys =>
      have h := eqvAll_iff xs ys ha hb
      show PyData.eqvAll xs ys = true ↔ _
      rw [h]
      exact ⟨fun e => by rw [e], fun e => by injection e⟩
    | bool _ => exact absurd hb Bool.false_ne_true
    | dict _ => exact absurd hb Bool.false_ne_true
    | none => exact ⟨fun e => (nomatch e), fun e => (nomatch e)⟩
    | int _ => exact ⟨fun e => (nomatch e), fun e => (nomatch e)⟩
    | str _ => exact ⟨fun e => (nomatch e), fun e => (nomatch e)⟩
    | list _ => exact ⟨fun e => (nomatch e), fun e => (nomatch e)⟩
  | .dict _, _, ha, _ => absurd ha Bool.false_ne_true
theorem eqvAll_iff : ∀ xs ys : List PyData, plainAll xs = true → plainAll ys = true → (PyData.eqvAll xs ys = true ↔ xs = ys)
  | [], [], _, _ => ⟨fun _ => rfl, fun _ => rfl⟩
  | [], y :: ys, _, _ => ⟨fun e => (nomatch e), fun e => (nomatch e)⟩
  | x :: xs, [], _, _ => ⟨fun e => (nomatch e), fun e => (nomatch e)⟩
  | x :: xs, y :: ys, ha, hb => by
    have ha2 : plain x = true ∧ plainAll xs = true := Bool.and_eq_true_iff.mp ha
    have hb2 : plain y = true ∧ plainAll ys = true := Bool.and_eq_true_iff.mp hb
    show (PyData.eqv x y && PyData.eqvAll xs ys) = true ↔ _
    rw [Bool.and_eq_true, eqv_iff x y ha2.1 hb2.1, eqvAll_iff xs ys ha2.2 hb2.2]
    exact ⟨fun e => by rw [e.1, e.2], fun e => by injection e with e1 e2; exact ⟨e1, e2⟩⟩
end
theorem plainAll_of : ∀ {xs : List PyData}, (∀ x ∈ xs, plain x = true) → plainAll xs = true
  | [], _ => rfl
  | x :: r, h => by
    show (plain x && plainAll r) = true
    rw [h x List.mem_cons_self, plainAll_of fun y hy => h y (List.mem_cons_of_mem _ hy)]
    rfl
/-! ### values, pairs and deeds as data -/
def vD : V → PyData
  | .int i => .int i
  | .str z => .str z
  | .bl b => .bool b
  | _ => .none
theorem vD_dp {K : PySem.W.Frag} {H : Hp} {x : V} (h : IsVal x) : Dp K H x (vD x) := by
  rcases h with h | ⟨i, h⟩ <;> subst h
  · exact .non
  · exact .int i
theorem vD_sd {x : V} (h : IsVal x) (n : Nat) : Sd (vD x) n := by
  rcases h with h | ⟨i, h⟩ <;> subst h
  · exact sd_none n
  · exact sd_int i n
theorem vD_plain {x : V} (h : IsVal x) : plain (vD x) = true := by
  rcases h with h | ⟨i, h⟩ <;> subst h <;> rfl
theorem vD_inj {x y : V} (hx : IsVal x) (hy : IsVal y) (e : vD x = vD y) : x = y := by
  rcases hx with h | ⟨i, h⟩ <;> rcases hy with h2 | ⟨j, h2⟩ <;> subst h <;> subst h2
  · rfl
  · cases e
  · cases e
  · cases e
    rfl
/-- a pair of a text that may be laid and a value -/
def PrOk (q : Str × V) : Prop := PyData.strOk q.1 = true ∧ IsVal q.2
def pD (q : Str × V) : PyData := .tuple [.str q.1, vD q.2]
theorem pD_sd {q : Str × V} (h : PrOk q) : Sd (pD q) 1 := sd_tuple fun x hx => by
  have h2 : x = .str q.1 ∨ x = vD q.2 := by simpa using hx
  rcases h2 with e | e <;> subst e
  · exact sd_str h.1 0
  · exact vD_sd h.2 0
theorem pD_plain {q : Str × V} (h : PrOk q) : plain (pD q) = true := by
  show (true && (plain (vD q.2) && true)) = true
  rw [vD_plain h.2]
  rfl
theorem pD_inj {p q : Str × V} (hp : PrOk p) (hq : PrOk q) (e : pD p = pD q) : p = q := by
  unfold pD at e
  injection e with e
  injection e with e1 e2
  injection e1 with e1
  injection e2 with e2 _
  exact Prod.ext e1 (vD_inj hp.2 hq.2 e2)
theorem map_inj_on {α β : Type} {f : α → β} : ∀ {xs ys : List α}, (∀ x ∈ xs, ∀ y ∈ ys, f x = f y → x = y) → xs.map f = ys.map f → xs = ys
  | [], [], _, _ => rfl
  | [], y :: ys, _, e => by simp at e
  | x :: xs, [], _, e => by simp at e
  | x :: xs, y :: ys, h, e => by
    rw [List.map_cons, List.map_cons] at e
    injection e with e1 e2
    rw [h x List.mem_cons_self y List.mem_cons_self e1, map_inj_on (fun a ha b hb => h a (List.mem_cons_of_mem _ ha) b (List.mem_cons_of_mem _ hb)) e2]
def psD (ps : Prs) : PyData := .list (ps.map pD)
theorem psD_sd {ps : Prs} (h : ∀ q ∈ ps, PrOk q) : Sd (psD ps) 2 := sd_list fun x hx => by
  obtain ⟨q, hq, e⟩ := List.mem_map.mp hx
  rw [← e]
  exact pD_sd (h q hq)
theorem psD_plain {ps : Prs} (h : ∀ q ∈ ps, PrOk q) : plain (psD ps) = true := plainAll_of fun x hx => by
  obtain ⟨q, hq, e⟩ := List.mem_map.mp hx
  rw [← e]
  exact pD_plain (h q hq)
theorem psD_inj {ps qs : Prs} (hp : ∀ q ∈ ps, PrOk q) (hq : ∀ q ∈ qs, PrOk q) (e : psD ps = psD qs) : ps = qs := by
  injection e with e
  exact map_inj_on (fun x hx y hy => pD_inj (hp x hx) (hq y hy)) e
theorem dp_paired {K : PySem.W.Frag} {H : Hp} {α : Type} {f : α → PyData} : ∀ {as : List Addr} {xs : List α}, Paired (fun (a : Addr) (x : α) => Dp K H (.ref a) (f x)) as xs → DpAll K H (as.map V.ref) (xs.map f)
  | _, _, .nil => .nil
  | _, _, .cons h t => .cons h (dp_paired t)
theorem paired_mem {α β : Type} {F G : α → β → Prop} : ∀ {xs : List α} {ys : List β}, Paired F xs ys → (∀ x y, y ∈ ys → F x y → G x y) → Paired G xs ys
  | _, _, .nil, _ => .nil
  | _, _, .cons h t, k => .cons (k _ _ List.mem_cons_self h) (paired_mem t fun x y hy => k x y (List.mem_cons_of_mem _ hy))
theorem PairsAt.dp {K : PySem.W.Frag} {H : Hp} {p : Addr} {ps : Prs} (h : PairsAt H p ps) (ok : ∀ q ∈ ps, PrOk q) : Dp K H (.ref p) (psD ps) := by
  obtain ⟨as, h1, h2⟩ := h
  exact .lst (SqL.of h1) (dp_paired (paired_mem h2 fun a q hq e => .tup (SqT.of e) (.cons (.str q.1) (.cons (vD_dp (ok q hq).2) .nil))))
/-- a deed of a dealing -/
inductive Deed where
  | read (n : Str) (v : V)
  | under (h : Str) (ps : Prs)
  | write (n : Str) (v : V)
  | back (m : Nat)
/-- a deed stands at a -/
def DeedAt (H : Hp) (a : Addr) : Deed → Prop
  | .read n v => H a = some (.tup [.str "read", .str n, v])
  | .under h ps => ∃ p, H a = some (.tup [.str "under", .str h, .ref p]) ∧ PairsAt H p ps
  | .write n v => H a = some (.tup [.str "write", .str n, v])
  | .back m => H a = some (.tup [.str "back", .int (m : Nat)])
theorem DeedAt.mono {H H' : Hp} {a : Addr} {d : Deed} (h : DeedAt H a d) (s : Same H H') : DeedAt H' a d := by
  cases d with
  | read n v => exact s _ _ h
  | under z ps =>
    obtain ⟨p, h1, h2⟩ := h
    exact ⟨p, s _ _ h1, h2.mono s⟩
  | write n v => exact s _ _ h
  | back m => exact s _ _ h
/-- names, values and heads of a deed are such -/
def DeedOk : Deed → Prop
  | .read n v => Name n ∧ valueV v = true
  | .under h ps => headB h = true ∧ ∀ q ∈ ps, Name q.1 ∧ valueV q.2 = true
  | .write n v => Name n ∧ valueV v = true
  | .back _ => True
theorem prOk_of {q : Str × V} (h : Name q.1 ∧ valueV q.2 = true) : PrOk q := ⟨strOk_good h.1.good, isVal_of h.2⟩
/-- a deed's items as data -/
def dD : Deed → List PyData
  | .read n v => [.str "read", .str n, vD v]
  | .under h ps => [.str "under", .str h, psD ps]
  | .write n v => [.str "write", .str n, vD v]
  | .back m => [.str "back", .int (m : Nat)]
theorem DeedAt.items {K : PySem.W.Frag} {H : Hp} {a : Addr} {d : Deed} (h : DeedAt H a d) (ok : DeedOk d) : ∃ xs, H a = some (.tup xs) ∧ DpAll K H xs (dD d) ∧ xs.length ≤ 3 := by
  cases d with
  | read n v => exact ⟨_, h, .cons (.str _) (.cons (.str _) (.cons (vD_dp (isVal_of ok.2)) .nil)), Nat.le_refl _⟩
  | under z ps =>
    obtain ⟨p, h1, h2⟩ := h
    exact ⟨_, h1, .cons (.str _) (.cons (.str _) (.cons (h2.dp fun q hq => prOk_of (ok.2 q hq)) .nil)), Nat.le_refl _⟩
  | write n v => exact ⟨_, h, .cons (.str _) (.cons (.str _) (.cons (vD_dp (isVal_of ok.2)) .nil)), Nat.le_refl _⟩
  | back m => exact ⟨_, h, .cons (.str _) (.cons (.int _) .nil), Nat.le_succ 2⟩
theorem dD_sd {d : Deed} (ok : DeedOk d) : ∀ x ∈ dD d, Sd x 2 := by
  intro x hx
  cases d with
  | read n v =>
    have h2 : x = .str "read" ∨ x = .str n ∨ x = vD v := by simpa [dD] using hx
    rcases h2 with e | e | e <;> subst e
    · exact sd_str (by decide +kernel) 2
    · exact sd_str (strOk_good ok.1.good) 2
    · exact vD_sd (isVal_of ok.2) 2
  | under h ps =>
    have h2 : x = .str "under" ∨ x = .str h ∨ x = psD ps := by simpa [dD] using hx
    rcases h2 with e | e | e <;> subst e
    · exact sd_str (by decide +kernel) 2
    · exact sd_str (strOk_good (headB_iff.mp ok.1).1) 2
    · exact psD_sd fun q hq => prOk_of (ok.2 q hq)
  | write n v =>
    have h2 : x = .str "write" ∨ x = .str n ∨ x = vD v := by simpa [dD] using hx
    rcases h2 with e | e | e <;> subst e
    · exact sd_str (by decide +kernel) 2
    · exact sd_str (strOk_good ok.1.good) 2
    · exact vD_sd (isVal_of ok.2) 2
  | back m =>
    have h2 : x = .str "back" ∨ x = .int (m : Nat) := by simpa [dD] using hx
    rcases h2 with e | e <;> subst e
    · exact sd_str (by decide +kernel) 2
    · exact sd_int _ 2
theorem dD_plain {d : Deed} (ok : DeedOk d) : plainAll (dD d) = true := by
  cases d with
  | read n v =>
    show (true && (true && (plain (vD v) && true))) = true
    rw [vD_plain (isVal_of ok.2)]
    rfl
  | under h ps =>
    show (true && (true && (plain (psD ps) && true))) = true
    rw [psD_plain fun q hq => prOk_of (ok.2 q hq)]
    rfl
  | write n v =>
    show (true && (true && (plain (vD v) && true))) = true
    rw [vD_plain (isVal_of ok.2)]
    rfl
  | back m => rfl
theorem str_ne (a b : Str) (h : decide (a = b) = false) : ¬ (PyData.str a = PyData.str b) := fun e => by
  injection e with e
  rw [e, decide_eq_true rfl] at h
  cases h
theorem dD_inj {d e : Deed} (hd : DeedOk d) (he : DeedOk e) (h : dD d = dD e) : d = e := by
  have k1 : ¬ (PyData.str "read" = PyData.str "under") := str_ne _ _ (by decide +kernel)
  have k2 : ¬ (PyData.str "read" = PyData.str "write") := str_ne _ _ (by decide +kernel)
  have k3 : ¬ (PyData.str "under" = PyData.str "write") := str_ne _ _ (by decide +kernel)
  cases d <;> cases e <;> simp only [dD, List.cons.injEq, and_true, PyData.str.injEq, PyData.int.injEq] at h
  case read.read => rw [h.2.1, vD_inj (isVal_of hd.2) (isVal_of he.2) h.2.2]
  case under.under => rw [h.2.1, psD_inj (fun q hq => prOk_of (hd.2 q hq)) (fun q hq => prOk_of (he.2 q hq)) h.2.2]
  case write.write => rw [h.2.1, vD_inj (isVal_of hd.2) (isVal_of he.2) h.2.2]
  case back.back => rw [Int.ofNat.inj h.2]
  all_goals first
    | exact absurd (congrArg PyData.str h.1) k1
    | exact absurd (congrArg PyData.str h.1.symm) k1
    | exact absurd (congrArg PyData.str h.1) k2
    | exact absurd (congrArg PyData.str h.1.symm) k2
    | exact absurd (congrArg PyData.str h.1) k3
    | exact absurd (congrArg PyData.str h.1.symm) k3
    | (exfalso; simp at h)
/-! ### what rows of deeds tell, walked one after the other -/
def readV (left : Str → V) (puts : Prs) (n : Str) : V := match valV (putAll [] puts) n with
  | some v => v
  | none => left n
def nextP (puts : Prs) : Deed → Prs
  | .write n v => puts ++ [(n, v)]
  | .back m => puts.take m
  | _ => puts
def Right (left : Str → V) (puts : Prs) : Deed → Prop
  | .read n v => readV left puts n = v
  | .under h ps => IsTold (readV left puts) h ps
  | _ => True
def Fits (puts : Prs) : Deed → Prop
  | .back m => m ≤ puts.length
  | _ => True
/-- every deed of a row fits, each reading tells what it would -/
def RowFits : Prs → List Deed → Prop
  | _, [] => True
  | puts, d :: r => Fits puts d ∧ RowFits (nextP puts d) r
def RowRight (left : Str → V) : Prs → List Deed → Prop
  | _, [] => True
  | puts, d :: r => Right left puts d ∧ RowRight left (nextP puts d) r
def endP (puts : Prs) (ds : List Deed) : Prs := ds.foldl nextP puts
def RowsFit : List (List Deed) → Prop
  | [] => True
  | ds :: r => RowFits [] ds ∧ RowsFit r
def RowsRight : (Str → V) → List (List Deed) → Prop
  | _, [] => True
  | left, ds :: r => RowRight left [] ds ∧ RowsRight (readV left (endP [] ds)) r
def rowsLeft : (Str → V) → List (List Deed) → Str → V
  | left, [] => left
  | left, ds :: r => rowsLeft (readV left (endP [] ds)) r
/-- a list of deeds stands at a; a list of such lists -/
def DeedsAt (H : Hp) (a : Addr) (ds : List Deed) : Prop := ∃ as : List Addr, H a = some (.lst (as.map V.ref)) ∧ Paired (DeedAt H) as ds
def RowsAt (H : Hp) (a : Addr) (rows : List (List Deed)) : Prop := ∃ as : List Addr, H a = some (.lst (as.map V.ref)) ∧ Paired (DeedsAt H) as rows
theorem DeedsAt.mono {H H' : Hp} {a : Addr} {ds : List Deed} (h : DeedsAt H a ds) (s : Same H H') : DeedsAt H' a ds := by
  obtain ⟨as, h1, h2⟩ := h
  exact ⟨as, s _ _ h1, Paired.mono (fun _ _ e => e.mono s) h2⟩
theorem RowsAt.mono {H H' : Hp} {a : Addr} {rows : List (List Deed)} (h : RowsAt H a rows) (s : Same H H') : RowsAt H' a rows := by
  obtain ⟨as, h1, h2⟩ := h
  exact ⟨as, s _ _ h1, Paired.mono (fun _ _ e => e.mono s) h2⟩
def noLeft : Str → V := fun _ => .non
end Kt

namespace Kr
open PySem PySem.Spec PyProof.Rows L2
/-! ### more rules within a comprehension -/
section
variable {X : Cx} {K : PySem.W.Frag}
theorem it_listK {tg l : Expr} {tl : TE} (h : PE X l tl) (e : X.K = K := by rfl) : PI X tg l (iList K tl) := by
  subst e
  exact pi_list h
theorem it_tupK {tg l : Expr} {tl : TE} (h : PE X l tl) (e : X.K = K := by rfl) : PI X tg l (iTup K tl) := by
  subst e
  exact pi_tup h
theorem list_ofK (e : X.K = K := by rfl) : CallR X (.type "list") (fun xs H Q => ∃ p ys, xs = [V.ref p] ∧ (SqL K H p ys ∨ SqT K H p ys) ∧ ∀ l : Addr, H l = none → Q (.ref l) (upd H l (.lst ys))) := by
  subst e
  exact call_list_of
end
end Kr

namespace Kt
open PySem PySem.Spec PyProof.Rows L2 GxR Kr
/-! ### refusals -/
/-- what never raises passes -/
theorem passF {P : Program} {w : World} {X : Cx} : Passes (CX P w) X (fun _ _ _ => False) := fun _ _ _ _ _ _ _ h => by
  obtain ⟨_, _, _, _, _, _, _, _, _, _, _, _, z⟩ := h
  exact z.elim
theorem passFS {P : Program} {w : World} {X : Cx} (σ : L2.St) : PassesAt (CX P w) X σ (fun _ _ _ => False) := fun _ _ _ _ _ _ h => by
  obtain ⟨_, _, _, _, _, _, _, _, _, _, _, _, z⟩ := h
  exact z.elim
/-- a suite that is asked for one class alone -/
theorem pss_when {X : Cx} {b : List Stmt} {t : TS} {oe : Obj} {cls : Value} {d : Option Addr} {D : Addr} (h : Zc (.ref D) none oe → PSs X b t) (hz : Zc cls d oe) : PSs X b (fun E σ H => (cls = .ref D ∧ d = none) ∧ t E σ H) := by
  by_cases c : cls = .ref D ∧ d = none
  · obtain ⟨rfl, rfl⟩ := c
    exact ⟨fun pins s σ H E I q => (h hz).run pins s σ H E I q.2⟩
  · exact ⟨fun pins s σ H E I q => absurd q.1 c⟩
/-- the classes of refusals -/
inductive Er where
  | deal | noDealing | over | noName | noValue | noMark | taken | late | crossed | unlike
  deriving DecidableEq
def Er.under (e f : Er) : Bool := decide (e = f) || decide (f = .deal)
structure Errs (K : PySem.W.Frag) (C : Er → Addr) (S : List Er) : Prop where
  own : ∀ e ∈ S, ExcC K (C e)
  exm : ∀ e ∈ S, ∀ f ∈ S, PySem.W.exmOne K (.ref (C e)) (.ref (C f)) = some (e.under f)
  kit : ∀ e ∈ S, ∀ f ∈ S, PySem.W.kitOne K (.ref (C e)) (.ref (C f)) = some (e.under f)
  val : ∀ e ∈ S, PySem.W.kitOne K (.ref (C e)) (.type "ValueError") = some true
/-- a class of refusals, as it is raised -/
structure ErrD (K : PySem.W.Frag) (mg : Str → Option Value) (x : Str) (C : Addr) : Prop where
  g : mg x = some (.ref C)
  ex : PySem.W.excIn K C [.type "ValueError", .type "Exception", .type "BaseException", .type "object"] "ValueError.__new__" = true
  kp : PySem.W.keepIn K (.ref C) = true
  sub : PySem.W.subIn K (.ref C) (.type "BaseException") = some true
  ty : PySem.W.typeIn K (.ref C) = some (.type "type")
def errOne (K : PySem.W.Frag) (a : Addr) : Bool :=
  decide (PySem.W.findIn K (.ref a) "__getattribute__" = some (some (.builtin "BaseException.__getattribute__"))) && (decide (PySem.W.findIn K (.ref a) "__getattr__" = some none) && (decide (PySem.W.subIn K (.ref a) (.type "BaseException") = some true) && (PySem.W.hasDictIn K a &&
    (decide (PySem.W.findIn K (.ref a) "__class__" = some (some (.builtin "object.__class__"))) && (decide (PySem.W.specialIn K (.builtin "object.__class__") "__get__" = some (some (.builtin "getset_descriptor.__get__"))) && (decide (PySem.W.takesIn K (.builtin "object.__class__") = some true) &&
    (decide (PySem.W.mroIn K a (.type "object") = some true) && (PySem.W.excIn K a [.type "ValueError", .type "Exception", .type "BaseException", .type "object"] "ValueError.__new__" && (PySem.W.keepIn K (.ref a) && (decide (PySem.W.typeIn K (.ref a) = some (.type "type")) && decide (PySem.W.kitOne K (.ref a) (.type "ValueError") = some true)))))))))))
def errTwo (K : PySem.W.Frag) (p q : Er × Addr) : Bool := decide (PySem.W.exmOne K (.ref p.2) (.ref q.2) = some (p.1.under q.1)) && decide (PySem.W.kitOne K (.ref p.2) (.ref q.2) = some (p.1.under q.1))
def errB (K : PySem.W.Frag) (cs : List (Er × Addr)) : Bool := cs.all fun p => errOne K p.2 && cs.all fun q => errTwo K p q
theorem errOne_of {K : PySem.W.Frag} {a : Addr} (h : errOne K a = true) : ExcC K a ∧ PySem.W.kitOne K (.ref a) (.type "ValueError") = some true ∧ ∀ {mg : Str → Option Value} {x : Str}, mg x = some (.ref a) → ErrD K mg x a := by
  unfold errOne at h
  simp only [Bool.and_eq_true, decide_eq_true_eq] at h
  obtain ⟨h1, h2, h3, h4, h5, h6, h7, h8, h9, h10, h11, h12⟩ := h
  exact ⟨⟨h1, h2, h3, h4, h5, h6, h7, h8⟩, h12, fun g => ⟨g, h9, h10, h3, h11⟩⟩
theorem errB_of {K : PySem.W.Frag} {cs : List (Er × Addr)} (h : errB K cs = true) : (∀ p ∈ cs, errOne K p.2 = true) ∧ ∀ p ∈ cs, ∀ q ∈ cs, errTwo K p q = true := by
  unfold errB at h
  rw [List.all_eq_true] at h
  refine ⟨fun p hp => (Bool.and_eq_true_iff.mp (h p hp)).1, fun p hp q hq => List.all_eq_true.mp (Bool.and_eq_true_iff.mp (h p hp)).2 q hq⟩
theorem errs_of {K : PySem.W.Frag} {C : Er → Addr} {S : List Er} (h : errB K (S.map fun e => (e, C e)) = true) : Errs K C S := by
  obtain ⟨h1, h2⟩ := errB_of h
  have m : ∀ e ∈ S, (e, C e) ∈ S.map fun e => (e, C e) := fun e he => List.mem_map.mpr ⟨e, he, rfl⟩
  have two : ∀ e ∈ S, ∀ f ∈ S, _ ∧ _ := fun e he f hf => by
    have h3 := h2 _ (m e he) _ (m f hf)
    unfold errTwo at h3
    rw [Bool.and_eq_true, decide_eq_true_eq, decide_eq_true_eq] at h3
    exact h3
  exact ⟨fun e he => (errOne_of (h1 _ (m e he))).1, fun e he f hf => (two e he f hf).1, fun e he f hf => (two e he f hf).2, fun e he => (errOne_of (h1 _ (m e he))).2.1⟩
theorem errd_of {K : PySem.W.Frag} {C : Er → Addr} {S : List Er} {mg : Str → Option Value} {x : Str} {e : Er} (h : errB K (S.map fun e => (e, C e)) = true) (he : e ∈ S) (g : mg x = some (.ref (C e))) : ErrD K mg x (C e) :=
  (errOne_of ((errB_of h).1 _ (List.mem_map.mpr ⟨e, he, rfl⟩))).2.2 g
theorem isEK {X : Cx} {a D : Addr} {oe : Obj} {pn : List (Addr × Obj)} {K : PySem.W.Frag} (C : ExcC X.K D) (hz : Zc (.ref D) none oe) (hf : ∃ vs, oe.data = .fields vs) (e : X.K = K := by rfl) : CallR (X.suite a ((a, oe) :: pn)) (.builtin "isinstance") (rIsE K D a) := by
  subst e
  exact call_isE C hz hf
theorem cntK {X : Cx} {K : PySem.W.Frag} (e : X.K = K := by rfl) : MtR X "list.count" (rCnt K) := by
  subst e
  exact mt_cnt
theorem bmK {X : Cx} {K : PySem.W.Frag} {o e : Expr} {es : List Expr} {to : TE} {t : TA} {name : Str} {apos cpos : Pos} {T id : String} {r : V → List V → Hp → VK → Prop} (hp : PlainAttrs T) (hs : Slot T name id)
    (ht : typeOf (Value.builtin id) = pure (Value.type "method_descriptor")) (hm : MtR X id r) (ho : PE X o to) (ha : PA X (e :: es) t) (h1 : attributeBase o name X.env (eval o X.env) = eval o X.env := by rfl)
    (h2 : ((((backTo cpos (starEach (e :: es) X.env)).all fun x => !x.fst) && (backToKw cpos (keywordEach [] X.env)).all fun x => x.fst.isSome) && decide (((e :: es).length + ([] : List Keyword).length + if ([] : List Keyword).isEmpty = true then 0 else 1) < 30)) = true := by rfl)
    (h3 : (apos.endLine == cpos.line) = true := by rfl) (h4 : starEach (e :: es) X.env = (false, eval e X.env) :: starEach es X.env := by rfl) (h5 : ((backTo cpos (starEach es X.env)).any fun x => x.fst) = false := by rfl) (e' : X.K = K := by rfl) :
    PE X ((o.Attribute name apos).Call (e :: es) [] cpos) (tBM K T r to t) := by
  subst e'
  exact pe_bm hp hs ht hm ho ha h1 h2 h3 h4 h5
theorem rel_ref {a : Addr} : ∀ u, RelV (.ref a) u → u = .ref a := fun u h => by cases h; rfl
theorem rel_ty {t : String} : ∀ u, RelV (.ty t) u → u = .type t := fun u h => by cases h; rfl
theorem isE_ref {K : PySem.W.Frag} {C : Er → Addr} {S : List Er} (R : Errs K C S) {a : Addr} {e f : Er} {H : Hp} {Q : VK} (he : e ∈ S) (hf : f ∈ S) (q : Q (.bl (e.under f)) H) : rIsE K (C e) a [.ref a, .ref (C f)] H Q :=
  ⟨_, _, _, rfl, fun u h => by cases h; rfl, R.kit e he f hf, q⟩
theorem isE_val {K : PySem.W.Frag} {C : Er → Addr} {S : List Er} (R : Errs K C S) {a : Addr} {e : Er} {H : Hp} {Q : VK} (he : e ∈ S) (q : Q (.bl true) H) : rIsE K (C e) a [.ref a, .ty "ValueError"] H Q :=
  ⟨_, _, _, rfl, fun u h => by cases h; rfl, R.val e he, q⟩
abbrev S9 : List Er := [.deal, .noDealing, .over, .noName, .noValue, .noMark, .taken, .late, .crossed]
abbrev S10 : List Er := [.deal, .noDealing, .over, .noName, .noValue, .noMark, .taken, .late, .crossed, .unlike]
end Kt

namespace Kt
open PySem PySem.Spec PyProof.Rows L2 GxR Kr
section
variable {P : Program} {w : World} {K : PySem.W.Frag} {mg : Str → Option Value} {base : Heap}
/-- what may be asked about -/
inductive Thing (H : Hp) : V → Prop where
  | non : Thing H .non
  | bl (b : Bool) : Thing H (.bl b)
  | int (i : Int) : Thing H (.int i)
  | str (z : Str) (h : z.length ≤ 1000000) : Thing H (.str z)
  | lst {a : Addr} {xs : List V} (h : H a = some (.lst xs)) : Thing H (.ref a)
  | tup {a : Addr} {xs : List V} (h : H a = some (.tup xs)) : Thing H (.ref a)
theorem IsVal.thing {H : Hp} {x : V} (h : IsVal x) : Thing H x := by
  rcases h with h | ⟨i, h⟩
  · rw [h]
    exact .non
  · rw [h]
    exact .int i
def strB : V → Bool
  | .str _ => true
  | _ => false
def blB : V → Bool
  | .bl _ => true
  | _ => false
def intB : V → Bool
  | .bl _ => true
  | .int _ => true
  | _ => false
/-- a whole number -/
def wholeB : V → Bool
  | .int _ => true
  | _ => false
theorem ty_of {H : Hp} {x : V} (h : Thing H x) : ∃ t : String, TyX K H x (.type t) ∧ kitB t "str" = some (strB x) ∧ kitB t "bool" = some (blB x) ∧ kitB t "int" = some (intB x) := by
  cases h with
  | non => exact ⟨"NoneType", .base .non, (show kitB "NoneType" "str" = some false by decide +kernel), (show kitB "NoneType" "bool" = some false by decide +kernel), (show kitB "NoneType" "int" = some false by decide +kernel)⟩
  | bl b => exact ⟨"bool", .base (.bl b), (show kitB "bool" "str" = some false by decide +kernel), (show kitB "bool" "bool" = some true by decide +kernel), (show kitB "bool" "int" = some true by decide +kernel)⟩
  | int i => exact ⟨"int", .base (.int i), (show kitB "int" "str" = some false by decide +kernel), (show kitB "int" "bool" = some false by decide +kernel), (show kitB "int" "int" = some true by decide +kernel)⟩
  | str z h => exact ⟨"str", .base (.str z), (show kitB "str" "str" = some true by decide +kernel), (show kitB "str" "bool" = some false by decide +kernel), (show kitB "str" "int" = some false by decide +kernel)⟩
  | lst h => exact ⟨"list", .base (.lst h), (show kitB "list" "str" = some false by decide +kernel), (show kitB "list" "bool" = some false by decide +kernel), (show kitB "list" "int" = some false by decide +kernel)⟩
  | tup h => exact ⟨"tuple", .base (.tup h), (show kitB "tuple" "str" = some false by decide +kernel), (show kitB "tuple" "bool" = some false by decide +kernel), (show kitB "tuple" "int" = some false by decide +kernel)⟩
def sp_law_whole : Sp := fun vs H Q _ => ∃ x : V, vs = [x] ∧ Thing H x ∧ Q (.bl (wholeB x)) H
def mixZ (n : Int) : Int := (n * 48271 + 7919) % 2147483647
theorem mixZ_lo (n : Int) : 0 ≤ mixZ n := Int.emod_nonneg _ (by decide)
theorem mixZ_hi (n : Int) : mixZ n < 2147483647 := Int.emod_lt_of_pos _ (by decide)
def sp_law_mixed : Sp := fun vs H Q _ => ∃ n : Int, vs = [.int n] ∧ Q (.int (mixZ n)) H
def sp_law_name_by : Sp := fun vs H Q _ => ∃ c : Int, vs = [.int c] ∧ ∀ z : Str, Name z → Q (.str z) H
def sp_law_twin : Sp := fun vs H Q _ => ∃ (z : Str) (c : Int), vs = [.str z, .int c] ∧ Name z ∧ ∀ y : Str, Name y → Q (.str y) H
theorem cut_len (z : Str) (lo hi : Option Int) : (cutS z lo hi).length = min (HT.sIx z.length z.length hi - HT.sIx z.length 0 lo) (z.length - HT.sIx z.length 0 lo) := by
  rw [← len_list]
  show ((z.cps.toList.drop (HT.sIx z.length 0 lo)).take (HT.sIx z.length z.length hi - HT.sIx z.length 0 lo)).length = _
  rw [List.length_take, List.length_drop, len_list]
structure Pool (H : Hp) (p : Addr) (ns : List Str) : Prop where
  at' : H p = some (.lst (ns.map V.str))
  lo : 1 ≤ ns.length
  hi : ns.length ≤ 136
  ok : ∀ z ∈ ns, Name z
def sp_law_pool : Sp := fun vs H Q _ => ∃ a b : Int, vs = [.int a, .int b] ∧ ∀ (p : Addr) (ns : List Str) (H' : Hp), Same H H' → H p = none → Pool H' p ns → Q (.ref p) H'
theorem digits_good : ∀ k : Nat, k < 130 → (Str.ofString "n" ++ Str.ofString (toString (k : Int))).cps.toList.all (fun n => decide (n ∈ signsS.cps.toList)) = true ∧ (Str.ofString "n" ++ Str.ofString (toString (k : Int))).length ≤ 12 ∧ 1 ≤ (Str.ofString "n" ++ Str.ofString (toString (k : Int))).length := by
  decide +kernel
theorem digits_name (k : Nat) (h : k < 130) : Name (Str.ofString "n" ++ Str.ofString (toString (k : Int))) := by
  obtain ⟨h1, h2, h3⟩ := digits_good k h
  refine ⟨fun c hc => ?_, h3, h2⟩
  have e := List.all_eq_true.mp h1 c hc
  exact of_decide_eq_true e
/-- n0, n1 .. -/
def numbered (i : Nat) : List Str := (List.range i).map fun k => Str.ofString "n" ++ Str.ofString (toString ((k : Nat) : Int))
theorem numbered_len (i : Nat) : (numbered i).length = i := by
  unfold numbered
  rw [List.length_map, List.length_range]
theorem numbered_succ (i : Nat) : numbered (i + 1) = numbered i ++ [Str.ofString "n" ++ Str.ofString (toString ((i : Nat) : Int))] := by
  unfold numbered
  rw [List.range_succ, List.map_append]
  rfl
theorem cutV_mem {xs : List V} {lo hi : Option Int} {x : V} (h : x ∈ cutV xs lo hi) : x ∈ xs := by
  unfold cutV at h
  exact List.mem_of_mem_drop (List.mem_of_mem_take h)
theorem cut_name {z : Str} (h : Good z) (k : Nat) (h1 : 1 ≤ k) (h2 : k ≤ 12) (h3 : 1 ≤ z.length) : Name (cutS z none (some (k : Int))) := by
  have l : (cutS z none (some (k : Int))).length = min k z.length := by
    rw [cut_len, HT.sIx_none, HT.sIx_nat]
    omega
  exact ⟨good_cut h _ _, by omega, by omega⟩
/-- the value by a cell -/
def valBy (c : Int) : V :=
  if c % 7 = 3 then .non else if c % 7 = 4 then (atI [V.int 0, .int 1, .int (-1), .int (10 ^ 30), .int (-(10 ^ 30))] (c / 7 % 5)).getD .non
    else if c % 7 = 5 then .int (c / 7 % 9) else .int ((c / 7).fmod (2 * 10 ^ 30 + 1) - 10 ^ 30)
theorem five (i : Int) (h0 : 0 ≤ i) (h1 : i < 5) : ∃ v, atI [V.int 0, .int 1, .int (-1), .int (10 ^ 30), .int (-(10 ^ 30))] i = some v ∧ valueV v = true := by
  rcases (by omega : i = 0 ∨ i = 1 ∨ i = 2 ∨ i = 3 ∨ i = 4) with e | e | e | e | e <;> subst e
  · exact ⟨_, atI_nat (j := 0) rfl, by decide⟩
  · exact ⟨_, atI_nat (j := 1) rfl, by decide⟩
  · exact ⟨_, atI_nat (j := 2) rfl, by decide⟩
  · exact ⟨_, atI_nat (j := 3) rfl, by decide⟩
  · exact ⟨_, atI_nat (j := 4) rfl, by decide⟩
theorem valBy_ok (c : Int) : valueV (valBy c) = true := by
  unfold valBy
  by_cases h3 : c % 7 = 3
  · rw [if_pos h3]
    rfl
  rw [if_neg h3]
  by_cases h4 : c % 7 = 4
  · rw [if_pos h4]
    obtain ⟨v, e, hv⟩ := five (c / 7 % 5) (Int.emod_nonneg _ (by decide)) (Int.emod_lt_of_pos _ (by decide))
    rw [e]
    exact hv
  rw [if_neg h4]
  by_cases h5 : c % 7 = 5
  · rw [if_pos h5]
    have e0 : 0 ≤ c / 7 % 9 := Int.emod_nonneg _ (by decide)
    have e1 : c / 7 % 9 < 9 := Int.emod_lt_of_pos _ (by decide)
    show (decide _ && decide _) = true
    rw [decide_eq_true (by omega), decide_eq_true (by omega)]
    rfl
  rw [if_neg h5, Int.fmod_eq_emod_of_nonneg _ (by decide)]
  have e0 : 0 ≤ c / 7 % (2 * 10 ^ 30 + 1) := Int.emod_nonneg _ (by decide)
  have e1 : c / 7 % (2 * 10 ^ 30 + 1) < 2 * 10 ^ 30 + 1 := Int.emod_lt_of_pos _ (by decide)
  show (decide _ && decide _) = true
  rw [decide_eq_true (by omega), decide_eq_true (by omega)]
  rfl
def sp_law_value_by : Sp := fun vs H Q _ => ∃ c : Int, vs = [.int c] ∧ ∀ H' : Hp, Same H H' → Q (valBy c) H'
def sp_law_same : Sp := fun vs H Q _ => ∃ a b : V, vs = [a, b] ∧ IsVal a ∧ IsVal b ∧ Q (.bl (decide (a = b))) H
theorem paired_at {α β : Type} {F : α → β → Prop} : ∀ {xs : List α} {ys : List β} {i : Nat} {x : α}, Paired F xs ys → xs[i]? = some x → ∃ y, ys[i]? = some y ∧ F x y
  | _, _, _, _, .nil, e => by simp at e
  | _, _, 0, _, .cons r _, e => by
    simp at e
    subst e
    exact ⟨_, rfl, r⟩
  | _, _, i + 1, x, .cons _ t, e => by
    obtain ⟨u, h1, h2⟩ := paired_at (i := i) (x := x) t (by simpa using e)
    exact ⟨u, by simpa using h1, h2⟩
theorem take_eq_succ {α : Type} {xs ys : List α} {i : Nat} {x : α} (h : xs.take i = ys.take i) (hx : xs[i]? = some x) (hy : ys[i]? = some x) : xs.take (i + 1) = ys.take (i + 1) := by
  rw [List.take_add_one, List.take_add_one, h, hx, hy]
def sp_law_pairs : Sp := fun vs H Q _ => ∃ (a b : Addr) (ps qs : Prs), vs = [.ref a, .ref b] ∧ PairsAt H a ps ∧ PairsAt H b qs ∧ (∀ x ∈ ps, IsVal x.2) ∧ (∀ x ∈ qs, IsVal x.2) ∧ qs.length ≤ 1000000 ∧ Q (.bl (decide (ps = qs))) H
theorem putAll_snoc (m l : Prs) (q : Str × V) : putAll m (l ++ [q]) = putK (putAll m l) q.1 q.2 := by
  unfold putAll
  rw [List.foldl_append]
  rfl
def sp_law_last : Sp := fun vs H Q _ => ∃ (a : Addr) (ps : Prs), vs = [.ref a] ∧ PairsAt H a ps ∧ ps.length ≤ 1000000 ∧ ∀ (d : Addr) (H' : Hp), Same H H' → H d = none → DictAt H' d (putAll [] ps) → Q (.ref d) H'
def sp_law_told_under : Sp := fun vs H Q _ => ∃ (a b : Addr) (m l : Prs) (hd : Str), vs = [.ref a, .ref b, .str hd] ∧ DictAt H a m ∧ DictAt H b l ∧ hd.length ≤ 1000000 ∧ m.length + l.length ≤ 1000000 ∧
  (∀ x ∈ putAll m l, x.1.length ≤ 1000000) ∧ ∀ (p : Addr) (ps : Prs) (H' : Hp), Same H H' → H p = none → PairsAt (Fresh H H') p ps → IsTold (tells (putAll m l)) hd ps → ps.length ≤ m.length + l.length → Q (.ref p) H'
/-- names and values -/
def Ok (ps : Prs) : Prop := ∀ q ∈ ps, Name q.1 ∧ valueV q.2 = true
theorem ok_nil : Ok [] := fun q h => by cases h
theorem ok_put {m : Prs} {n : Str} {v : V} (h : Ok m) (hn : Name n) (hv : valueV v = true) : Ok (putK m n v) := by
  intro q hq
  unfold putK at hq
  split at hq
  · obtain ⟨x, hx, e⟩ := List.mem_map.mp hq
    by_cases z : x.1 = n
    · rw [if_pos z] at e
      rw [← e]
      exact ⟨(h x hx).1, hv⟩
    · rw [if_neg z] at e
      rw [← e]
      exact h x hx
  · rcases List.mem_append.mp hq with z | z
    · exact h q z
    · rw [List.mem_singleton.mp z]
      exact ⟨hn, hv⟩
theorem ok_putAll : ∀ {l m : Prs}, Ok m → Ok l → Ok (putAll m l)
  | [], _, h, _ => h
  | q :: r, m, h, hl => by
    show Ok (putAll (putK m q.1 q.2) r)
    exact ok_putAll (l := r) (ok_put h (hl q List.mem_cons_self).1 (hl q List.mem_cons_self).2) fun x hx => hl x (List.mem_cons_of_mem _ hx)
theorem putAll_new : ∀ {l m : Prs}, ((m ++ l).map (·.1)).Nodup → putAll m l = m ++ l
  | [], m, _ => (List.append_nil m).symm
  | q :: r, m, h => by
    have hn : valV m q.1 = none := by
      cases e : valV m q.1 with
      | none => rfl
      | some v =>
        rw [List.map_append, List.nodup_append] at h
        exact absurd rfl (h.2.2 q.1 (valV_in e) q.1 List.mem_cons_self)
    show putAll (putK m q.1 q.2) r = m ++ q :: r
    rw [putK_new _ hn, putAll_new (l := r) (by rw [List.append_assoc]; exact h), List.append_assoc]
    rfl
theorem putAll_idem (ps : Prs) : putAll [] (putAll [] ps) = putAll [] ps := putAll_new (l := putAll [] ps) (m := []) (putAll_keys ps List.nodup_nil)
theorem ok_app {a b : Prs} (ha : Ok a) (hb : Ok b) : Ok (a ++ b) := fun q hq => by
  rcases List.mem_append.mp hq with h | h
  · exact ha q h
  · exact hb q h
theorem ok_take {a : Prs} (ha : Ok a) (k : Nat) : Ok (a.take k) := fun q hq => ha q (List.mem_of_mem_take hq)
theorem Ok.len {m : Prs} (h : Ok m) : ∀ x ∈ m, x.1.length ≤ 1000000 := fun x hx => by
  have h1 := (h x hx).1.hi
  omega
theorem val_ok {m : Prs} {n : Str} {v : V} (h : Ok m) (e : valV m n = some v) : valueV v = true := by
  unfold valV at e
  cases hf : m.find? (fun kv => decide (kv.1 = n)) with
  | none =>
    rw [hf] at e
    cases e
  | some q =>
    rw [hf] at e
    cases e
    exact (h q (List.mem_of_find?_eq_some hf)).2
theorem val_name {m : Prs} {n : Str} {v : V} (h : Ok m) (e : valV m n = some v) : Name n := by
  unfold valV at e
  cases hf : m.find? (fun kv => decide (kv.1 = n)) with
  | none =>
    rw [hf] at e
    cases e
  | some q =>
    have h1 := List.find?_some hf
    have h2 : q.1 = n := of_decide_eq_true h1
    rw [← h2]
    exact (h q (List.mem_of_find?_eq_some hf)).1
theorem tells_ok {m : Prs} (h : Ok m) (n : Str) : valueV (tells m n) = true := by
  unfold tells
  cases e : valV m n with
  | none => rfl
  | some v => exact val_ok h e
theorem tells_all (m l : Prs) (n : Str) : tells (putAll m l) n = readV (tells m) l n := by
  unfold tells readV
  rw [putAll_val]
  cases valV (putAll [] l) n with
  | none => rfl
  | some v => rfl
theorem tells_fun (m l : Prs) : tells (putAll m l) = readV (tells m) l := funext (tells_all m l)
theorem told_ok {m : Prs} {hd : Str} {ps : Prs} (h : Ok m) (t : IsTold (tells m) hd ps) : Ok ps := fun q hq => by
  obtain ⟨h1, h2, _⟩ := (t.mem q.1 q.2).mp hq
  unfold tells at h2
  cases e : valV m q.1 with
  | none =>
    rw [e] at h2
    exact absurd h2.symm h1
  | some v =>
    rw [e] at h2
    have h3 : v = q.2 := h2
    exact ⟨val_name h e, by rw [← h3]; exact val_ok h e⟩
theorem head_cut {z : Str} (h : Name z) (k : Int) (hk : 0 ≤ k) : headB (cutS z none (some k)) = true := by
  refine headB_iff.mpr ⟨good_cut h.good _ _, ?_⟩
  have h1 := cutS_length z none (some k)
  have h2 := h.hi
  omega
theorem ints_dp {K : PySem.W.Frag} {H : Hp} : ∀ ns : List Int, DpAll K H (ns.map V.int) (ns.map PyData.int)
  | [] => .nil
  | n :: r => .cons (.int n) (ints_dp r)
theorem ints_lay : ∀ ns : List Int, PyData.canLayAll0 (ns.map PyData.int) = true
  | [] => rfl
  | n :: r => ints_lay r
theorem ints_deep : ∀ ns : List Int, PyData.depthAll (ns.map PyData.int) = 0
  | [] => rfl
  | n :: r => by
    show max (PyData.depth (.int n)) (PyData.depthAll (r.map PyData.int)) = 0
    rw [ints_deep r]
    rfl
theorem ints_shaped (ns : List Int) : SeqAt.shaped (.list (ns.map PyData.int)) = true := by
  unfold SeqAt.shaped
  rw [show PyData.canLay0 (.list (ns.map PyData.int)) = PyData.canLayAll0 (ns.map PyData.int) from rfl, ints_lay,
    show PyData.depth (.list (ns.map PyData.int)) = PyData.depthAll (ns.map PyData.int) + 1 from rfl, ints_deep]
  rfl
theorem ints_eqv : ∀ ns ms : List Int, PyData.eqv (.list (ns.map PyData.int)) (.list (ms.map PyData.int)) = decide (ns = ms)
  | [], [] => rfl
  | [], m :: ms => rfl
  | n :: ns, [] => rfl
  | n :: ns, m :: ms => by
    show ((n == m) && PyData.eqv (.list (ns.map PyData.int)) (.list (ms.map PyData.int))) = _
    rw [ints_eqv ns ms]
    by_cases h : n = m
    · subst h
      rw [beq_self_eq_true, Bool.true_and]
      by_cases h2 : ns = ms
      · rw [decide_eq_true h2, decide_eq_true (by rw [h2])]
      · rw [decide_eq_false h2, decide_eq_false (fun e => h2 (List.cons.inj e).2)]
    · rw [beq_eq_false_iff_ne.mpr h, Bool.false_and, decide_eq_false (fun e => h (List.cons.inj e).1)]
theorem eq_ints {K : PySem.W.Frag} {H : Hp} {a b : Addr} {ns ms : List Int} {Q : VK} (ha : SqL K H a (ns.map V.int)) (hb : SqL K H b (ms.map V.int)) (q : Q (.bl (decide (ns = ms))) H) : rEqD K (.ref a) (.ref b) H Q :=
  ⟨_, _, .lst ha (ints_dp ns), .lst hb (ints_dp ms), ints_shaped ns, ints_shaped ms, by rw [ints_eqv]; exact q⟩
theorem ne_ints {K : PySem.W.Frag} {H : Hp} {a b : Addr} {ns ms : List Int} {Q : VK} (ha : SqL K H a (ns.map V.int)) (hb : SqL K H b (ms.map V.int)) (q : Q (.bl (!decide (ns = ms))) H) : rNeD K (.ref a) (.ref b) H Q :=
  ⟨_, _, .lst ha (ints_dp ns), .lst hb (ints_dp ms), ints_shaped ns, ints_shaped ms, by rw [ints_eqv]; exact q⟩
theorem int_at {ns : List Int} {i : Nat} {v : V} (h : (ns.map V.int)[i]? = some v) : ∃ z, v = V.int z ∧ ns[i]? = some z := by
  rw [List.getElem?_map] at h
  cases e : ns[i]? with
  | none =>
    rw [e] at h
    cases h
  | some z =>
    rw [e] at h
    exact ⟨z, (Option.some.inj h).symm, rfl⟩
theorem inV_ints (z : Int) : ∀ ns : List Int, inV (.int z) (ns.map V.int) = decide (z ∈ ns)
  | [] => rfl
  | n :: r => by
    show (eqV (.int n) (.int z) || inV (.int z) (r.map V.int)) = _
    rw [inV_ints z r, show eqV (.int n) (.int z) = (n == z) from rfl]
    by_cases h : n = z
    · subst h
      rw [beq_self_eq_true, decide_eq_true List.mem_cons_self]
      rfl
    · rw [beq_eq_false_iff_ne.mpr h, Bool.false_or]
      exact decide_eq_decide.mpr ⟨fun m => List.mem_cons_of_mem _ m, fun m => (List.mem_cons.mp m).resolve_left (fun e => h e.symm)⟩
theorem flat_ints : ∀ ns : List Int, (ns.map V.int).all flatV = true
  | [] => rfl
  | n :: r => flat_ints r
theorem cutV_ints (ns : List Int) (lo hi : Option Int) : cutV (ns.map V.int) lo hi = ((ns.drop (HT.sIx ns.length 0 lo)).take (HT.sIx ns.length ns.length hi - HT.sIx ns.length 0 lo)).map V.int := by
  unfold cutV
  rw [List.length_map, List.map_take, List.map_drop]
theorem cutV_to (ns : List Int) (k : Nat) (h : k ≤ ns.length) : cutV (ns.map V.int) none (some (k : Int)) = (ns.take k).map V.int := by
  rw [cutV_ints, HT.sIx_none, HT.sIx_nat, List.drop_zero, Nat.sub_zero, Nat.min_eq_left h]
theorem cutV_from (ns : List Int) (k : Nat) (h : k ≤ ns.length) : cutV (ns.map V.int) (some (k : Int)) none = (ns.drop k).map V.int := by
  rw [cutV_ints, HT.sIx_none, HT.sIx_nat, Nat.min_eq_left h, List.take_of_length_le (by rw [List.length_drop]; omega)]
/-- the place right ahead of the first that must be behind, or the end -/
def placeOf (row behind : List Int) : Nat := row.findIdx (fun x => decide (x ∈ behind))
/-- the place, or None -/
def placeV (row ahead behind : List Int) : V := if (ahead.filter fun x => decide (x ∈ row.drop (placeOf row behind))) = [] then .int (placeOf row behind) else .non
theorem placeOf_le (row behind : List Int) : placeOf row behind ≤ row.length := List.findIdx_le_length
def sp_law_some : Sp := fun vs H Q _ => ∃ (a r : Addr) (ns row : List Int) (k n : Nat), vs = [.ref a, .int (k : Nat), .int (n : Nat), .ref r] ∧ SqL K H a (ns.map V.int) ∧ H r = some (.lst (row.map V.int)) ∧ k ≤ 1000 ∧ n ≤ 1000 ∧
  ∀ (p : Addr) (out : List Int) (H' : Hp), Same H H' → H p = none → H' p = some (.lst (out.map V.int)) → out.length ≤ 1000 → (∀ z ∈ out, z ∈ row) → Q (.ref p) H'
def sp_law_due : Sp := fun vs H Q _ => ∃ (a b c : Addr) (row ahead behind : List Int), vs = [.ref a, .ref b, .ref c] ∧ H a = some (.lst (row.map V.int)) ∧ H b = some (.lst (ahead.map V.int)) ∧ H c = some (.lst (behind.map V.int)) ∧
  row.length ≤ 1000 ∧ ahead.length ≤ 1000 ∧ behind.length ≤ 1000 ∧ ∀ H' : Hp, Same H H' → Q (placeV row ahead behind) H'
theorem filter_ne {behind row : List Int} : (behind.filter fun x => decide (x ∈ row)) = [] ↔ ∀ x ∈ behind, x ∉ row := by
  rw [List.filter_eq_nil_iff]
  constructor
  · intro h x hx hr
    exact h x hx (decide_eq_true hr)
  · intro h x hx hr
    exact h x hx (of_decide_eq_true hr)
theorem comp_in {a b c e : Addr} {pl : Int} {k : Option V} {i : Nat} {H : Hp} {L sub : List Int} {T : TE} {Q : VK} (hi : [some (V.ref a), some (V.ref b), some (V.ref c), some (V.int pl), k][i]? = some (some (V.ref e)))
    (he : H e = some (.lst (L.map V.int))) (hl : L.length ≤ 1000)
    (hT : ∀ (z : Int) (H1 : Hp) (R : VK), Same H H1 → (∀ p H2, Same H1 H2 → SqL K H2 p (sub.map V.int) → R (.ref p) H2) → T [some (V.ref a), some (V.ref b), some (V.ref c), some (V.int pl), some (V.int z)] H1 R)
    (q : ∀ D H', Same H H' → H D = none → H' D = some (.lst ((L.filter fun x => decide (x ∈ sub)).map V.int)) → Q (.ref D) H') :
    tLc (iList K (tVar i)) (gName 4) (tTest (tOp (rIn K false) (tVar 4) T)) (tVar 4) [4] [some (V.ref a), some (V.ref b), some (V.ref c), some (V.int pl), k] H Q := by
  refine ⟨_, hi, e, rfl, ⟨_, SqL.of he⟩, fun D nD => lc_list (K := K) (a := e) (xs := L.map V.int) (fun i H' => Same H H' ∧ H' D = some (.lst (((L.take i).filter fun x => decide (x ∈ sub)).map V.int)))
    ⟨same_new nD, upd_same⟩ (fun i H' _ h => SqL.of (h.1 _ _ he)) ?_ ?_⟩
  · rintro i x H' hx ⟨s1, hD⟩
    obtain ⟨z, rfl, hz⟩ := int_at hx
    have e1 : L.take (i + 1) = L.take i ++ [z] := by rw [List.take_add_one, hz]; rfl
    refine ⟨rfl, _, rfl, ?_⟩
    refine hT z H' _ s1 fun p H2 s2 hp => ⟨p, _, rfl, .inl hp, rfl, flat_ints _, _, rfl, ?_⟩
    have s3 := s1.trans s2
    have hD2 := s2 _ _ hD
    show if inV (.int z) (sub.map V.int) = true then _ else _
    rw [inV_ints]
    by_cases hm : z ∈ sub
    · rw [decide_eq_true hm]
      refine iteT ⟨_, rfl, _, hD2, ?_, ?_, ?_⟩
      · rw [List.length_map]
        have h1 := List.length_filter_le (fun x => decide (x ∈ sub)) (L.take i)
        rw [List.length_take] at h1
        exact Nat.lt_of_le_of_lt (by omega : _ ≤ 1000000) (by decide)
      · intro y o e
        rw [upd_ne (ne_of_none e nD)]
        exact s3 y o e
      · rw [upd_same, e1, List.filter_append, List.map_append, List.filter_cons, decide_eq_true hm]
        rfl
    · rw [decide_eq_false hm]
      refine iteF ⟨s3, ?_⟩
      rw [e1, List.filter_append, List.filter_cons, decide_eq_false hm]
      show _ = some (HO.lst (List.map V.int (_ ++ [])))
      rw [List.append_nil]
      exact hD2
  · rintro H' ⟨s1, hD⟩
    rw [List.length_map, List.take_length] at hD
    exact q D H' s1 nD hD
/-- [..] != [] -/
theorem ne_nil {H : Hp} {D : Addr} {ns : List Int} {Q : VK} (hD : H D = some (.lst (ns.map V.int))) (q : ∀ H', Same H H' → Q (.bl (!decide (ns = []))) H') {σ : L2.St} :
    tLst tNil σ H (fun y H2 => rNeD K (.ref D) y H2 Q) := by
  refine ⟨Nat.zero_le _, fun p np => ?_⟩
  have s := same_new (o := .lst []) np
  exact ne_ints (ms := []) (SqL.of (s _ _ hD)) (SqL.of upd_same) (q _ s)
theorem test_in {a b c e : Addr} {pl : Int} {k : Option V} {i : Nat} {H : Hp} {L sub : List Int} {T : TE} {R : Bool → Hp → Prop} (hi : [some (V.ref a), some (V.ref b), some (V.ref c), some (V.int pl), k][i]? = some (some (V.ref e)))
    (he : H e = some (.lst (L.map V.int))) (hl : L.length ≤ 1000)
    (hT : ∀ (z : Int) (H1 : Hp) (R : VK), Same H H1 → (∀ p H2, Same H1 H2 → SqL K H2 p (sub.map V.int) → R (.ref p) H2) → T [some (V.ref a), some (V.ref b), some (V.ref c), some (V.int pl), some (V.int z)] H1 R)
    (q : ∀ H', Same H H' → R (!decide ((L.filter fun x => decide (x ∈ sub)) = [])) H') :
    tTest (tOp (rNeD K) (tLc (iList K (tVar i)) (gName 4) (tTest (tOp (rIn K false) (tVar 4) T)) (tVar 4) [4]) (tLst tNil)) [some (V.ref a), some (V.ref b), some (V.ref c), some (V.int pl), k] H R := by
  show tLc (iList K (tVar i)) (gName 4) (tTest (tOp (rIn K false) (tVar 4) T)) (tVar 4) [4] [some (V.ref a), some (V.ref b), some (V.ref c), some (V.int pl), k] H
    (fun y H2 => tLst tNil [some (V.ref a), some (V.ref b), some (V.ref c), some (V.int pl), k] H2 fun x H3 => rNeD K y x H3 fun w H4 => ∃ t, w = .bl t ∧ R t H4)
  exact comp_in hi he hl hT fun D H' s nD hD => ne_nil hD fun H2 s2 => ⟨_, rfl, q H2 (s.trans s2)⟩
theorem take_none {row behind : List Int} {k : Nat} (h : k ≤ row.length) : (∀ x ∈ behind, x ∉ row.take k) ↔ k ≤ placeOf row behind := by
  unfold placeOf
  constructor
  · intro hn
    refine Nat.le_of_not_lt fun hlt => ?_
    have hm : row.findIdx (fun x => decide (x ∈ behind)) < row.length := Nat.lt_of_lt_of_le hlt h
    have e := List.findIdx_getElem (w := hm)
    have e2 := of_decide_eq_true e
    refine hn _ e2 ?_
    rw [List.mem_take_iff_getElem]
    exact ⟨_, by omega, rfl⟩
  · intro hk x hx hm
    rw [List.mem_take_iff_getElem] at hm
    obtain ⟨j, hj, e⟩ := hm
    have hj2 : j < row.findIdx (fun x => decide (x ∈ behind)) := by omega
    have e2 := List.not_of_lt_findIdx hj2
    rw [e] at e2
    exact absurd hx (of_decide_eq_false e2)
theorem inv61 : ∀ s : Nat, s < 61 → 1 ≤ s → ∃ t : Nat, t < 61 ∧ s * t % 61 = 1 := by decide +kernel
theorem mul61 {s i j : Nat} (h1 : 1 ≤ s) (h2 : s ≤ 60) (hi : i < 61) (hj : j < 61) (h : i * s % 61 = j * s % 61) : i = j := by
  obtain ⟨t, _, ht⟩ := inv61 s (by omega) h1
  have key : ∀ k : Nat, k < 61 → (k * s % 61) * t % 61 = k := fun k hk => by
    rw [Nat.mod_mul_mod, Nat.mul_assoc, Nat.mul_mod, ht, Nat.mul_one, Nat.mod_mod, Nat.mod_eq_of_lt hk]
  rw [← key i hi, h, key j hj]
theorem findIdx_none {row : List Int} : placeOf row [] = row.length := by
  unfold placeOf
  rw [List.findIdx_eq_length]
  intro x _
  exact decide_eq_false (by simp)
theorem findIdx_all {row : List Int} : placeOf row row = 0 := by
  unfold placeOf
  cases row with
  | nil => rfl
  | cons x r =>
    rw [List.findIdx_cons, decide_eq_true List.mem_cons_self]
    rfl
def sp_place_in0 : Sp := fun vs H Q _ => ∃ (a b c : Addr) (row ahead behind : List Int), vs = [.ref a, .ref b, .ref c] ∧ H a = some (.lst (row.map V.int)) ∧ H b = some (.lst (ahead.map V.int)) ∧ H c = some (.lst (behind.map V.int)) ∧
  row.Nodup ∧ (∀ x ∈ ahead, x ∈ row) ∧ (∀ x ∈ behind, x ∈ row) ∧ row.length ≤ 1000 ∧ ahead.length ≤ 1000 ∧ behind.length ≤ 1000 ∧ ∀ H' : Hp, Same H H' → Q (placeV row ahead behind) H'
theorem placeV_val (row ahead behind : List Int) : placeV row ahead behind = .non ∨ placeV row ahead behind = .int (placeOf row behind : Nat) := by
  unfold placeV
  split
  · exact .inr rfl
  · exact .inl rfl
def sp_law_deed_by : Sp := fun vs H Q _ => ∃ (l p po : Addr) (m ps : Prs) (ns : List Str) (x c : Int), vs = [.ref l, .ref p, .ref po, .int x, .int c] ∧ DictAt H l m ∧ PairsAt H p ps ∧ Pool H po ns ∧ Ok m ∧ Ok ps ∧ 0 ≤ x ∧
  m.length + ps.length ≤ 100000 ∧ ∀ (a : Addr) (d : Deed) (H' : Hp), Same H H' → H a = none → DeedAt (Fresh H H') a d → DeedOk d → Right (tells m) ps d → Fits ps d → Q (.ref a) H'
theorem nodup_len {α : Type} [DecidableEq α] : ∀ {xs ys : List α}, xs.Nodup → (∀ x ∈ xs, x ∈ ys) → xs.length ≤ ys.length
  | [], ys, _, _ => Nat.zero_le _
  | x :: r, ys, h, k => by
    rw [List.nodup_cons] at h
    have hx := k x List.mem_cons_self
    have h1 := nodup_len (xs := r) (ys := ys.erase x) h.2 fun y hy => (List.mem_erase_of_ne (fun e => h.1 (by rw [← e]; exact hy))).mpr (k y (List.mem_cons_of_mem _ hy))
    rw [List.length_erase_of_mem hx] at h1
    have h2 := List.length_pos_of_mem hx
    rw [List.length_cons]
    omega
theorem val_in : ∀ {m : Prs} {n : Str} {v : V}, valV m n = some v → n ∈ m.map (·.1)
  | [], n, v, e => by
    rw [valV_nil] at e
    cases e
  | q :: r, n, v, e => by
    by_cases h : q.1 = n
    · rw [List.map_cons, h]
      exact List.mem_cons_self
    · rw [valV_neg h] at e
      exact List.mem_cons_of_mem _ (val_in e)
theorem IsTold.names {f : Str → V} {hd : Str} {ps : Prs} (t : IsTold f hd ps) : (ps.map (·.1)).Nodup := List.pairwise_map.mpr (List.Pairwise.imp (fun {a b} (h : Lt a.1 b.1) (e : a.1 = b.1) => by rw [e] at h; exact Lt.irrefl _ h) t.up)
theorem told_len {m l ps : Prs} {hd : Str} (t : IsTold (readV (tells m) l) hd ps) : ps.length ≤ m.length + l.length := by
  have h1 : (ps.map (·.1)).length ≤ (m.map (·.1) ++ (putAll [] l).map (·.1)).length := nodup_len t.names fun n hn => by
    obtain ⟨q, hq, rfl⟩ := List.mem_map.mp hn
    obtain ⟨n1, n2, _⟩ := (t.mem q.1 q.2).mp hq
    refine List.mem_append.mpr ?_
    unfold readV at n2
    cases e : valV (putAll [] l) q.1 with
    | some v => exact .inr (val_in e)
    | none =>
      rw [e] at n2
      unfold tells at n2
      cases e2 : valV m q.1 with
      | some v => exact .inl (val_in e2)
      | none =>
        rw [e2] at n2
        exact absurd n2.symm n1
  have h2 := putAll_len l []
  rw [List.length_map, List.length_append, List.length_map, List.length_map] at h1
  have h3 : ([] : Prs).length = 0 := rfl
  omega
/-- a reading, its pairs with whole numbers -/
def IsReading : Deed → Prop
  | .read _ _ => True
  | .under _ ps => ps.length ≤ 100000 ∧ ∀ q ∈ ps, ∃ i, q.2 = .int i
  | _ => False
/-- names and values are such; pairs have whole numbers, and there are not too many -/
structure Fine (d : Deed) : Prop where
  ok : DeedOk d
  u : ∀ h ps, d = .under h ps → ps.length ≤ 100000 ∧ ∀ q ∈ ps, ∃ i, q.2 = .int i
theorem fine_of {m l : Prs} {d : Deed} (ok : DeedOk d) (r : Right (tells m) l d) (h : m.length + l.length ≤ 100000) : Fine d := ⟨ok, fun hd ps e => by
  subst e
  have r2 : IsTold (readV (tells m) l) hd ps := r
  refine ⟨Nat.le_trans (told_len r2) h, fun q hq => ?_⟩
  have h1 := isVal_of (ok.2 q hq).2
  rcases h1 with h1 | h1
  · exact absurd h1 ((r2.mem q.1 q.2).mp hq).1
  · exact h1⟩
theorem endP_snoc (puts : Prs) (ds : List Deed) (d : Deed) : endP puts (ds ++ [d]) = nextP (endP puts ds) d := by
  unfold endP
  rw [List.foldl_append]
  rfl
theorem rowRight_snoc (left : Str → V) : ∀ (ds : List Deed) (puts : Prs) (d : Deed), RowRight left puts (ds ++ [d]) ↔ RowRight left puts ds ∧ Right left (endP puts ds) d
  | [], puts, d => ⟨fun h => ⟨trivial, h.1⟩, fun h => ⟨h.2, trivial⟩⟩
  | x :: r, puts, d => by
    show Right left puts x ∧ RowRight left (nextP puts x) (r ++ [d]) ↔ (Right left puts x ∧ RowRight left (nextP puts x) r) ∧ Right left (endP (nextP puts x) r) d
    rw [rowRight_snoc left r (nextP puts x) d, and_assoc]
theorem rowFits_snoc : ∀ (ds : List Deed) (puts : Prs) (d : Deed), RowFits puts (ds ++ [d]) ↔ RowFits puts ds ∧ Fits (endP puts ds) d
  | [], puts, d => ⟨fun h => ⟨trivial, h.1⟩, fun h => ⟨h.2, trivial⟩⟩
  | x :: r, puts, d => by
    show Fits puts x ∧ RowFits (nextP puts x) (r ++ [d]) ↔ (Fits puts x ∧ RowFits (nextP puts x) r) ∧ Fits (endP (nextP puts x) r) d
    rw [rowFits_snoc r (nextP puts x) d, and_assoc]
theorem rowsLeft_snoc : ∀ (rows : List (List Deed)) (left : Str → V) (ds : List Deed), rowsLeft left (rows ++ [ds]) = readV (rowsLeft left rows) (endP [] ds)
  | [], left, ds => rfl
  | x :: r, left, ds => rowsLeft_snoc r (readV left (endP [] x)) ds
theorem rowsRight_snoc : ∀ (rows : List (List Deed)) (left : Str → V) (ds : List Deed), RowsRight left (rows ++ [ds]) ↔ RowsRight left rows ∧ RowRight (rowsLeft left rows) [] ds
  | [], left, ds => ⟨fun h => ⟨trivial, h.1⟩, fun h => ⟨h.2, trivial⟩⟩
  | x :: r, left, ds => by
    show RowRight left [] x ∧ RowsRight (readV left (endP [] x)) (r ++ [ds]) ↔ (RowRight left [] x ∧ RowsRight (readV left (endP [] x)) r) ∧ RowRight (rowsLeft (readV left (endP [] x)) r) [] ds
    rw [rowsRight_snoc r (readV left (endP [] x)) ds, and_assoc]
theorem rowsFit_snoc : ∀ (rows : List (List Deed)) (ds : List Deed), RowsFit (rows ++ [ds]) ↔ RowsFit rows ∧ RowFits [] ds
  | [], ds => ⟨fun h => ⟨trivial, h.1⟩, fun h => ⟨h.2, trivial⟩⟩
  | x :: r, ds => by
    show RowFits [] x ∧ RowsFit (r ++ [ds]) ↔ (RowFits [] x ∧ RowsFit r) ∧ RowFits [] ds
    rw [rowsFit_snoc r ds, and_assoc]
theorem ok_next {puts : Prs} {d : Deed} (h : Ok puts) (hd : DeedOk d) : Ok (nextP puts d) := by
  cases d with
  | read n v => exact h
  | under z ps => exact h
  | write n v =>
    refine ok_app h fun q hq => ?_
    rw [List.mem_singleton.mp hq]
    exact hd
  | back m => exact ok_take h m
theorem len_next (puts : Prs) (d : Deed) : (nextP puts d).length ≤ puts.length + 1 := by
  cases d with
  | read n v => exact Nat.le_succ _
  | under z ps => exact Nat.le_succ _
  | write n v =>
    show (puts ++ [(n, v)]).length ≤ _
    rw [List.length_append]
    exact Nat.le_refl _
  | back m =>
    show (puts.take m).length ≤ _
    rw [List.length_take]
    omega
def RowIn (G H : Hp) (a : Addr) (ds : List Deed) : Prop := ∃ es : List Addr, H a = some (.lst (es.map V.ref)) ∧ Paired (DeedAt G) es ds
theorem RowIn.mono {G G' H H' : Hp} {a : Addr} {ds : List Deed} (h : RowIn G H a ds) (s : Same G G') (k : ∀ o, H a = some o → H' a = some o) : RowIn G' H' a ds := by
  obtain ⟨es, h1, h2⟩ := h
  exact ⟨es, k _ h1, Paired.mono (fun _ _ e => e.mono s) h2⟩
theorem paired_app {α β : Type} {F : α → β → Prop} : ∀ {xs xs' : List α} {ys ys' : List β}, Paired F xs ys → Paired F xs' ys' → Paired F (xs ++ xs') (ys ++ ys')
  | _, _, _, _, .nil, h => h
  | _, _, _, _, .cons a t, h => .cons a (paired_app t h)
theorem paired_split {α β : Type} {F : α → β → Prop} : ∀ {xs : List α} {ys : List β} {z : β}, Paired F xs (ys ++ [z]) → ∃ as a, xs = as ++ [a] ∧ Paired F as ys ∧ F a z
  | _, [], z, .cons h .nil => ⟨[], _, rfl, .nil, h⟩
  | _, y :: ys, z, .cons h t => by
    obtain ⟨as, a, e, h1, h2⟩ := paired_split (ys := ys) t
    exact ⟨_ :: as, a, by rw [e]; rfl, .cons h h1, h2⟩
theorem paired_mem2 {α β : Type} {F G : α → β → Prop} : ∀ {xs : List α} {ys : List β}, Paired F xs ys → (∀ x y, x ∈ xs → y ∈ ys → F x y → G x y) → Paired G xs ys
  | _, _, .nil, _ => .nil
  | _, _, .cons h t, k => .cons (k _ _ List.mem_cons_self List.mem_cons_self h) (paired_mem2 t fun x y hx hy => k x y (List.mem_cons_of_mem _ hx) (List.mem_cons_of_mem _ hy))
theorem paired_take {α β : Type} {F : α → β → Prop} : ∀ {xs : List α} {ys : List β}, Paired F xs ys → ∀ k : Nat, Paired F (xs.take k) (ys.take k)
  | _, _, .nil, k => by
    rw [List.take_nil, List.take_nil]
    exact .nil
  | _, _, .cons h t, 0 => .nil
  | _, _, .cons h t, k + 1 => .cons h (paired_take t k)
theorem cutF_upd {M : Addr → Prop} {H H1 : Hp} {p : Addr} {o : HO} (h : M p) : Same (Cut M (Fresh H H1)) (Cut M (Fresh H (upd H1 p o))) := fun b u e => by
  obtain ⟨h1, h2⟩ := cut_iff.mp e
  obtain ⟨h3, h4⟩ := fresh_iff.mp h2
  exact cut_iff.mpr ⟨h1, fresh_iff.mpr ⟨h3, by rw [upd_ne (fun z => h1 (by rw [z]; exact h))]; exact h4⟩⟩
theorem cutF_same {M : Addr → Prop} {H H1 H2 : Hp} (s : Same H1 H2) : Same (Cut M (Fresh H H1)) (Cut M (Fresh H H2)) := cut_same (fresh_on s)
theorem cutF_new {M : Addr → Prop} {H H1 H2 : Hp} (s : Same H H1) (hM : ∀ b, M b → ∃ o, H1 b = some o) : Same (Fresh H1 H2) (Cut M (Fresh H H2)) := fun b o h => by
  obtain ⟨h1, h2⟩ := fresh_iff.mp h
  refine cut_iff.mpr ⟨fun z => ?_, fresh_iff.mpr ⟨s.free h1, h2⟩⟩
  obtain ⟨u, e⟩ := hM b z
  rw [h1] at e
  cases e
theorem cutF_grow {M M' : Addr → Prop} {H H1 H2 : Hp} (s : Same H1 H2) (g : ∀ b, M' b → M b ∨ H1 b = none) : Same (Cut M (Fresh H H1)) (Cut M' (Fresh H H2)) := fun b o h => by
  obtain ⟨h1, h2⟩ := cut_iff.mp h
  obtain ⟨h3, h4⟩ := fresh_iff.mp h2
  refine cut_iff.mpr ⟨fun z => ?_, fresh_iff.mpr ⟨h3, s _ _ h4⟩⟩
  rcases g b z with q | q
  · exact h1 q
  · rw [q] at h4
    cases h4
def Mu (R L p : Addr) (as : List Addr) (b : Addr) : Prop := b = R ∨ b = L ∨ b = p ∨ b ∈ as
/-- the rows at R, the last one cur under way; what is left at L, the writes at p -/
structure RB (H H' : Hp) (R L p : Addr) (as : List Addr) (rows : List (List Deed)) (m ps : Prs) : Prop where
  same : Same H H'
  nR : H R = none
  nL : H L = none
  np : H p = none
  na : ∀ a ∈ as, H a = none
  nd : as.Nodup
  dR : R ∉ as
  dp : p ∉ as
  dRp : R ≠ p
  hR : H' R = some (.lst (as.map V.ref))
  hL : H' L = some (.dK (dk m))
  ndm : (m.map (·.1)).Nodup
  row : Paired (RowIn (Cut (Mu R L p as) (Fresh H H')) H') as rows
  hp : ∃ qs : List Addr, H' p = some (.lst (qs.map V.ref)) ∧ Paired (fun (a : Addr) (q : Str × V) => Cut (Mu R L p as) (Fresh H H') a = some (.tup [.str q.1, q.2])) qs ps
  okm : Ok m
  okp : Ok ps
theorem RB.there (b : RB H H1 R L p as rows m ps) : ∀ c, Mu R L p as c → ∃ o, H1 c = some o := by
  rintro c (h | h | h | h)
  · exact ⟨_, by rw [h]; exact b.hR⟩
  · exact ⟨_, by rw [h]; exact b.hL⟩
  · obtain ⟨qs, h1, _⟩ := b.hp
    exact ⟨_, by rw [h]; exact h1⟩
  · obtain ⟨i, hi, e⟩ := List.getElem_of_mem h
    obtain ⟨ds, _, es, h1, _⟩ := paired_at b.row (List.getElem?_eq_getElem hi)
    exact ⟨_, by rw [← e]; exact h1⟩
theorem RB.dL (b : RB H H1 R L p as rows m ps) : L ≠ R ∧ L ≠ p ∧ L ∉ as := by
  refine ⟨fun e => ?_, fun e => ?_, fun h => ?_⟩
  · have h1 := b.hL
    rw [e, b.hR] at h1
    cases h1
  · obtain ⟨qs, h2, _⟩ := b.hp
    have h1 := b.hL
    rw [e, h2] at h1
    cases h1
  · obtain ⟨i, hi, e⟩ := List.getElem_of_mem h
    obtain ⟨ds, _, es, h2, _⟩ := paired_at b.row (List.getElem?_eq_getElem hi)
    have h1 := b.hL
    rw [← e, h2] at h1
    cases h1
/-- new things are laid -/
theorem RB.on (b : RB H H1 R L p as rows m ps) (s : Same H1 H2) : RB H H2 R L p as rows m ps := by
  have g := cutF_same (M := Mu R L p as) (H := H) s
  obtain ⟨qs, h1, h2⟩ := b.hp
  exact { b with same := b.same.trans s, hR := s _ _ b.hR, hL := s _ _ b.hL, row := Paired.mono (fun a ds e => e.mono g fun o q => s _ _ q) b.row, hp := ⟨qs, s _ _ h1, Paired.mono (fun a q e => g _ _ e) h2⟩ }
/-- the last row grows -/
theorem RB.add {done : List (List Deed)} {cur : List Deed} {a : Addr} {d : Deed} (b : RB H H1 R L p as (done ++ [cur]) m ps) (ha : DeedAt (Cut (Mu R L p as) (Fresh H H1)) a d) :
    ∃ (as' : List Addr) (r : Addr) (xs : List V), as = as' ++ [r] ∧ H1 r = some (.lst xs) ∧ xs.length = cur.length ∧ RB H (upd H1 r (.lst (xs ++ [.ref a]))) R L p as (done ++ [cur ++ [d]]) m ps := by
  obtain ⟨as', r, e, hd, es, hr, he⟩ := paired_split b.row
  have mr : Mu R L p as r := .inr (.inr (.inr (by rw [e]; simp)))
  have ra : r ∈ as := by rw [e]; simp
  have g := cutF_upd (M := Mu R L p as) (H := H) (H1 := H1) (o := .lst (es.map V.ref ++ [.ref a])) mr
  obtain ⟨qs, h1, h2⟩ := b.hp
  have nR : R ≠ r := fun z => b.dR (by rw [z]; exact ra)
  have np : p ≠ r := fun z => b.dp (by rw [z]; exact ra)
  have nL : L ≠ r := fun z => b.dL.2.2 (by rw [z]; exact ra)
  have nas : r ∉ as' := fun z => by
    have h3 := b.nd
    rw [e, List.nodup_append] at h3
    exact h3.2.2 r z r List.mem_cons_self rfl
  refine ⟨as', r, es.map V.ref, e, hr, by rw [List.length_map, he.length], ?_⟩
  refine { b with same := fun c o q => ?_, hR := by rw [upd_ne nR]; exact b.hR, hL := by rw [upd_ne nL]; exact b.hL, row := ?_, hp := ⟨qs, by rw [upd_ne np]; exact h1, Paired.mono (fun a q e => g _ _ e) h2⟩ }
  · rw [upd_ne (ne_of_none q (b.na r ra))]
    exact b.same _ _ q
  · have k1 : Paired (RowIn (Cut (Mu R L p as) (Fresh H (upd H1 r (.lst (es.map V.ref ++ [.ref a]))))) (upd H1 r (.lst (es.map V.ref ++ [.ref a])))) as' done :=
      paired_mem2 hd fun x ds hx _ q => q.mono g fun o z => by rw [upd_ne (fun y => nas (by rw [← y]; exact hx))]; exact z
    have k2 : RowIn (Cut (Mu R L p as) (Fresh H (upd H1 r (.lst (es.map V.ref ++ [.ref a]))))) (upd H1 r (.lst (es.map V.ref ++ [.ref a]))) r (cur ++ [d]) :=
      ⟨es ++ [a], by rw [upd_same, List.map_append]; rfl, paired_app (Paired.mono (fun _ _ z => z.mono g) he) (.cons (ha.mono g) .nil)⟩
    have k3 := paired_app k1 (.cons k2 .nil)
    rw [← e] at k3
    exact k3
/-- a write is noted: the tuple at t is new -/
theorem RB.put {t : Addr} {n : Str} {v : V} (b : RB H H1 R L p as rows m ps) (nt : H1 t = none) (hn : Name n) (hv : valueV v = true) :
    ∃ xs : List V, H1 p = some (.lst xs) ∧ xs.length = ps.length ∧ RB H (upd (upd H1 t (.tup [.str n, v])) p (.lst (xs ++ [.ref t]))) R L p as rows m (ps ++ [(n, v)]) := by
  have s := same_new (o := .tup [.str n, v]) nt
  have b1 := b.on s
  have mp : Mu R L p as p := .inr (.inr (.inl rfl))
  obtain ⟨qs, h1, h2⟩ := b1.hp
  have h0 : H1 p = some (.lst (qs.map V.ref)) := by
    obtain ⟨qs0, h3, _⟩ := b.hp
    have h4 := s _ _ h3
    rw [h1] at h4
    rw [h3, ← h4]
  have g := cutF_upd (M := Mu R L p as) (H := H) (H1 := upd H1 t (.tup [.str n, v])) (o := .lst (qs.map V.ref ++ [.ref t])) mp
  have nL := b.dL
  refine ⟨qs.map V.ref, h0, by rw [List.length_map, h2.length], ?_⟩
  refine { b1 with same := fun c o q => ?_, hR := by rw [upd_ne b.dRp]; exact b1.hR, hL := by rw [upd_ne nL.2.1]; exact b1.hL, row := ?_, hp := ⟨qs ++ [t], by rw [upd_same, List.map_append]; rfl, ?_⟩, okp := ok_app b.okp fun q hq => by rw [List.mem_singleton.mp hq]; exact ⟨hn, hv⟩ }
  · rw [upd_ne (ne_of_none q b.np)]
    exact b1.same _ _ q
  · exact paired_mem2 b1.row fun x ds hx _ q => q.mono g fun o z => by rw [upd_ne (fun y => b.dp (by rw [← y]; exact hx))]; exact z
  · refine paired_app (Paired.mono (fun a q e => g _ _ e) h2) (.cons ?_ .nil)
    refine g _ _ (cut_iff.mpr ⟨fun z => ?_, fresh_at (b.same.free nt)⟩)
    obtain ⟨o, ho⟩ := b.there t z
    rw [nt] at ho
    cases ho
/-- the writes are another list from here on -/
theorem RB.turn {p2 : Addr} {qs : List Addr} {ps2 : Prs} (b : RB H H1 R L p as rows m ps) (n2 : H1 p2 = none) (hq : Paired (fun (a : Addr) (q : Str × V) => Cut (Mu R L p as) (Fresh H H1) a = some (.tup [.str q.1, q.2])) qs ps2) (ok2 : Ok ps2) :
    RB H (upd H1 p2 (.lst (qs.map V.ref))) R L p2 as rows m ps2 := by
  have s := same_new (o := .lst (qs.map V.ref)) n2
  have b1 := b.on s
  have g : Same (Cut (Mu R L p as) (Fresh H H1)) (Cut (Mu R L p2 as) (Fresh H (upd H1 p2 (.lst (qs.map V.ref))))) := cutF_grow s (by
    rintro c (h | h | h | h)
    · exact .inl (.inl h)
    · exact .inl (.inr (.inl h))
    · exact .inr (by rw [h]; exact n2)
    · exact .inl (.inr (.inr (.inr h))))
  refine { b1 with np := b.same.free n2, dp := fun h => ?_, dRp := ne_of_none b.hR n2, row := paired_mem2 b.row fun x ds hx _ q => q.mono g fun o z => s _ _ z, hp := ⟨qs, upd_same, Paired.mono (fun a q e => g _ _ e) hq⟩, okp := ok2 }
  obtain ⟨o, ho⟩ := b.there p2 (.inr (.inr (.inr h)))
  rw [n2] at ho
  cases ho
/-- a new row -/
theorem RB.fresh {r : Addr} (b : RB H H1 R L p as rows m ps) (nr : H1 r = none) : RB H (upd (upd H1 r (.lst [])) R (.lst (as.map V.ref ++ [.ref r]))) R L p (as ++ [r]) (rows ++ [[]]) m ps := by
  have s := same_new (o := .lst []) nr
  have b1 := b.on s
  have hne : ∀ c, Mu R L p as c → c ≠ r := fun c hc z => by
    obtain ⟨o, ho⟩ := b.there c hc
    rw [z, nr] at ho
    cases ho
  have g1 : Same (Cut (Mu R L p as) (Fresh H H1)) (Cut (Mu R L p (as ++ [r])) (Fresh H (upd H1 r (.lst [])))) := cutF_grow s (by
    rintro c (h | h | h | h)
    · exact .inl (.inl h)
    · exact .inl (.inr (.inl h))
    · exact .inl (.inr (.inr (.inl h)))
    · rcases List.mem_append.mp h with h | h
      · exact .inl (.inr (.inr (.inr h)))
      · exact .inr (by rw [List.mem_singleton.mp h]; exact nr))
  have g := fun (c : Addr) (o : HO) e => cutF_upd (M := Mu R L p (as ++ [r])) (H := H) (H1 := upd H1 r (.lst [])) (o := .lst (as.map V.ref ++ [.ref r])) (.inl rfl) c o (g1 c o e)
  obtain ⟨qs, h1, h2⟩ := b.hp
  have nRr := hne R (.inl rfl)
  have npr := hne p (.inr (.inr (.inl rfl)))
  have nLr := hne L (.inr (.inl rfl))
  refine { b1 with same := fun c o q => ?_, na := ?_, nd := ?_, dR := ?_, dp := ?_, hR := by rw [upd_same, List.map_append]; rfl, hL := by rw [upd_ne b.dL.1]; exact b1.hL, row := ?_, hp := ⟨qs, by rw [upd_ne b.dRp.symm, upd_ne npr]; exact h1, Paired.mono (fun a q e => g _ _ e) h2⟩ }
  · rw [upd_ne (ne_of_none q b.nR)]
    exact b1.same _ _ q
  · intro c hc
    rcases List.mem_append.mp hc with h | h
    · exact b.na c h
    · rw [List.mem_singleton.mp h]
      exact b.same.free nr
  · rw [List.nodup_append]
    refine ⟨b.nd, List.nodup_cons.mpr ⟨by simp, List.nodup_nil⟩, fun x hx y hy => ?_⟩
    rw [List.mem_singleton.mp hy]
    exact hne x (.inr (.inr (.inr hx)))
  · intro h
    rcases List.mem_append.mp h with h | h
    · exact b.dR h
    · exact nRr (List.mem_singleton.mp h)
  · intro h
    rcases List.mem_append.mp h with h | h
    · exact b.dp h
    · exact npr (List.mem_singleton.mp h)
  · refine paired_app (paired_mem2 b.row fun x ds hx _ q => q.mono g fun o z => ?_) (.cons ⟨[], by rw [upd_ne nRr.symm, upd_same]; rfl, .nil⟩ .nil)
    rw [upd_ne (fun y => b.dR (by rw [← y]; exact hx)), upd_ne (hne x (.inr (.inr (.inr hx))))]
    exact z
/-- the dealing's writes are left -/
theorem RB.leave {l : Prs} (b : RB H H1 R L p as rows m ps) (ok : Ok l) : RB H (upd H1 L (.dK (mergeK (dk m) (dk l)))) R L p as rows (putAll m l) ps := by
  have mL : Mu R L p as L := .inr (.inl rfl)
  have g := cutF_upd (M := Mu R L p as) (H := H) (H1 := H1) (o := .dK (mergeK (dk m) (dk l))) mL
  obtain ⟨qs, h1, h2⟩ := b.hp
  have d := b.dL
  refine { b with same := fun c o q => ?_, hR := by rw [upd_ne d.1.symm]; exact b.hR, hL := by rw [upd_same, dk_merge], ndm := putAll_keys l b.ndm, row := ?_, hp := ⟨qs, by rw [upd_ne d.2.1.symm]; exact h1, Paired.mono (fun a q e => g _ _ e) h2⟩, okm := ok_putAll b.okm ok }
  · rw [upd_ne (ne_of_none q b.nL)]
    exact b.same _ _ q
  · exact paired_mem2 b.row fun x ds hx _ q => q.mono g fun o z => by rw [upd_ne (fun y => d.2.2 (by rw [← y]; exact hx))]; exact z
/-- the made rows: what is said of them -/
structure Made (rows : List (List Deed)) (m : Prs) : Prop where
  ok : ∀ ds ∈ rows, ∀ d ∈ ds, Fine d
  ne : rows ≠ []
  fit : RowsFit rows
  right : RowsRight noLeft rows
  left : rowsLeft noLeft rows = tells m
  lr : rows.length ≤ 300
  ld : ∀ ds ∈ rows, ds.length ≤ 300
  lm : m.length ≤ 100000
def sp_law_rows_by (K : PySem.W.Frag) : Sp := fun vs H Q _ => ∃ (c po : Addr) (ns : List Int) (zs : List Str), vs = [.ref c, .ref po] ∧ SqL K H c (ns.map V.int) ∧ Pool H po zs ∧ ns.length ≤ 100 ∧
  ∀ (t R L p : Addr) (as : List Addr) (rows : List (List Deed)) (m ps : Prs) (H' : Hp), RB H H' R L p as rows m ps → H t = none → H' t = some (.tup [.ref R, .ref L]) → Made rows m → Q (.ref t) H'
/-- a reading of the same name or head -/
def SameKind : Deed → Deed → Prop
  | .read n _, .read m _ => n = m
  | .under h _, .under g _ => h = g
  | _, _ => False
def Prd (G : Hp) : List Addr → Prs → Prop := Paired fun (a : Addr) (q : Str × V) => G a = some (.tup [.str q.1, q.2])
theorem Prd.mono {G G' : Hp} {as : List Addr} {ps : Prs} (h : Prd G as ps) (s : Same G G') : Prd G' as ps := Paired.mono (fun a q e => s _ _ e) h
theorem Prd.app {G : Hp} {as bs : List Addr} {ps qs : Prs} (a : Prd G as ps) (b : Prd G bs qs) : Prd G (as ++ bs) (ps ++ qs) := paired_app a b
theorem paired_drop {α β : Type} {F : α → β → Prop} : ∀ {xs : List α} {ys : List β}, Paired F xs ys → ∀ k : Nat, Paired F (xs.drop k) (ys.drop k)
  | _, _, .nil, k => by
    rw [List.drop_nil, List.drop_nil]
    exact .nil
  | _, _, .cons h t, 0 => .cons h t
  | _, _, .cons h t, k + 1 => paired_drop t k
theorem paired_rev {α β : Type} {F : α → β → Prop} : ∀ {xs : List α} {ys : List β}, Paired F xs ys → Paired F xs.reverse ys.reverse
  | _, _, .nil => .nil
  | _, _, .cons h t => by
    rw [List.reverse_cons, List.reverse_cons]
    exact paired_app (paired_rev t) (.cons h .nil)
theorem cutR_to (as : List Addr) (k : Nat) (h : k ≤ as.length) : cutV (as.map V.ref) none (some (k : Int)) = (as.take k).map V.ref := by
  unfold cutV
  rw [HT.sIx_none, HT.sIx_nat, List.drop_zero, Nat.sub_zero, List.length_map, Nat.min_eq_left h, List.map_take]
theorem cutR_from (as : List Addr) (k : Nat) (h : k ≤ as.length) : cutV (as.map V.ref) (some (k : Int)) none = (as.drop k).map V.ref := by
  unfold cutV
  rw [HT.sIx_none, HT.sIx_nat, List.length_map, Nat.min_eq_left h, List.take_of_length_le (by rw [List.length_drop, List.length_map]; omega), List.map_drop]
theorem ok_drop {a : Prs} (ha : Ok a) (k : Nat) : Ok (a.drop k) := fun q hq => ha q (List.mem_of_mem_drop hq)
theorem psD_nil (ps : Prs) : PyData.eqv (psD ps) (.list []) = decide (ps = []) := by
  cases ps with
  | nil => rfl
  | cons q r => rfl
theorem zz_name : Name (Str.ofString "zz") := ⟨fun c hc => by
  have e : c = 122 := by simpa using (show c ∈ [122, 122] from hc)
  rw [e]
  decide +kernel, by decide, by decide⟩
theorem q_name {z : Str} (h : Name z) : Name (cutS (Str.ofString "q" ++ z) none (some 12)) := by
  have hq : Good (Str.ofString "q") := fun c hc => by
    have e : c = 113 := by simpa using (show c ∈ [113] from hc)
    rw [e]
    decide +kernel
  exact cut_name (good_app hq h.good) 12 (by omega) (by omega) (by rw [len_app]; have := h.lo; omega)
def sp_law_spoiled : Sp := fun vs H Q _ => ∃ (M : Addr → Prop) (a : Addr) (d : Deed) (x : Int), vs = [.ref a, .int x] ∧ (∀ b, M b → ∃ o, H b = some o) ∧ DeedAt (Cut M H) a d ∧ DeedOk d ∧ IsReading d ∧
  ∀ (t : Addr) (d' : Deed) (H' : Hp), Same H H' → H t = none → DeedAt (Cut M H') t d' → DeedOk d' → SameKind d d' → Q (.ref t) H'
theorem new_cut {M : Addr → Prop} {H H' : Hp} {c : Addr} {o : HO} (hM : ∀ b, M b → ∃ o, H b = some o) (n : H c = none) (h : H' c = some o) : Cut M H' c = some o := by
  refine cut_iff.mpr ⟨fun z => ?_, h⟩
  obtain ⟨u, e⟩ := hM _ z
  rw [n] at e
  cases e
theorem str_dec {x y : Str} (h : decide (x = y) = false) : decide (V.str x = V.str y) = false := decide_eq_false fun e => by
  rw [V.str.inj e, decide_eq_true rfl] at h
  cases h
theorem sqT_mono {K : PySem.W.Frag} {H H' : Hp} (s : Same H H') {a : Addr} {xs : List V} (h : SqT K H a xs) : SqT K H' a xs := by
  rcases h with h | h
  · refine .inl ?_
    rcases h with h | ⟨o, h⟩
    · exact .inl (s _ _ h)
    · exact .inr ⟨o, s _ _ h⟩
  · exact .inr h
mutual
theorem dp_mono {K : PySem.W.Frag} {H H' : Hp} (s : Same H H') : ∀ {v : V} {d : PyData}, Dp K H v d → Dp K H' v d
  | _, _, .non => .non
  | _, _, .bl b => .bl b
  | _, _, .int i => .int i
  | _, _, .str x => .str x
  | _, _, .lst h t => .lst (s.seq h) (dpAll_mono s t)
  | _, _, .tup h t => .tup (sqT_mono s h) (dpAll_mono s t)
theorem dpAll_mono {K : PySem.W.Frag} {H H' : Hp} (s : Same H H') : ∀ {vs : List V} {ds : List PyData}, DpAll K H vs ds → DpAll K H' vs ds
  | _, _, .nil => .nil
  | _, _, .cons h t => .cons (dp_mono s h) (dpAll_mono s t)
end
def sp_law_copied : Sp := fun vs H Q _ => ∃ (M : Addr → Prop) (a : Addr) (d : Deed), vs = [.ref a] ∧ (∀ b, M b → ∃ o, H b = some o) ∧ DeedAt (Cut M H) a d ∧
  ∀ (t : Addr) (H' : Hp), Same H H' → DeedAt (Cut M H') t d → Q (.ref t) H'
/-- a row's deeds as data -/
def dsD (ds : List Deed) : PyData := .list (ds.map fun d => .list (dD d))
def rsD (rs : List (List Deed)) : PyData := .list (rs.map dsD)
theorem dsD_sd {ds : List Deed} (ok : ∀ d ∈ ds, DeedOk d) : Sd (dsD ds) 4 := sd_list fun x hx => by
  obtain ⟨d, hd, e⟩ := List.mem_map.mp hx
  rw [← e]
  exact sd_list (dD_sd (ok d hd))
theorem rsD_sd {rs : List (List Deed)} (ok : ∀ ds ∈ rs, ∀ d ∈ ds, DeedOk d) : Sd (rsD rs) 5 := sd_list fun x hx => by
  obtain ⟨d, hd, e⟩ := List.mem_map.mp hx
  rw [← e]
  exact dsD_sd (ok d hd)
theorem dsD_plain {ds : List Deed} (ok : ∀ d ∈ ds, DeedOk d) : plain (dsD ds) = true := plainAll_of fun x hx => by
  obtain ⟨d, hd, e⟩ := List.mem_map.mp hx
  rw [← e]
  exact dD_plain (ok d hd)
theorem rsD_plain {rs : List (List Deed)} (ok : ∀ ds ∈ rs, ∀ d ∈ ds, DeedOk d) : plain (rsD rs) = true := plainAll_of fun x hx => by
  obtain ⟨d, hd, e⟩ := List.mem_map.mp hx
  rw [← e]
  exact dsD_plain (ok d hd)
/-- the deeds of a row, listed -/
def ListsAt (K : PySem.W.Frag) (H : Hp) (a : Addr) (ds : List Deed) : Prop := ∃ es : List Addr, H a = some (.lst (es.map V.ref)) ∧ Paired (fun (e : Addr) (d : Deed) => ∃ xs, H e = some (.lst xs) ∧ DpAll K H xs (dD d)) es ds
theorem ListsAt.mono {K : PySem.W.Frag} {H H' : Hp} {a : Addr} {ds : List Deed} (h : ListsAt K H a ds) (s : Same H H') : ListsAt K H' a ds := by
  obtain ⟨es, h1, h2⟩ := h
  exact ⟨es, s _ _ h1, Paired.mono (fun e d ⟨xs, k1, k2⟩ => ⟨xs, s _ _ k1, dpAll_mono s k2⟩) h2⟩
theorem ListsAt.dp {K : PySem.W.Frag} {H : Hp} {a : Addr} {ds : List Deed} (h : ListsAt K H a ds) : Dp K H (.ref a) (dsD ds) := by
  obtain ⟨es, h1, h2⟩ := h
  exact .lst (SqL.of h1) (dp_paired (Paired.mono (fun e d ⟨xs, k1, k2⟩ => .lst (SqL.of k1) k2) h2))
def sp_law_alike : Sp := fun vs H Q _ => ∃ (a b : Addr) (rs : List (List Deed)), vs = [.ref a, .ref b] ∧ RowsAt H a rs ∧ RowsAt H b rs ∧ (∀ ds ∈ rs, ∀ d ∈ ds, DeedOk d) ∧ rs.length ≤ 1000000 ∧ (∀ ds ∈ rs, ds.length ≤ 1000000) ∧ ∀ H', Same H H' → Q (.bl true) H'
theorem paired_snoc {α β : Type} {F : α → β → Prop} {xs : List α} {ys : List β} {x : α} {y : β} (h : Paired F xs ys) (k : F x y) : Paired F (xs ++ [x]) (ys ++ [y]) := paired_app h (.cons k .nil)
theorem take_snoc {α : Type} {xs : List α} {i : Nat} {x : α} (h : xs[i]? = some x) : xs.take (i + 1) = xs.take i ++ [x] := by
  rw [List.take_succ, h]
  rfl
theorem refs_at {as : List Addr} {i : Nat} {v : V} (h : (as.map V.ref)[i]? = some v) : ∃ a, v = .ref a ∧ as[i]? = some a := by
  rw [List.getElem?_map] at h
  cases e : as[i]? with
  | none =>
    rw [e] at h
    cases h
  | some z =>
    rw [e] at h
    exact ⟨z, (Option.some.inj h).symm, rfl⟩
/-- `[list(d) for d in ds]` -/
theorem lists_row {K : PySem.W.Frag} {σ : L2.St} {H : Hp} {R : VK} {M : Addr → Prop} {e : Addr} {ds : List Deed} (i j : Nat) (h0 : (wipe σ [j])[i]? = some (some (.ref e))) (hM : ∀ b, M b → ∃ o, H b = some o) (h : DeedsAt (Cut M H) e ds)
    (ok : ∀ d ∈ ds, DeedOk d) (hl : ds.length ≤ 1000000) (hj : j < σ.length) (q : ∀ (D : Addr) (H' : Hp), Same H H' → H D = none → ListsAt K (Cut M H') D ds → R (.ref D) H') (h1 : σ[i]? = some (some (.ref e))) :
    tLc (iList K (tVar i)) (gName j) tYes (tCB (fun xs H Q => ∃ p ys, xs = [V.ref p] ∧ (SqL K H p ys ∨ SqT K H p ys) ∧ ∀ l : Addr, H l = none → Q (.ref l) (upd H l (.lst ys))) (tCons (tVar j) tNil)) [j] σ H R := by
  obtain ⟨as, ha1, ha2⟩ := h
  have ha := (cut_iff.mp ha1).2
  refine ⟨_, h1, e, rfl, ⟨_, SqL.of ha⟩, fun D nD => lc_list (K := K) (a := e) (xs := as.map V.ref) (fun i H' => Same H H' ∧ ∃ es : List Addr, H' D = some (.lst (es.map V.ref)) ∧ Paired (fun (e : Addr) (d : Deed) => ∃ xs, Cut (fun b => M b ∨ b = D) H' e = some (.lst xs) ∧ DpAll K (Cut M H) xs (dD d)) es (ds.take i)) ⟨same_new nD, [], upd_same, .nil⟩
      (fun i H' _ h => SqL.of (h.1 _ _ ha)) ?_ ?_⟩
  · rintro i x H' hx ⟨s1, es, hD, hP⟩
    obtain ⟨c, rfl, hc⟩ := refs_at hx
    obtain ⟨d, hd, hda⟩ := paired_at ha2 hc
    obtain ⟨xs, hx1, hx2, _⟩ := hda.items (K := K) (ok d (List.mem_of_getElem? hd))
    have hx3 := s1 _ _ (cut_iff.mp hx1).2
    refine ⟨?_, _, ?_, c, _, rfl, .inr (SqT.of hx3), fun l nl => ⟨_, (same_new nl) _ _ hD, ?_, ?_, es ++ [l], ?_, ?_⟩⟩
    · show ((σ.set j none).set j (some (V.ref c))).set j none = σ.set j none
      rw [List.set_set, List.set_set]
    · have hj2 : j < (wipe σ [j]).length := by
        show j < (σ.set j none).length
        rw [List.length_set]
        exact hj
      rw [List.getElem?_set_self hj2]
    · rw [List.length_map, hP.length, List.length_take]
      exact Nat.lt_of_le_of_lt (by omega : _ ≤ 1000000) (by decide)
    · intro b o z
      have h9 := (same_new (o := .lst xs) nl) _ _ (s1 _ _ z)
      rw [upd_ne (ne_of_none z nD)]
      exact h9
    · rw [upd_same, List.map_append]
      rfl
    · rw [take_snoc hd]
      have g : Same (Cut (fun b => M b ∨ b = D) H') (Cut (fun b => M b ∨ b = D) (upd (upd H' l (.lst xs)) D (.lst (es.map V.ref ++ [.ref l])))) := fun b o z => cut_upd (.inr rfl) b o (cut_same (same_new nl) b o z)
      refine paired_snoc (Paired.mono (fun a b ⟨ys, k1, k2⟩ => ⟨ys, g _ _ k1, k2⟩) hP) ⟨xs, cut_iff.mpr ⟨fun z => ?_, ?_⟩, hx2⟩
      · rcases z with z | z
        · obtain ⟨o, ho⟩ := hM l z
          rw [s1.free nl] at ho
          cases ho
        · rw [z, hD] at nl
          cases nl
      · rw [upd_ne (fun z => by rw [z, hD] at nl; cases nl)]
        exact upd_same
  · rintro H' ⟨s1, es, hD, hP⟩
    have el : (ds.take (as.map V.ref).length) = ds := by rw [List.length_map, ha2.length, List.take_length]
    rw [el] at hP
    refine q D H' s1 nD ⟨es, new_cut hM nD hD, Paired.mono (fun a b ⟨ys, k1, k2⟩ => ⟨ys, ?_, ?_⟩) hP⟩
    · exact cut_iff.mpr ⟨fun z => (cut_iff.mp k1).1 (.inl z), (cut_iff.mp k1).2⟩
    · exact dpAll_mono (cut_same s1) k2
/-- a part of the heap that the program may change, and what holds of it -/
structure Foot where
  M : Addr → Prop
  W : Hp → Prop
  keep : ∀ H H' : Hp, (∀ b, M b → H' b = H b) → W H → W H'
  has : ∀ H b, W H → M b → ∃ o, H b = some o
structure On (F : Foot) (H H' : Hp) : Prop where
  w : F.W H'
  s : Same (Cut F.M H) (Cut F.M H')
theorem On.refl {F : Foot} {H : Hp} (h : F.W H) : On F H H := ⟨h, Same.refl _⟩
theorem On.trans {F : Foot} {H H1 H2 : Hp} (a : On F H H1) (b : On F H1 H2) : On F H H2 := ⟨b.w, a.s.trans b.s⟩
theorem On.of {F : Foot} {H H' : Hp} (w : F.W H) (s : Same H H') : On F H H' := ⟨F.keep H H' (fun b hb => by
  obtain ⟨o, ho⟩ := F.has H b w hb
  rw [ho, s _ _ ho]) w, cut_same s⟩
/-- what `walked` does with right rows of deeds -/
def sp_walked (F : Foot) (C : Er → Addr) : Sp := fun vs H Q E => ∃ (a : Addr) (rs : List (List Deed)), vs = [.ref a] ∧ F.W H ∧ RowsAt (Cut F.M H) a rs ∧ (∀ ds ∈ rs, ∀ d ∈ ds, DeedOk d) ∧ RowsFit rs ∧ rs.length ≤ 300 ∧ (∀ ds ∈ rs, ds.length ≤ 300) ∧
  (RowsRight noLeft rs → ∀ (p : Addr) (ps : Prs) (H' : Hp), On F H H' → PairsAt (Cut F.M H') p ps → IsTold (rowsLeft noLeft rs) "" ps → Q (.ref p) H') ∧
  (¬ RowsRight noLeft rs → ∀ H' : Hp, On F H H' → E (.ref (C .unlike)) none H')
def sp_law_refused_by_any (F : Foot) : Sp := fun vs H Q _ => ∃ (a : Addr) (rs : List (List Deed)), vs = [.ref a] ∧ F.W H ∧ RowsAt (Cut F.M H) a rs ∧ (∀ ds ∈ rs, ∀ d ∈ ds, DeedOk d) ∧ RowsFit rs ∧ rs.length ≤ 300 ∧ (∀ ds ∈ rs, ds.length ≤ 300) ∧
  ¬ RowsRight noLeft rs ∧ ∀ H' : Hp, Q (.bl true) H'
theorem paired_of {α β : Type} {F : α → β → Prop} : ∀ {xs : List α} {ys : List β}, xs.length = ys.length → (∀ (i : Nat) (x : α) (y : β), xs[i]? = some x → ys[i]? = some y → F x y) → Paired F xs ys
  | [], [], _, _ => .nil
  | [], _ :: _, e, _ => by cases e
  | _ :: _, [], e, _ => by cases e
  | x :: xs, y :: ys, e, h => .cons (h 0 x y rfl rfl) (paired_of (Nat.succ.inj e) fun i a b ha hb => h (i + 1) a b (by simpa using ha) (by simpa using hb))
theorem paired_upd {α β : Type} {F G : α → β → Prop} {xs : List α} {ys : List β} {j : Nat} {y' : β} (h : Paired F xs ys) (k : ∀ (i : Nat) (x : α) (y : β), xs[i]? = some x → ys[i]? = some y → i ≠ j → F x y → G x y) (n : ∀ x, xs[j]? = some x → G x y') :
    Paired G xs (ys.set j y') := by
  refine paired_of (by rw [List.length_set, h.length]) fun i x y hx hy => ?_
  rw [List.getElem?_set] at hy
  by_cases e : j = i
  · rw [if_pos e] at hy
    by_cases l : j < ys.length
    · rw [if_pos (by omega)] at hy
      cases hy
      exact n x (by rw [e]; exact hx)
    · rw [if_neg (by omega)] at hy
      cases hy
  · rw [if_neg e] at hy
    obtain ⟨y2, h2, h3⟩ := paired_at h hx
    rw [hy] at h2
    cases h2
    exact k i x y hx hy (fun z => e z.symm) h3
theorem nodup_at {α : Type} : ∀ {xs : List α} {i j : Nat} {x : α}, xs.Nodup → xs[i]? = some x → xs[j]? = some x → i = j
  | [], i, j, x, _, h, _ => by simp at h
  | y :: r, 0, 0, x, _, _, _ => rfl
  | y :: r, 0, j + 1, x, n, h1, h2 => by
    rw [List.nodup_cons] at n
    have e : y = x := by simpa using h1
    exact absurd (List.mem_of_getElem? (by simpa using h2)) (by rw [← e]; exact n.1)
  | y :: r, i + 1, 0, x, n, h1, h2 => by
    rw [List.nodup_cons] at n
    have e : y = x := by simpa using h2
    exact absurd (List.mem_of_getElem? (by simpa using h1)) (by rw [← e]; exact n.1)
  | y :: r, i + 1, j + 1, x, n, h1, h2 => by
    rw [List.nodup_cons] at n
    exact congrArg (· + 1) (nodup_at (i := i) (j := j) n.2 (by simpa using h1) (by simpa using h2))
/-- one deed is another -/
theorem RB.swap {j k : Nat} {r t : Addr} {ds : List Deed} {d' : Deed} (b : RB H H1 R L p as rows m ps) (hj : as[j]? = some r) (hd : rows[j]? = some ds) (h : DeedAt (Cut (Mu R L p as) (Fresh H H1)) t d') :
    ∃ es : List Addr, H1 r = some (.lst (es.map V.ref)) ∧ es.length = ds.length ∧ RB H (upd H1 r (.lst ((es.set k t).map V.ref))) R L p as (rows.set j (ds.set k d')) m ps := by
  obtain ⟨ds2, hd2, es, hr, he⟩ := paired_at b.row hj
  rw [hd] at hd2
  cases hd2
  have ra := List.mem_of_getElem? hj
  have mr : Mu R L p as r := .inr (.inr (.inr ra))
  have g := cutF_upd (M := Mu R L p as) (H := H) (H1 := H1) (o := .lst ((es.set k t).map V.ref)) mr
  obtain ⟨qs, h1, h2⟩ := b.hp
  have nR : R ≠ r := fun z => b.dR (by rw [z]; exact ra)
  have np : p ≠ r := fun z => b.dp (by rw [z]; exact ra)
  have nL : L ≠ r := fun z => b.dL.2.2 (by rw [z]; exact ra)
  refine ⟨es, hr, he.length, ?_⟩
  refine { b with same := fun c o q => ?_, hR := by rw [upd_ne nR]; exact b.hR, hL := by rw [upd_ne nL]; exact b.hL, row := ?_, hp := ⟨qs, by rw [upd_ne np]; exact h1, Paired.mono (fun a q e => g _ _ e) h2⟩ }
  · rw [upd_ne (ne_of_none q (b.na r ra))]
    exact b.same _ _ q
  · refine paired_upd b.row (fun i x y hx hy hij q => q.mono g fun o z => ?_) fun x hx => ?_
    · rw [upd_ne (fun y => hij (nodup_at b.nd hx (by rw [y]; exact hj)))]
      exact z
    · rw [hj] at hx
      cases hx
      refine ⟨es.set k t, upd_same, paired_of (by rw [List.length_set, List.length_set, he.length]) fun i x y hx hy => ?_⟩
      rw [List.getElem?_set] at hx hy
      by_cases e : k = i
      · rw [if_pos e] at hx hy
        by_cases l : k < es.length
        · rw [if_pos (by omega)] at hx
          rw [if_pos (by rw [← he.length]; omega)] at hy
          cases hx
          cases hy
          exact h.mono g
        · rw [if_neg (by omega)] at hx
          cases hx
      · rw [if_neg e] at hx hy
        obtain ⟨y2, k2, k3⟩ := paired_at he hx
        rw [hy] at k2
        cases k2
        exact k3.mono g
/-- the rows and what is left lie outside what stood -/
theorem RB.out {M : Addr → Prop} (b : RB H H1 R L p as rows m ps) (hM : ∀ c, M c → ∃ o, H c = some o) : RowsAt (Cut M H1) R rows ∧ DictAt (Cut M H1) L m := by
  have g : Same (Cut (Mu R L p as) (Fresh H H1)) (Cut M H1) := fun c o h => new_cut hM (fresh_iff.mp (cut_iff.mp h).2).1 (fresh_iff.mp (cut_iff.mp h).2).2
  refine ⟨⟨as, new_cut hM b.nR b.hR, paired_mem2 b.row fun x y hx _ h => ?_⟩, new_cut hM b.nL b.hL, b.ndm⟩
  obtain ⟨es, h1, h2⟩ := h
  exact ⟨es, new_cut hM (b.na x hx) h1, Paired.mono (fun a d z => z.mono g) h2⟩
theorem next_reading {puts : Prs} {d : Deed} (h : IsReading d) : nextP puts d = puts := by
  cases d with
  | read n v => rfl
  | under g ps => rfl
  | write n v => exact h.elim
  | back k => exact h.elim
theorem kind_reading {d d' : Deed} (h : SameKind d d') : nextP puts d' = puts ∧ nextP puts d = puts := by
  cases d <;> cases d' <;> first | exact h.elim | exact ⟨rfl, rfl⟩
theorem kind_fits {d d' : Deed} {puts : Prs} (h : SameKind d d') : Fits puts d' := by
  cases d <;> cases d' <;> first | exact h.elim | exact trivial
theorem kind_right {left : Str → V} {puts : Prs} {d d' : Deed} (h : SameKind d d') (a : Right left puts d) (b : Right left puts d') : d' = d := by
  cases d <;> cases d' <;> first | exact h.elim | skip
  · have h2 : _ = _ := h
    have a2 : readV left puts _ = _ := a
    have b2 : readV left puts _ = _ := b
    rw [← h2] at b2
    rw [← b2, ← a2, h2]
  · have h2 : _ = _ := h
    have a2 : IsTold _ _ _ := a
    have b2 : IsTold _ _ _ := b
    rw [← h2] at b2
    rw [b2.unique a2, h2]
theorem rowFits_set {d d' : Deed} (h : SameKind d d') : ∀ {ds : List Deed} {k : Nat} {puts : Prs}, ds[k]? = some d → RowFits puts ds → RowFits puts (ds.set k d')
  | [], k, puts, e, _ => by simp at e
  | x :: r, 0, puts, e, f => by
    have ex : x = d := by simpa using e
    subst ex
    have k1 := kind_reading (puts := puts) h
    have f2 : RowFits (nextP puts x) r := f.2
    rw [k1.2, ← k1.1] at f2
    exact ⟨kind_fits h, f2⟩
  | x :: r, k + 1, puts, e, f => ⟨f.1, rowFits_set h (by simpa using e) f.2⟩
theorem rowRight_set {left : Str → V} {d d' : Deed} (h : SameKind d d') : ∀ {ds : List Deed} {k : Nat} {puts : Prs}, ds[k]? = some d → RowRight left puts ds → RowRight left puts (ds.set k d') → d' = d
  | [], k, puts, e, _, _ => by simp at e
  | x :: r, 0, puts, e, f, g => by
    have ex : x = d := by simpa using e
    subst ex
    exact kind_right h f.1 g.1
  | x :: r, k + 1, puts, e, f, g => rowRight_set h (by simpa using e) f.2 g.2
theorem rowsFit_set {d d' : Deed} (h : SameKind d d') : ∀ {rows : List (List Deed)} {j k : Nat} {ds : List Deed}, rows[j]? = some ds → ds[k]? = some d → RowsFit rows → RowsFit (rows.set j (ds.set k d'))
  | [], j, k, ds, e, _, _ => by simp at e
  | x :: r, 0, k, ds, e, e2, f => by
    have ex : x = ds := by simpa using e
    subst ex
    exact ⟨rowFits_set h e2 f.1, f.2⟩
  | x :: r, j + 1, k, ds, e, e2, f => ⟨f.1, rowsFit_set h (by simpa using e) e2 f.2⟩
theorem rowsRight_set {d d' : Deed} (h : SameKind d d') : ∀ {rows : List (List Deed)} {j k : Nat} {ds : List Deed} {left : Str → V}, rows[j]? = some ds → ds[k]? = some d → RowsRight left rows → RowsRight left (rows.set j (ds.set k d')) → d' = d
  | [], j, k, ds, left, e, _, _, _ => by simp at e
  | x :: r, 0, k, ds, left, e, e2, f, g => by
    have ex : x = ds := by simpa using e
    subst ex
    exact rowRight_set h e2 f.1 g.1
  | x :: r, j + 1, k, ds, left, e, e2, f, g => rowsRight_set h (by simpa using e) e2 f.2 g.2
theorem set_at_same {α : Type} : ∀ {xs : List α} {i : Nat} {x : α}, xs[i]? = some x → xs.set i x = xs
  | [], i, x, e => by simp at e
  | y :: r, 0, x, e => by
    have ex : y = x := by simpa using e
    rw [ex]
    rfl
  | y :: r, i + 1, x, e => by
    show y :: r.set i x = y :: r
    rw [set_at_same (by simpa using e)]
/-- `[_law_copied(d) for d in ds]` -/
theorem copy_row {σ : L2.St} {H : Hp} {R : VK} {M : Addr → Prop} {e : Addr} {ds : List Deed} (i j : Nat) (h0 : (wipe σ [j])[i]? = some (some (.ref e))) (hM : ∀ b, M b → ∃ o, H b = some o) (h : DeedsAt (Cut M H) e ds)
    (hl : ds.length ≤ 1000000) (hj : j < σ.length) (q : ∀ (D : Addr) (H' : Hp), Same H H' → H D = none → DeedsAt (Cut M H') D ds → R (.ref D) H') (h1 : σ[i]? = some (some (.ref e))) :
    tLc (iList K (tVar i)) (gName j) tYes (tCall sp_law_copied [] E0 (tCons (tVar j) tNil)) [j] σ H R := by
  obtain ⟨as, ha1, ha2⟩ := h
  have ha := (cut_iff.mp ha1).2
  refine ⟨_, h1, e, rfl, ⟨_, SqL.of ha⟩, fun D nD => lc_list (K := K) (a := e) (xs := as.map V.ref) (fun i H' => Same H H' ∧ ∃ es : List Addr, H' D = some (.lst (es.map V.ref)) ∧ Paired (DeedAt (Cut (fun b => M b ∨ b = D) H')) es (ds.take i)) ⟨same_new nD, [], upd_same, .nil⟩
      (fun i H' _ h => SqL.of (h.1 _ _ ha)) ?_ ?_⟩
  · rintro i x H' hx ⟨s1, es, hD, hP⟩
    obtain ⟨c, rfl, hc⟩ := refs_at hx
    obtain ⟨d, hd, hda⟩ := paired_at ha2 hc
    have hM2 : ∀ b, M b ∨ b = D → ∃ o, H' b = some o := fun b z => by
      rcases z with z | z
      · obtain ⟨o, ho⟩ := hM b z
        exact ⟨o, s1 _ _ ho⟩
      · rw [z]
        exact ⟨_, hD⟩
    have g1 : Same (Cut M H) (Cut (fun b => M b ∨ b = D) H') := fun b o z => by
      refine cut_iff.mpr ⟨fun y => ?_, s1 _ _ (cut_iff.mp z).2⟩
      rcases y with y | y
      · exact (cut_iff.mp z).1 y
      · have z2 := (cut_iff.mp z).2
        rw [y, nD] at z2
        cases z2
    refine ⟨?_, _, ?_, fun b => M b ∨ b = D, c, d, rfl, hM2, hda.mono g1, fun t H2 s2 ht => ⟨_, s2 _ _ hD, ?_, ?_, es ++ [t], ?_, ?_⟩⟩
    · show ((σ.set j none).set j (some (V.ref c))).set j none = σ.set j none
      rw [List.set_set, List.set_set]
    · have hj2 : j < (wipe σ [j]).length := by
        show j < (σ.set j none).length
        rw [List.length_set]
        exact hj
      rw [List.getElem?_set_self hj2]
    · rw [List.length_map, hP.length, List.length_take]
      exact Nat.lt_of_le_of_lt (by omega : _ ≤ 1000000) (by decide)
    · intro b o z
      rw [upd_ne (ne_of_none z nD)]
      exact s2 _ _ (s1 _ _ z)
    · rw [upd_same, List.map_append]
      rfl
    · rw [take_snoc hd]
      have g : Same (Cut (fun b => M b ∨ b = D) H2) (Cut (fun b => M b ∨ b = D) (upd H2 D (.lst (es.map V.ref ++ [.ref t])))) := cut_upd (.inr rfl)
      exact paired_snoc (Paired.mono (fun a b z => (z.mono (cut_same s2)).mono g) hP) (ht.mono g)
  · rintro H' ⟨s1, es, hD, hP⟩
    have el : (ds.take (as.map V.ref).length) = ds := by rw [List.length_map, ha2.length, List.take_length]
    rw [el] at hP
    exact q D H' s1 nD ⟨es, new_cut hM nD hD, Paired.mono (fun a b z => z.mono fun c o y => cut_iff.mpr ⟨fun x => (cut_iff.mp y).1 (.inl x), (cut_iff.mp y).2⟩) hP⟩
/-- where readings stand -/
def SpotsAt (H : Hp) (a : Addr) (sl : List (Nat × Nat)) : Prop := ∃ es : List Addr, H a = some (.lst (es.map V.ref)) ∧ Paired (fun (e : Addr) (q : Nat × Nat) => H e = some (.tup [.int (q.1 : Nat), .int (q.2 : Nat)])) es sl
theorem SpotsAt.mono {H H' : Hp} {a : Addr} {sl : List (Nat × Nat)} (h : SpotsAt H a sl) (s : Same H H') : SpotsAt H' a sl := by
  obtain ⟨es, h1, h2⟩ := h
  exact ⟨es, s _ _ h1, Paired.mono (fun _ _ e => s _ _ e) h2⟩
def Spot (rows : List (List Deed)) (q : Nat × Nat) : Prop := ∃ ds d, rows[q.1]? = some ds ∧ ds[q.2]? = some d ∧ IsReading d
theorem fine_reading {d : Deed} (f : Fine d) (h : (match d with | .read _ _ => True | .under _ _ => True | _ => False)) : IsReading d := by
  cases d with
  | read n v => trivial
  | under g ps => exact f.u g ps rfl
  | write n v => exact h.elim
  | back k => exact h.elim
def slD (sl : List (Nat × Nat)) : PyData := .list (sl.map fun q => .tuple [.int (q.1 : Nat), .int (q.2 : Nat)])
theorem slD_nil (sl : List (Nat × Nat)) : PyData.eqv (slD sl) (.list []) = decide (sl = []) := by
  cases sl with
  | nil => rfl
  | cons q r => rfl
theorem slD_sd (sl : List (Nat × Nat)) : Sd (slD sl) 2 := sd_list fun x hx => by
  obtain ⟨q, _, e⟩ := List.mem_map.mp hx
  rw [← e]
  exact sd_tuple fun y hy => by
    have h2 : y = .int (q.1 : Nat) ∨ y = .int (q.2 : Nat) := by simpa using hy
    rcases h2 with e | e <;> subst e <;> exact sd_int _ 0
theorem SpotsAt.dp {K : PySem.W.Frag} {H : Hp} {a : Addr} {sl : List (Nat × Nat)} (h : SpotsAt H a sl) : Dp K H (.ref a) (slD sl) := by
  obtain ⟨es, h1, h2⟩ := h
  exact .lst (SqL.of h1) (dp_paired (Paired.mono (fun a q e => .tup (SqT.of e) (.cons (.int _) (.cons (.int _) .nil))) h2))
theorem DeedAt.dp {K : PySem.W.Frag} {H : Hp} {a : Addr} {d : Deed} (h : DeedAt H a d) (ok : DeedOk d) : Dp K H (.ref a) (.tuple (dD d)) := by
  obtain ⟨xs, h1, h2, _⟩ := h.items (K := K) ok
  exact .tup (SqT.of h1) h2
theorem deed_eqv {d e : Deed} (hd : DeedOk d) (he : DeedOk e) {b : Bool} (h : (b = true ↔ d = e)) : PyData.eqv (.tuple (dD d)) (.tuple (dD e)) = b := by
  have h1 := eqv_iff (.tuple (dD d)) (.tuple (dD e)) (dD_plain hd) (dD_plain he)
  have h2 : (PyData.tuple (dD d) = PyData.tuple (dD e)) ↔ d = e := ⟨fun z => dD_inj hd he (by injection z), fun z => by rw [z]⟩
  rw [h2, ← h] at h1
  cases b <;> cases hx : PyData.eqv (.tuple (dD d)) (.tuple (dD e)) <;> simp_all
theorem deed_tuple {d : Deed} (ok : DeedOk d) : SeqAt.shaped (.tuple (dD d)) = true := (sd_tuple (dD_sd ok)).shaped (by decide)
theorem ix_nat {n j : Nat} (h : j < n) : ixN n (j : Int) = some j := by
  unfold ixN
  rw [if_pos (by omega), if_pos (by omega), Int.toNat_natCast]
theorem deed_name {H : Hp} {a : Addr} {d : Deed} (h : DeedAt H a d) : ∃ nm r, H a = some (.tup (.str nm :: r)) ∧ ((inV (.str nm) [.str (Str.ofString "read"), .str (Str.ofString "under")] = true ∧ (Fine d → IsReading d)) ∨ inV (.str nm) [.str (Str.ofString "read"), .str (Str.ofString "under")] = false) := by
  cases d with
  | read n v => exact ⟨_, _, h, .inl ⟨by decide +kernel, fun f => trivial⟩⟩
  | under g ps =>
    obtain ⟨p, h1, _⟩ := h
    exact ⟨_, _, h1, .inl ⟨by decide +kernel, fun f => f.u g ps rfl⟩⟩
  | write n v => exact ⟨_, _, h, .inr (by decide +kernel)⟩
  | back k => exact ⟨_, _, h, .inr (by decide +kernel)⟩
end
end Kt

namespace Kt
open PySem PySem.Spec PyProof.Rows L2 GxR Kr
/-! ### a shelf, plainly -/
inductive Mood where
  | opn | kept | gone
  deriving DecidableEq
def Mood.text : Mood → Str
  | .opn => "open"
  | .kept => "kept"
  | .gone => "dropped"
/-- a dealing: its start, how it stands, the writes that stand, the names read and the heads read, its deeds, the moment at which it was kept -/
structure Deal where
  start : Nat
  mood : Mood
  puts : Prs
  names : List Str
  heads : List Str
  deeds : List Deed
  stamp : Nat
def Deal.wrote (d : Deal) (n : Str) : Bool := d.puts.any fun q => decide (q.1 = n)
def Deal.looked (d : Deal) (n : Str) : Bool := d.names.any (fun m => decide (m = n)) || d.heads.any fun h => pre h n
/-- the dealings by number, the row, each name's versions, the names that have some, how many deeds were asked -/
structure Shf where
  deals : List Deal
  row : List Nat
  vers : Str → List (Nat × V)
  named : List Str
  ops : Nat
def Shf.new : Shf := ⟨[], [], fun _ => [], [], 0⟩
/-- the value of the newest version numbered no higher than m -/
def upTo (vs : List (Nat × V)) (m : Nat) : V := match (vs.filter fun x => decide (x.1 ≤ m)).getLast? with
  | some x => x.2
  | none => .non
def newest (vs : List (Nat × V)) : V := match vs.getLast? with
  | some x => x.2
  | none => .non
def Shf.told (s : Shf) (d : Deal) : Str → V := readV (fun n => upTo (s.vers n) d.start) d.puts
def Shf.value (s : Shf) (n : Str) : V := newest (s.vers n)
def Shf.put (s : Shf) (i : Nat) (d : Deal) : Shf := { s with deals := s.deals.set i d, ops := s.ops + 1 }
def Shf.begin (s : Shf) : Shf := { s with deals := s.deals ++ [⟨s.row.length, .opn, [], [], [], [], 0⟩], ops := s.ops + 1 }
def Deal.readIt (d : Deal) (n : Str) (v : V) : Deal := { d with deeds := d.deeds ++ [.read n v], names := if d.wrote n then d.names else d.names ++ [n] }
def Deal.headIt (d : Deal) (h : Str) (ps : Prs) : Deal := { d with deeds := d.deeds ++ [.under h ps], heads := d.heads ++ [h] }
def Deal.writeIt (d : Deal) (n : Str) (v : V) : Deal := { d with deeds := d.deeds ++ [.write n v], puts := d.puts ++ [(n, v)] }
def Deal.backIt (d : Deal) (m : Nat) : Deal := { d with deeds := d.deeds ++ [.back m], puts := d.puts.take m }
/-! refusals -/
def Shf.who (s : Shf) : V → Option Nat
  | .int i => if 0 ≤ i ∧ i < (s.deals.length : Int) then some i.toNat else none
  | _ => none
def Shf.numE (s : Shf) (v : V) : Option Er := match s.who v with
  | some _ => none
  | none => some .noDealing
def Shf.openE (s : Shf) (v : V) : Option Er := match s.who v with
  | none => some .noDealing
  | some i => match s.deals[i]? with
    | none => some .noDealing
    | some d => if d.mood = .opn then none else some .over
def ifNot (b : Bool) (e : Er) : Option Er := if b then none else some e
def Shf.readE (s : Shf) (v x : V) : Option Er := (s.openE v).or (ifNot (nameV x) .noName)
def Shf.underE (s : Shf) (v x : V) : Option Er := (s.openE v).or (ifNot (headV x) .noName)
/-- a write to the name of another open one stands -/
def Shf.taken (s : Shf) (i : Nat) (n : Str) : Bool := (List.range s.deals.length).any fun j => decide (j ≠ i) && (match s.deals[j]? with
  | some d => decide (d.mood = .opn) && d.wrote n
  | none => false)
/-- the name was kept anew -/
def Shf.late (s : Shf) (d : Deal) (n : Str) : Bool := (s.vers n).any fun x => decide (d.start < x.1)
def Shf.putE (s : Shf) (v x : V) : Option Er := match s.who v, x with
  | some i, .str n => match s.deals[i]? with
    | some d => (ifNot (!s.taken i n) .taken).or (ifNot (!s.late d n) .late)
    | none => none
  | _, _ => none
def Shf.writeE (s : Shf) (v x y : V) : Option Er := (s.openE v).or ((ifNot (nameV x) .noName).or ((ifNot (valueV y) .noValue).or (s.putE v x)))
def markV (n : Nat) : V → Bool
  | .int m => decide (0 ≤ m ∧ m ≤ (n : Int))
  | _ => false
def Shf.backE (s : Shf) (v x : V) : Option Er := (s.openE v).or (match s.who v with
  | some i => match s.deals[i]? with
    | some d => ifNot (markV d.puts.length x) .noMark
    | none => none
  | none => none)
/-! keeping -/
/-- e, a kept one, must be ahead of d; behind it -/
def mustA (e d : Deal) : Bool := (d.puts.any fun q => e.wrote q.1 || e.looked q.1) || ((e.puts.any fun q => d.looked q.1) && decide (e.stamp ≤ d.start))
def mustB (e d : Deal) : Bool := (e.puts.any fun q => d.looked q.1) && decide (d.start < e.stamp)
def Shf.sel (s : Shf) (f : Deal → Bool) (k : Nat) : Bool := match s.deals[k]? with
  | some e => f e
  | none => false
/-- the place of d, or none -/
def Shf.place (s : Shf) (d : Deal) : Option Nat :=
  let p := s.row.findIdx (s.sel fun e => mustB e d)
  if (s.row.drop p).any (s.sel fun e => mustA e d) then none else some p
def Shf.gone (s : Shf) (i : Nat) (d : Deal) : Shf := s.put i { d with mood := .gone }
def addVers (s : Shf) (d : Deal) (n : Str) : List (Nat × V) := match valV (putAll [] d.puts) n with
  | some v => s.vers n ++ [(s.row.length + 1, v)]
  | none => s.vers n
def Shf.keepAt (s : Shf) (i : Nat) (d : Deal) (p : Nat) : Shf :=
  { deals := s.deals.set i { d with mood := .kept, stamp := s.row.length + 1 }, row := s.row.insertIdx p i, vers := addVers s d,
    named := s.named ++ ((putAll [] d.puts).map (·.1)).filter (fun n => !decide (n ∈ s.named)), ops := s.ops + 1 }
/-! sweeping -/
def Shf.least (s : Shf) : Nat := ((s.deals.filter fun d => decide (d.mood = .opn)).map (·.start)).foldl min s.row.length
def lowN (vs : List (Nat × V)) (m : Nat) : Nat := (vs.filter fun x => decide (x.1 ≤ m)).length - 1
def Shf.swept (s : Shf) : Nat := (s.named.map fun n => lowN (s.vers n) s.least).sum
def Shf.sweep (s : Shf) : Shf := { s with vers := fun n => (s.vers n).drop (lowN (s.vers n) s.least), ops := s.ops + 1 }
/-! what holds of a shelf -/
def openSum (ds : List Deal) : Nat := (ds.map fun d => if d.mood = .opn then d.puts.length else 0).sum
structure Wf (s : Shf) : Prop where
  rowd : s.row.Nodup
  row : ∀ k, k ∈ s.row ↔ ∃ d, s.deals[k]? = some d ∧ d.mood = .kept
  start : ∀ (k : Nat) (d : Deal), s.deals[k]? = some d → d.start ≤ s.row.length
  stamp : ∀ (k : Nat) (d : Deal), s.deals[k]? = some d → d.mood = .kept → 1 ≤ d.stamp ∧ d.stamp ≤ s.row.length
  up : ∀ n, (s.vers n).Pairwise fun x y => x.1 < y.1
  num : ∀ n x, x ∈ s.vers n → 1 ≤ x.1 ∧ x.1 ≤ s.row.length ∧ valueV x.2 = true
  named : ∀ n, s.vers n ≠ [] → n ∈ s.named
  nd : s.named.Nodup
  nm : ∀ n ∈ s.named, Name n
  puts : ∀ (k : Nat) (d : Deal), s.deals[k]? = some d → Ok d.puts ∧ (∀ n ∈ d.names, Name n) ∧ (∀ h ∈ d.heads, headB h = true) ∧ (∀ e ∈ d.deeds, DeedOk e)
  len : s.deals.length ≤ s.ops ∧ s.row.length ≤ s.ops ∧ s.named.length + openSum s.deals ≤ s.ops ∧ (∀ n, (s.vers n).length ≤ s.ops) ∧ ∀ (k : Nat) (d : Deal), s.deals[k]? = some d → d.puts.length ≤ s.ops ∧ d.names.length ≤ s.ops ∧ d.heads.length ≤ s.ops ∧ d.deeds.length ≤ s.ops
theorem wf_new : Wf Shf.new where
  rowd := List.nodup_nil
  row := fun k => ⟨fun h => (by cases h), fun ⟨d, h, _⟩ => (by cases h)⟩
  start := fun k d h => by cases h
  stamp := fun k d h => by cases h
  up := fun n => List.Pairwise.nil
  num := fun n x h => by cases h
  named := fun n h => absurd rfl h
  nd := List.nodup_nil
  nm := fun n h => by cases h
  puts := fun k d h => by cases h
  len := ⟨Nat.le_refl _, Nat.le_refl _, Nat.le_refl _, fun n => Nat.le_refl _, fun k d h => by cases h⟩
def Deal.open (d : Deal) : Nat := if d.mood = .opn then d.puts.length else 0
theorem openSum_set {d d' : Deal} : ∀ {ds : List Deal} {i : Nat}, ds[i]? = some d → openSum (ds.set i d') + d.open = openSum ds + d'.open
  | [], i, h => by simp at h
  | x :: r, 0, h => by
    have e : x = d := by simpa using h
    subst e
    show (d'.open + openSum r) + x.open = (x.open + openSum r) + d'.open
    omega
  | x :: r, i + 1, h => by
    have h2 := openSum_set (d' := d') (ds := r) (i := i) (by simpa using h)
    show (x.open + openSum (r.set i d')) + d.open = (x.open + openSum r) + d'.open
    omega
theorem openSum_app (a b : List Deal) : openSum (a ++ b) = openSum a + openSum b := by
  unfold openSum
  rw [List.map_append, List.sum_append]
theorem set_get {α : Type} {l : List α} {i : Nat} {x : α} (h : i < l.length) (k : Nat) : (l.set i x)[k]? = if k = i then some x else l[k]? := by
  rw [List.getElem?_set]
  by_cases e : i = k
  · rw [if_pos e, if_pos e.symm, if_pos (by omega)]
  · rw [if_neg e, if_neg (fun z => e z.symm)]
theorem get_lt {α : Type} {l : List α} {i : Nat} {x : α} (h : l[i]? = some x) : i < l.length := (List.getElem?_eq_some_iff.mp h).1
theorem wf_put {s : Shf} {i : Nat} {d d' : Deal} (w : Wf s) (h : s.deals[i]? = some d) (o : d.mood = .opn) (h1 : d'.start = d.start) (h2 : d'.mood = .opn ∨ d'.mood = .gone) (h3 : d'.puts.length ≤ d.puts.length + 1)
    (h4 : Ok d'.puts ∧ (∀ n ∈ d'.names, Name n) ∧ (∀ h ∈ d'.heads, headB h = true) ∧ (∀ e ∈ d'.deeds, DeedOk e)) (h5 : d'.names.length ≤ d.names.length + 1 ∧ d'.heads.length ≤ d.heads.length + 1 ∧ d'.deeds.length ≤ d.deeds.length + 1) : Wf (s.put i d') := by
  have lt := get_lt h
  have g : ∀ k, (s.put i d').deals[k]? = if k = i then some d' else s.deals[k]? := set_get lt
  have nk : ¬ d'.mood = .kept := fun z => by
    rw [z] at h2
    rcases h2 with h2 | h2 <;> cases h2
  have nk0 : ¬ d.mood = .kept := fun z => by
    rw [o] at z
    cases z
  refine { rowd := w.rowd, row := fun k => ?_, start := fun k e hk => ?_, stamp := fun k e hk hm => ?_, up := w.up, num := w.num, named := w.named, nd := w.nd, nm := w.nm, puts := fun k e hk => ?_, len := ?_ }
  · refine (w.row k).trans ?_
    rw [g k]
    by_cases e : k = i
    · rw [if_pos e, e, h]
      exact ⟨fun ⟨x, hx, hm⟩ => absurd hm (by rw [← Option.some.inj hx]; exact nk0), fun ⟨x, hx, hm⟩ => absurd hm (by rw [← Option.some.inj hx]; exact nk)⟩
    · rw [if_neg e]
  · rw [g k] at hk
    by_cases z : k = i
    · rw [if_pos z] at hk
      rw [← Option.some.inj hk, h1]
      exact w.start i d h
    · rw [if_neg z] at hk
      exact w.start k e hk
  · rw [g k] at hk
    by_cases z : k = i
    · rw [if_pos z] at hk
      rw [← Option.some.inj hk] at hm
      exact absurd hm nk
    · rw [if_neg z] at hk
      exact w.stamp k e hk hm
  · rw [g k] at hk
    by_cases z : k = i
    · rw [if_pos z] at hk
      rw [← Option.some.inj hk]
      exact h4
    · rw [if_neg z] at hk
      exact w.puts k e hk
  · obtain ⟨l1, l2, l3, l4, l5⟩ := w.len
    have ho := openSum_set (d' := d') h
    have e1 : d.open = d.puts.length := if_pos o
    have e2 : d'.open ≤ d'.puts.length := by
      unfold Deal.open
      split <;> omega
    refine ⟨?_, ?_, ?_, fun n => ?_, fun k e hk => ?_⟩
    · show (s.deals.set i d').length ≤ s.ops + 1
      rw [List.length_set]
      omega
    · show s.row.length ≤ s.ops + 1
      omega
    · show s.named.length + openSum (s.deals.set i d') ≤ s.ops + 1
      omega
    · have l := l4 n
      show (s.vers n).length ≤ s.ops + 1
      omega
    · rw [g k] at hk
      show e.puts.length ≤ s.ops + 1 ∧ e.names.length ≤ s.ops + 1 ∧ e.heads.length ≤ s.ops + 1 ∧ e.deeds.length ≤ s.ops + 1
      by_cases z : k = i
      · rw [if_pos z] at hk
        rw [← Option.some.inj hk]
        have l := l5 i d h
        omega
      · rw [if_neg z] at hk
        have l := l5 k e hk
        omega
theorem wf_begin {s : Shf} (w : Wf s) : Wf s.begin := by
  have g : ∀ (k : Nat) (e : Deal), s.begin.deals[k]? = some e → s.deals[k]? = some e ∨ (k = s.deals.length ∧ e = ⟨s.row.length, .opn, [], [], [], [], 0⟩) := fun k e h => by
    have h2 : (s.deals ++ [⟨s.row.length, .opn, [], [], [], [], 0⟩])[k]? = some e := h
    by_cases l : k < s.deals.length
    · rw [List.getElem?_append_left l] at h2
      exact .inl h2
    · rw [List.getElem?_append_right (by omega)] at h2
      have e0 : k - s.deals.length = 0 := by
        have l3 := get_lt h2
        have l4 : k - s.deals.length < 1 := l3
        omega
      rw [e0] at h2
      exact .inr ⟨by omega, (Option.some.inj h2).symm⟩
  have g2 : ∀ (k : Nat) (e : Deal), s.deals[k]? = some e → s.begin.deals[k]? = some e := fun k e h => by
    show (s.deals ++ _)[k]? = some e
    rw [List.getElem?_append_left (get_lt h)]
    exact h
  obtain ⟨l1, l2, l3, l4, l5⟩ := w.len
  refine { rowd := w.rowd, row := fun k => ?_, start := fun k e hk => ?_, stamp := fun k e hk hm => ?_, up := w.up, num := w.num, named := w.named, nd := w.nd, nm := w.nm, puts := fun k e hk => ?_, len := ⟨?_, ?_, ?_, fun n => ?_, fun k e hk => ?_⟩ }
  · refine (w.row k).trans ⟨fun ⟨d, h, m⟩ => ⟨d, g2 k d h, m⟩, fun ⟨d, h, m⟩ => ?_⟩
    rcases g k d h with q | ⟨_, q⟩
    · exact ⟨d, q, m⟩
    · rw [q] at m
      cases m
  · rcases g k e hk with q | ⟨_, q⟩
    · exact w.start k e q
    · rw [q]
      exact Nat.le_refl _
  · rcases g k e hk with q | ⟨_, q⟩
    · exact w.stamp k e q hm
    · rw [q] at hm
      cases hm
  · rcases g k e hk with q | ⟨_, q⟩
    · exact w.puts k e q
    · rw [q]
      exact ⟨ok_nil, (fun n h => by cases h), (fun n h => by cases h), (fun n h => by cases h)⟩
  · show (s.deals ++ _).length ≤ s.ops + 1
    rw [List.length_append]
    show s.deals.length + 1 ≤ s.ops + 1
    omega
  · show s.row.length ≤ s.ops + 1
    omega
  · show s.named.length + openSum (s.deals ++ _) ≤ s.ops + 1
    rw [openSum_app]
    show s.named.length + (openSum s.deals + 0) ≤ s.ops + 1
    omega
  · have l := l4 n
    show (s.vers n).length ≤ s.ops + 1
    omega
  · show e.puts.length ≤ s.ops + 1 ∧ e.names.length ≤ s.ops + 1 ∧ e.heads.length ≤ s.ops + 1 ∧ e.deeds.length ≤ s.ops + 1
    rcases g k e hk with q | ⟨_, q⟩
    · have l := l5 k e q
      omega
    · rw [q]
      exact ⟨Nat.zero_le _, Nat.zero_le _, Nat.zero_le _, Nat.zero_le _⟩
theorem ok_snoc {a : Prs} {n : Str} {v : V} (h : Ok a) (hn : Name n) (hv : valueV v = true) : Ok (a ++ [(n, v)]) := ok_app h fun q hq => by
  rw [List.mem_singleton.mp hq]
  exact ⟨hn, hv⟩
theorem mem_snoc {α : Type} {P : α → Prop} {l : List α} {x : α} (h : ∀ y ∈ l, P y) (hx : P x) : ∀ y ∈ l ++ [x], P y := fun y hy => by
  rcases List.mem_append.mp hy with h1 | h1
  · exact h y h1
  · rw [List.mem_singleton.mp h1]
    exact hx
theorem wf_read {s : Shf} {i : Nat} {d : Deal} {n : Str} {v : V} (w : Wf s) (h : s.deals[i]? = some d) (o : d.mood = .opn) (hn : Name n) (hv : valueV v = true) : Wf (s.put i (d.readIt n v)) := by
  obtain ⟨p1, p2, p3, p4⟩ := w.puts i d h
  refine wf_put w h o rfl (.inl o) (Nat.le_succ _) ⟨p1, ?_, p3, mem_snoc p4 ⟨hn, hv⟩⟩ ⟨?_, Nat.le_succ _, ?_⟩
  · show ∀ m ∈ (if d.wrote n then d.names else d.names ++ [n]), Name m
    split
    · exact p2
    · exact mem_snoc p2 hn
  · show (if d.wrote n then d.names else d.names ++ [n]).length ≤ _
    split
    · omega
    · rw [List.length_append]
      exact Nat.le_refl _
  · show (d.deeds ++ [_]).length ≤ _
    rw [List.length_append]
    exact Nat.le_refl _
theorem wf_head {s : Shf} {i : Nat} {d : Deal} {g : Str} {ps : Prs} (w : Wf s) (h : s.deals[i]? = some d) (o : d.mood = .opn) (hg : headB g = true) (hp : Ok ps) : Wf (s.put i (d.headIt g ps)) := by
  obtain ⟨p1, p2, p3, p4⟩ := w.puts i d h
  refine wf_put w h o rfl (.inl o) (Nat.le_succ _) ⟨p1, p2, mem_snoc p3 hg, mem_snoc p4 ⟨hg, hp⟩⟩ ⟨Nat.le_succ _, ?_, ?_⟩
  · show (d.heads ++ [_]).length ≤ _
    rw [List.length_append]
    exact Nat.le_refl _
  · show (d.deeds ++ [_]).length ≤ _
    rw [List.length_append]
    exact Nat.le_refl _
theorem wf_write {s : Shf} {i : Nat} {d : Deal} {n : Str} {v : V} (w : Wf s) (h : s.deals[i]? = some d) (o : d.mood = .opn) (hn : Name n) (hv : valueV v = true) : Wf (s.put i (d.writeIt n v)) := by
  obtain ⟨p1, p2, p3, p4⟩ := w.puts i d h
  refine wf_put w h o rfl (.inl o) ?_ ⟨ok_snoc p1 hn hv, p2, p3, mem_snoc p4 ⟨hn, hv⟩⟩ ⟨Nat.le_succ _, Nat.le_succ _, ?_⟩
  · show (d.puts ++ [_]).length ≤ _
    rw [List.length_append]
    exact Nat.le_refl _
  · show (d.deeds ++ [_]).length ≤ _
    rw [List.length_append]
    exact Nat.le_refl _
theorem wf_back {s : Shf} {i m : Nat} {d : Deal} (w : Wf s) (h : s.deals[i]? = some d) (o : d.mood = .opn) : Wf (s.put i (d.backIt m)) := by
  obtain ⟨p1, p2, p3, p4⟩ := w.puts i d h
  refine wf_put w h o rfl (.inl o) ?_ ⟨ok_take p1 m, p2, p3, mem_snoc p4 trivial⟩ ⟨Nat.le_succ _, Nat.le_succ _, ?_⟩
  · show (d.puts.take m).length ≤ _
    rw [List.length_take]
    omega
  · show (d.deeds ++ [_]).length ≤ _
    rw [List.length_append]
    exact Nat.le_refl _
theorem wf_gone {s : Shf} {i : Nat} {d : Deal} (w : Wf s) (h : s.deals[i]? = some d) (o : d.mood = .opn) : Wf (s.gone i d) :=
  wf_put w h o rfl (.inr rfl) (Nat.le_succ _) (w.puts i d h) ⟨Nat.le_succ _, Nat.le_succ _, Nat.le_succ _⟩
theorem wf_sweep {s : Shf} (w : Wf s) : Wf s.sweep where
  rowd := w.rowd
  row := w.row
  start := w.start
  stamp := w.stamp
  up := fun n => (w.up n).sublist (List.drop_sublist _ _)
  num := fun n x h => w.num n x (List.mem_of_mem_drop h)
  named := fun n h => w.named n fun z => h (by
    show (s.vers n).drop _ = []
    rw [z, List.drop_nil])
  nd := w.nd
  nm := w.nm
  puts := w.puts
  len := by
    obtain ⟨l1, l2, l3, l4, l5⟩ := w.len
    refine ⟨Nat.le_succ_of_le l1, Nat.le_succ_of_le l2, Nat.le_succ_of_le l3, fun n => ?_, fun k d h => ?_⟩
    · have l := l4 n
      show ((s.vers n).drop _).length ≤ s.ops + 1
      rw [List.length_drop]
      omega
    · have l := l5 k d h
      show d.puts.length ≤ s.ops + 1 ∧ d.names.length ≤ s.ops + 1 ∧ d.heads.length ≤ s.ops + 1 ∧ d.deeds.length ≤ s.ops + 1
      omega
theorem putAll_sub : ∀ {l m : Prs}, (∀ q ∈ putAll m l, q ∈ m ∨ q ∈ l)
  | [], m, q, h => .inl h
  | p :: r, m, q, h => by
    rcases putAll_sub (l := r) (m := putK m p.1 p.2) q h with z | z
    · by_cases e : q = (p.1, p.2)
      · exact .inr (by rw [e]; exact List.mem_cons_self)
      · refine .inl ?_
        unfold putK at z
        split at z
        · obtain ⟨x, hx, ex⟩ := List.mem_map.mp z
          by_cases hk : x.1 = p.1
          · rw [if_pos hk, hk] at ex
            exact absurd ex.symm e
          · rw [if_neg hk] at ex
            rw [← ex]
            exact hx
        · rcases List.mem_append.mp z with y | y
          · exact y
          · exact absurd (List.mem_singleton.mp y) e
    · exact .inr (List.mem_cons_of_mem _ z)
theorem wf_keep {s : Shf} {i p : Nat} {d : Deal} (w : Wf s) (h : s.deals[i]? = some d) (o : d.mood = .opn) (hp : p ≤ s.row.length) : Wf (s.keepAt i d p) := by
  have lt := get_lt h
  have g : ∀ k, (s.keepAt i d p).deals[k]? = if k = i then some { d with mood := .kept, stamp := s.row.length + 1 } else s.deals[k]? := set_get lt
  have nin : i ∉ s.row := fun z => by
    obtain ⟨e, he, hm⟩ := (w.row i).mp z
    rw [h] at he
    rw [← Option.some.inj he, o] at hm
    cases hm
  have rl : (s.keepAt i d p).row.length = s.row.length + 1 := by
    show (s.row.insertIdx p i).length = _
    rw [List.length_insertIdx, if_pos hp]
  obtain ⟨l1, l2, l3, l4, l5⟩ := w.len
  obtain ⟨p1, p2, p3, p4⟩ := w.puts i d h
  have vs : ∀ n, (s.keepAt i d p).vers n = s.vers n ∨ ∃ v, valV (putAll [] d.puts) n = some v ∧ (s.keepAt i d p).vers n = s.vers n ++ [(s.row.length + 1, v)] := fun n => by
    show addVers s d n = _ ∨ _
    unfold addVers
    cases e : valV (putAll [] d.puts) n with
    | none => exact .inl rfl
    | some v => exact .inr ⟨v, rfl, by show addVers s d n = _; unfold addVers; rw [e]⟩
  refine { rowd := ?_, row := fun k => ?_, start := fun k e hk => ?_, stamp := fun k e hk hm => ?_, up := fun n => ?_, num := fun n x hx => ?_, named := fun n hn => ?_, nd := ?_, nm := fun n hn => ?_, puts := fun k e hk => ?_, len := ⟨?_, ?_, ?_, fun n => ?_, fun k e hk => ?_⟩ }
  · show (s.row.insertIdx p i).Nodup
    exact (List.perm_insertIdx i s.row hp).symm.nodup (List.nodup_cons.mpr ⟨nin, w.rowd⟩)
  · have e1 : k ∈ (s.keepAt i d p).row ↔ k = i ∨ k ∈ s.row := by
      show k ∈ s.row.insertIdx p i ↔ _
      rw [(List.perm_insertIdx i s.row hp).mem_iff, List.mem_cons]
    rw [e1, g k]
    by_cases e : k = i
    · rw [if_pos e]
      exact ⟨fun _ => ⟨_, rfl, rfl⟩, fun _ => .inl e⟩
    · rw [if_neg e, ← w.row k]
      exact ⟨fun z => z.resolve_left e, fun z => .inr z⟩
  · rw [rl]
    rw [g k] at hk
    by_cases z : k = i
    · rw [if_pos z] at hk
      rw [← Option.some.inj hk]
      have q := w.start i d h
      show d.start ≤ _
      omega
    · rw [if_neg z] at hk
      have q := w.start k e hk
      omega
  · rw [rl]
    rw [g k] at hk
    by_cases z : k = i
    · rw [if_pos z] at hk
      rw [← Option.some.inj hk]
      show 1 ≤ s.row.length + 1 ∧ s.row.length + 1 ≤ _
      omega
    · rw [if_neg z] at hk
      have q := w.stamp k e hk hm
      omega
  · rcases vs n with e | ⟨v, _, e⟩
    · rw [e]
      exact w.up n
    · rw [e, List.pairwise_append]
      refine ⟨w.up n, List.pairwise_singleton _ _, fun x hx y hy => ?_⟩
      rw [List.mem_singleton.mp hy]
      have q := w.num n x hx
      show x.1 < s.row.length + 1
      omega
  · rw [rl]
    rcases vs n with e | ⟨v, hv, e⟩
    · rw [e] at hx
      have q := w.num n x hx
      exact ⟨q.1, by omega, q.2.2⟩
    · rw [e] at hx
      rcases List.mem_append.mp hx with y | y
      · have q := w.num n x y
        exact ⟨q.1, by omega, q.2.2⟩
      · rw [List.mem_singleton.mp y]
        exact ⟨Nat.succ_le_succ (Nat.zero_le _), Nat.le_refl _, val_ok (ok_putAll ok_nil p1) hv⟩
  · show n ∈ s.named ++ _
    rcases vs n with e | ⟨v, hv, e⟩
    · rw [e] at hn
      exact List.mem_append_left _ (w.named n hn)
    · by_cases z : n ∈ s.named
      · exact List.mem_append_left _ z
      · exact List.mem_append_right _ (List.mem_filter.mpr ⟨val_in hv, by simp [z]⟩)
  · show (s.named ++ ((putAll [] d.puts).map (·.1)).filter (fun n => !decide (n ∈ s.named))).Nodup
    rw [List.nodup_append]
    refine ⟨w.nd, List.Pairwise.filter _ (putAll_keys d.puts List.nodup_nil), fun x hx y hy e => ?_⟩
    have q := (List.mem_filter.mp hy).2
    rw [← e] at q
    simp [hx] at q
  · rcases List.mem_append.mp (show n ∈ s.named ++ _ from hn) with z | z
    · exact w.nm n z
    · obtain ⟨q, hq, e⟩ := List.mem_map.mp (List.mem_filter.mp z).1
      rw [← e]
      exact (ok_putAll ok_nil p1 q hq).1
  · rw [g k] at hk
    by_cases z : k = i
    · rw [if_pos z] at hk
      rw [← Option.some.inj hk]
      exact w.puts i d h
    · rw [if_neg z] at hk
      exact w.puts k e hk
  · show (s.deals.set i _).length ≤ s.ops + 1
    rw [List.length_set]
    omega
  · rw [rl]
    show s.row.length + 1 ≤ s.ops + 1
    omega
  · have ho := openSum_set (d' := { d with mood := .kept, stamp := s.row.length + 1 }) h
    have e1 : d.open = d.puts.length := if_pos o
    have e2 : Deal.open { d with mood := .kept, stamp := s.row.length + 1 } = 0 := rfl
    have e3 : (((putAll [] d.puts).map (·.1)).filter (fun n => !decide (n ∈ s.named))).length ≤ d.puts.length := by
      have q1 := List.length_filter_le (fun n => !decide (n ∈ s.named)) ((putAll [] d.puts).map (·.1))
      have q2 := putAll_len d.puts []
      have q3 : ([] : Prs).length = 0 := rfl
      rw [List.length_map] at q1
      omega
    show (s.named ++ ((putAll [] d.puts).map (·.1)).filter (fun n => !decide (n ∈ s.named))).length + openSum (s.deals.set i _) ≤ s.ops + 1
    rw [List.length_append]
    omega
  · have l := l4 n
    show _ ≤ s.ops + 1
    rcases vs n with e | ⟨v, hv, e⟩
    · rw [e]
      omega
    · rw [e, List.length_append]
      show (s.vers n).length + 1 ≤ _
      omega
  · show e.puts.length ≤ s.ops + 1 ∧ e.names.length ≤ s.ops + 1 ∧ e.heads.length ≤ s.ops + 1 ∧ e.deeds.length ≤ s.ops + 1
    rw [g k] at hk
    by_cases z : k = i
    · rw [if_pos z] at hk
      rw [← Option.some.inj hk]
      have l := l5 i d h
      show d.puts.length ≤ s.ops + 1 ∧ d.names.length ≤ s.ops + 1 ∧ d.heads.length ≤ s.ops + 1 ∧ d.deeds.length ≤ s.ops + 1
      omega
    · rw [if_neg z] at hk
      have l := l5 k e hk
      omega
theorem place_le {s : Shf} {d : Deal} {p : Nat} (h : s.place d = some p) : p ≤ s.row.length := by
  unfold Shf.place at h
  simp only [] at h
  split at h
  · cases h
  · rw [← Option.some.inj h]
    exact List.findIdx_le_length
end Kt

namespace Kt
open PySem PySem.Spec PyProof.Rows L2 GxR Kr
/-! ### a shelf on the heap -/
def Tup (H H' : Hp) : Prop := ∀ (b : Addr) (xs : List V), H b = some (.tup xs) → H' b = some (.tup xs)
theorem Tup.refl (H : Hp) : Tup H H := fun _ _ h => h
theorem Tup.trans {H H1 H2 : Hp} (a : Tup H H1) (b : Tup H1 H2) : Tup H H2 := fun c xs h => b c xs (a c xs h)
theorem Same.tups {H H' : Hp} (s : Same H H') : Tup H H' := fun b xs h => s _ _ h
abbrev Ads := Addr → Prop
/-- what may change: the shelf's own and the program's -/
def Foot.with (F : Foot) (A : Ads) : Ads := fun b => A b ∨ F.M b
/-- some deed of the program, at a shelf with the addresses A -/
structure Moved (F : Foot) (A A' : Ads) (H H' : Hp) : Prop where
  w : F.W H'
  s : Same (Cut (F.with A) H) (Cut (F.with A') H')
  t : Tup H H'
  g : ∀ b, A' b → A b ∨ H b = none
  n : ∀ b, H' b = none → H b = none
theorem Moved.refl {F : Foot} {A : Ads} {H : Hp} (w : F.W H) : Moved F A A H H := ⟨w, Same.refl _, Tup.refl _, fun b h => .inl h, fun b h => h⟩
def shelfNames : List Str := ["begin", "read", "under", "write", "made", "back", "keep", "drop", "order", "moment", "ended", "deeds", "value", "versions", "sweep"]
abbrev SAt := Hp → Ads → Addr → Shf → Prop
/-- what the program keeps of a shelf: S says that one stands there -/
structure SOk (F : Foot) (Cs : Addr) (S : SAt) : Prop where
  frame : ∀ {H H' : Hp} {A : Ads} {p : Addr} {s : Shf}, S H A p s → (∀ b, A b → H' b = H b) → Tup H H' → S H' A p s
  has : ∀ {H : Hp} {A : Ads} {p : Addr} {s : Shf} {b : Addr}, S H A p s → A b → ∃ o, H b = some o
  notup : ∀ {H : Hp} {A : Ads} {p : Addr} {s : Shf} {b : Addr} {xs : List V}, S H A p s → A b → ¬ H b = some (.tup xs)
  out : ∀ {H : Hp} {A : Ads} {p : Addr} {s : Shf} {b : Addr}, S H A p s → A b → ¬ F.M b
  ins : ∀ {H : Hp} {A : Ads} {p : Addr} {s : Shf}, S H A p s → ∃ dx fs, H p = some (.ins Cs dx fs) ∧ ∀ m ∈ shelfNames, fs.lookup m = none
  wf : ∀ {H : Hp} {A : Ads} {p : Addr} {s : Shf}, S H A p s → Wf s
/-- versions, told: a list of pairs -/
def VersAt (H : Hp) (p : Addr) (vs : List (Nat × V)) : Prop := ∃ as : List Addr, H p = some (.lst (as.map V.ref)) ∧ Paired (fun (a : Addr) (x : Nat × V) => H a = some (.tup [.int (x.1 : Nat), x.2])) as vs
theorem VersAt.mono {H H' : Hp} {p : Addr} {vs : List (Nat × V)} (h : VersAt H p vs) (s : Same H H') : VersAt H' p vs := by
  obtain ⟨as, h1, h2⟩ := h
  exact ⟨as, s _ _ h1, Paired.mono (fun _ _ e => s _ _ e) h2⟩
def most : Nat := 100000
/-! promises -/
section
variable (F : Foot) (C : Er → Addr) (S : SAt)
/-- where the methods are asked -/
structure Asked (H : Hp) (A : Ads) (p : Addr) (s : Shf) : Prop where
  w : F.W H
  at' : S H A p s
  ops : s.ops ≤ most
/-- refused: nothing changes -/
def Refuses (H : Hp) (A : Ads) (p : Addr) (s : Shf) (r : Option Er) (E : XK) : Prop := ∀ e, r = some e → ∀ (H' : Hp) (A' : Ads), Moved F A A' H H' → S H' A' p s → E (.ref (C e)) none H'
def sp_new : Sp := fun vs H Q _ => ∃ (p : Addr) (H0 : Hp), vs = [.ref p] ∧ F.W H0 ∧ Same H0 H ∧ H0 p = none ∧ (∃ Cs dx, H p = some (.ins Cs dx []) ∧ H dx = some (.own p) ∧ H0 dx = none ∧ dx ≠ p) ∧ ∀ (H' : Hp) (A : Ads), F.W H' → Same H0 H' → (∀ b, A b → H0 b = none) → S H' A p Shf.new → Q .non H'
def sp_begin : Sp := fun vs H Q _ => ∃ (A : Ads) (p : Addr) (s : Shf), vs = [.ref p] ∧ Asked F S H A p s ∧ ∀ (H' : Hp) (A' : Ads), Moved F A A' H H' → S H' A' p s.begin → Q (.int (s.deals.length : Nat)) H'
def sp_order : Sp := fun vs H Q _ => ∃ (A : Ads) (p : Addr) (s : Shf), vs = [.ref p] ∧ Asked F S H A p s ∧ ∀ (H' : Hp) (A' : Ads) (q : Addr), Moved F A A' H H' → S H' A' p s → H q = none → Cut (F.with A') H' q = some (.lst (s.row.map fun (k : Nat) => V.int (k : Nat))) → Q (.ref q) H'
def sp_moment : Sp := fun vs H Q _ => ∃ (A : Ads) (p : Addr) (s : Shf), vs = [.ref p] ∧ Asked F S H A p s ∧ ∀ (H' : Hp) (A' : Ads), Moved F A A' H H' → S H' A' p s → Q (.int (s.row.length : Nat)) H'
def sp_sweep : Sp := fun vs H Q _ => ∃ (A : Ads) (p : Addr) (s : Shf), vs = [.ref p] ∧ Asked F S H A p s ∧ ∀ (H' : Hp) (A' : Ads), Moved F A A' H H' → S H' A' p s.sweep → Q (.int (s.swept : Nat)) H'
def sp_read : Sp := fun vs H Q E => ∃ (A : Ads) (p : Addr) (s : Shf) (v x : V), vs = [.ref p, v, x] ∧ Asked F S H A p s ∧ Thing H v ∧ Thing H x ∧ Refuses F C S H A p s (s.readE v x) E ∧
  ∀ (i : Nat) (d : Deal) (n : Str), s.readE v x = none → s.who v = some i → s.deals[i]? = some d → d.mood = .opn → x = .str n → Name n → ∀ (H' : Hp) (A' : Ads), Moved F A A' H H' → S H' A' p (s.put i (d.readIt n (s.told d n))) → Q (s.told d n) H'
def sp_under : Sp := fun vs H Q E => ∃ (A : Ads) (p : Addr) (s : Shf) (v x : V), vs = [.ref p, v, x] ∧ Asked F S H A p s ∧ Thing H v ∧ Thing H x ∧ Refuses F C S H A p s (s.underE v x) E ∧
  ∀ (i : Nat) (d : Deal) (h : Str), s.underE v x = none → s.who v = some i → s.deals[i]? = some d → d.mood = .opn → x = .str h → headB h = true → ∀ (H' : Hp) (A' : Ads) (q : Addr) (ps : Prs), Moved F A A' H H' → IsTold (s.told d) h ps → S H' A' p (s.put i (d.headIt h ps)) → H q = none → PairsAt (Cut (F.with A') H') q ps → Q (.ref q) H'
def sp_write : Sp := fun vs H Q E => ∃ (A : Ads) (p : Addr) (s : Shf) (v x y : V), vs = [.ref p, v, x, y] ∧ Asked F S H A p s ∧ Thing H v ∧ Thing H x ∧ Thing H y ∧ Refuses F C S H A p s (s.writeE v x y) E ∧
  ∀ (i : Nat) (d : Deal) (n : Str), s.writeE v x y = none → s.who v = some i → s.deals[i]? = some d → d.mood = .opn → x = .str n → Name n → valueV y = true → s.taken i n = false → s.late d n = false → ∀ (H' : Hp) (A' : Ads), Moved F A A' H H' → S H' A' p (s.put i (d.writeIt n y)) → Q .non H'
def sp_made : Sp := fun vs H Q E => ∃ (A : Ads) (p : Addr) (s : Shf) (v : V), vs = [.ref p, v] ∧ Asked F S H A p s ∧ Thing H v ∧ Refuses F C S H A p s (s.openE v) E ∧
  ∀ (i : Nat) (d : Deal), s.openE v = none → s.who v = some i → s.deals[i]? = some d → d.mood = .opn → ∀ (H' : Hp) (A' : Ads), Moved F A A' H H' → S H' A' p s → Q (.int (d.puts.length : Nat)) H'
def sp_back : Sp := fun vs H Q E => ∃ (A : Ads) (p : Addr) (s : Shf) (v x : V), vs = [.ref p, v, x] ∧ Asked F S H A p s ∧ Thing H v ∧ Thing H x ∧ Refuses F C S H A p s (s.backE v x) E ∧
  ∀ (i m : Nat) (d : Deal), s.backE v x = none → s.who v = some i → s.deals[i]? = some d → d.mood = .opn → x = .int (m : Nat) → m ≤ d.puts.length → ∀ (H' : Hp) (A' : Ads), Moved F A A' H H' → S H' A' p (s.put i (d.backIt m)) → Q .non H'
def sp_keep : Sp := fun vs H Q E => ∃ (A : Ads) (p : Addr) (s : Shf) (v : V), vs = [.ref p, v] ∧ Asked F S H A p s ∧ Thing H v ∧ Refuses F C S H A p s (s.openE v) E ∧
  ∀ (i : Nat) (d : Deal), s.openE v = none → s.who v = some i → s.deals[i]? = some d → d.mood = .opn →
    (s.place d = none → ∀ (H' : Hp) (A' : Ads), Moved F A A' H H' → S H' A' p (s.gone i d) → E (.ref (C .crossed)) none H') ∧
    ∀ k, s.place d = some k → ∀ (H' : Hp) (A' : Ads), Moved F A A' H H' → S H' A' p (s.keepAt i d k) → Q (.int (k : Nat)) H'
def sp_drop : Sp := fun vs H Q E => ∃ (A : Ads) (p : Addr) (s : Shf) (v : V), vs = [.ref p, v] ∧ Asked F S H A p s ∧ Thing H v ∧ Refuses F C S H A p s (s.openE v) E ∧
  ∀ (i : Nat) (d : Deal), s.openE v = none → s.who v = some i → s.deals[i]? = some d → d.mood = .opn → ∀ (H' : Hp) (A' : Ads), Moved F A A' H H' → S H' A' p (s.gone i d) → Q .non H'
def sp_ended : Sp := fun vs H Q E => ∃ (A : Ads) (p : Addr) (s : Shf) (v : V), vs = [.ref p, v] ∧ Asked F S H A p s ∧ Thing H v ∧ Refuses F C S H A p s (s.numE v) E ∧
  ∀ (i : Nat) (d : Deal), s.numE v = none → s.who v = some i → s.deals[i]? = some d → ∀ (H' : Hp) (A' : Ads), Moved F A A' H H' → S H' A' p s → Q (.str d.mood.text) H'
def sp_deeds : Sp := fun vs H Q E => ∃ (A : Ads) (p : Addr) (s : Shf) (v : V), vs = [.ref p, v] ∧ Asked F S H A p s ∧ Thing H v ∧ Refuses F C S H A p s (s.numE v) E ∧
  ∀ (i : Nat) (d : Deal), s.numE v = none → s.who v = some i → s.deals[i]? = some d → ∀ (H' : Hp) (A' : Ads) (q : Addr), Moved F A A' H H' → S H' A' p s → H q = none → DeedsAt (Cut (F.with A') H') q d.deeds → Q (.ref q) H'
def sp_value : Sp := fun vs H Q E => ∃ (A : Ads) (p : Addr) (s : Shf) (x : V), vs = [.ref p, x] ∧ Asked F S H A p s ∧ Thing H x ∧ Refuses F C S H A p s (ifNot (nameV x) .noName) E ∧
  ∀ n : Str, nameV x = true → x = .str n → Name n → ∀ (H' : Hp) (A' : Ads), Moved F A A' H H' → S H' A' p s → Q (s.value n) H'
def sp_versions : Sp := fun vs H Q E => ∃ (A : Ads) (p : Addr) (s : Shf) (x : V), vs = [.ref p, x] ∧ Asked F S H A p s ∧ Thing H x ∧ Refuses F C S H A p s (ifNot (nameV x) .noName) E ∧
  ∀ n : Str, nameV x = true → x = .str n → Name n → ∀ (H' : Hp) (A' : Ads) (q : Addr), Moved F A A' H H' → S H' A' p s → H q = none → VersAt (Cut (F.with A') H') q (s.vers n) → Q (.ref q) H'
end
/-- a method of the class at Cs: where it stands -/
structure MDef (K : PySem.W.Frag) (Cs : Addr) (m : Str) (ps : List Str) where
  f : Addr
  fd : FuncData
  m : Meth K Cs m f
  b : Binds K fd ps []
end Kt

namespace Kt
open PySem PySem.Spec PyProof.Rows L2 GxR Kr
/-! ### a method that may raise, asked within a try -/
def tAskT (D : Addr) (m : Str) (sp : Sp) (E : L2.St → XK) (tr : TE) (t : TA) : TE := fun σ H Q =>
  tr σ H fun y G => ∃ o dx fs, y = .ref o ∧ G o = some (.ins D dx fs) ∧ fs.lookup m = none ∧ t σ G fun us G2 => sp (y :: us) G2 Q (E σ)
theorem pe_methT {X : Cx} {CX : CXT} {k : Nat} {g D : Addr} {fd : FuncData} {ps : List Str} {sp : Sp} {E : L2.St → XK} {m : Str} {at_ ap : Pos} {a r : Expr} {as : List Expr} {tr : TE} {t : TA} {pl : Sem Bool} (hr : PE X r tr) (c : Cls X.K D)
    (hm : Meth X.K D m g) (G : FnOk X.prog X.w X.K X.mg X.base CX k g fd ps sp) (room : Room k X.A) (b : Binds X.K fd ps []) (pass : ∀ σ, PassesAt CX X σ (E σ)) (ha : PA X (a :: as) t)
    (h1 : starEach (a :: as) X.env = (false, eval a X.env) :: starEach as X.env := by rfl) (h2 : (backTo at_ (starEach as X.env)).any (·.1) = false := by rfl)
    (h3 : eval (.Call (.Attribute r m ap) (a :: as) [] at_) X.env = (eval r X.env >>= fun ov => standAt ap.atName >>= fun _ => holding [ov] (getMethod ov m pl) >>= fun fx =>
      callWith at_ fx.1 fx.2 (backTo at_ (starEach (a :: as) X.env)) (backToKw at_ (keywordEach [] X.env))) := by rfl) :
    PE X (.Call (.Attribute r m ap) (a :: as) [] at_) (tAskT D m sp E tr t) := ⟨fun pins s σ H Q I h => by
  refine PySem.W.methodCall_KW (pl := pl) (thn (hr.run pins s σ H _ I h) fun u s1 z => ?_) h3
  obtain ⟨y, H1, I1, rel, o, dx, fs, rfl, ho, hl, q⟩ := z
  obtain rfl : u = Value.ref o := rel
  refine getmeth_ok I1 ho c hm hl (PySem.W.callWith_K (first := [.ref o]) (h₀ := X.base) I1.ok.mod.kin hm.kp (thn (ha.run at_ pins s1 σ H1 _ I1 q) fun us s2 z2 => ?_) h1 h2)
  obtain ⟨vs, H2, I2, rs, q2⟩ := z2
  exact ⟨I2.kIn, run_fnS (us := .ref o :: us) (vs := .ref o :: vs) G room b (pass σ) I2 (.cons rfl rs) q2⟩⟩
/-! ### all methods of the shelf -/
structure ShelfFns (P : Program) (w : World) (K : PySem.W.Frag) (mg : Str → Option Value) (base : Heap) (k : Nat) (F : Foot) (C : Er → Addr) (Cs : Addr) (S : SAt) where
  ok : SOk F Cs S
  cl : Cls K Cs
  g : mg "Shelf" = some (.ref Cs)
  f0 : Addr
  d0 : FuncData
  mk0 : Mk K Cs f0
  b0 : Binds K d0 ["self"] []
  g_new : FnOk P w K mg base CX0 k f0 d0 ["self"] (sp_new F S)
  m_begin : MDef K Cs "begin" ["self"]
  m_order : MDef K Cs "order" ["self"]
  m_moment : MDef K Cs "moment" ["self"]
  m_sweep : MDef K Cs "sweep" ["self"]
  m_read : MDef K Cs "read" ["self", "number", "name"]
  m_under : MDef K Cs "under" ["self", "number", "head"]
  m_write : MDef K Cs "write" ["self", "number", "name", "value"]
  m_made : MDef K Cs "made" ["self", "number"]
  m_back : MDef K Cs "back" ["self", "number", "many"]
  m_keep : MDef K Cs "keep" ["self", "number"]
  m_drop : MDef K Cs "drop" ["self", "number"]
  m_ended : MDef K Cs "ended" ["self", "number"]
  m_deeds : MDef K Cs "deeds" ["self", "number"]
  m_value : MDef K Cs "value" ["self", "name"]
  m_versions : MDef K Cs "versions" ["self", "name"]
  g_begin : FnOk P w K mg base CX0 k m_begin.f m_begin.fd ["self"] (sp_begin F S)
  g_order : FnOk P w K mg base CX0 k m_order.f m_order.fd ["self"] (sp_order F S)
  g_moment : FnOk P w K mg base CX0 k m_moment.f m_moment.fd ["self"] (sp_moment F S)
  g_sweep : FnOk P w K mg base CX0 k m_sweep.f m_sweep.fd ["self"] (sp_sweep F S)
  g_read : FnOk P w K mg base (L2.CX P w) k m_read.f m_read.fd ["self", "number", "name"] (sp_read F C S)
  g_under : FnOk P w K mg base (L2.CX P w) k m_under.f m_under.fd ["self", "number", "head"] (sp_under F C S)
  g_write : FnOk P w K mg base (L2.CX P w) k m_write.f m_write.fd ["self", "number", "name", "value"] (sp_write F C S)
  g_made : FnOk P w K mg base (L2.CX P w) k m_made.f m_made.fd ["self", "number"] (sp_made F C S)
  g_back : FnOk P w K mg base (L2.CX P w) k m_back.f m_back.fd ["self", "number", "many"] (sp_back F C S)
  g_keep : FnOk P w K mg base (L2.CX P w) k m_keep.f m_keep.fd ["self", "number"] (sp_keep F C S)
  g_drop : FnOk P w K mg base (L2.CX P w) k m_drop.f m_drop.fd ["self", "number"] (sp_drop F C S)
  g_ended : FnOk P w K mg base (L2.CX P w) k m_ended.f m_ended.fd ["self", "number"] (sp_ended F C S)
  g_deeds : FnOk P w K mg base (L2.CX P w) k m_deeds.f m_deeds.fd ["self", "number"] (sp_deeds F C S)
  g_value : FnOk P w K mg base (L2.CX P w) k m_value.f m_value.fd ["self", "name"] (sp_value F C S)
  g_versions : FnOk P w K mg base (L2.CX P w) k m_versions.f m_versions.fd ["self", "name"] (sp_versions F C S)
end Kt

namespace Kt
open PySem PySem.Spec PyProof.Rows L2 GxR Kr
/-! ### the law's own, and the shelf's -/
/-- what may change: the shelf's A, the program's, the law's B -/
def Foot.all (F : Foot) (A B : Ads) : Ads := fun b => F.with A b ∨ B b
/-- from H to H' the shelf's own went from A to A', the law's own from B to B' -/
structure Went (F : Foot) (A A' B B' : Ads) (H H' : Hp) : Prop where
  w : F.W H'
  s : Same (Cut (F.all A B) H) (Cut (F.all A' B') H')
  t : Tup H H'
  g : ∀ b, A' b → A b ∨ H b = none
  gB : ∀ b, B' b → B b ∨ H b = none
  n : ∀ b, H' b = none → H b = none
section
variable {F : Foot} {A A' A2 B B' B2 : Ads} {H H' H2 : Hp}
theorem Went.refl (w : F.W H) : Went F A A B B H H := ⟨w, Same.refl _, Tup.refl _, fun _ h => .inl h, fun _ h => .inl h, fun _ h => h⟩
theorem cut_none {M M' : Ads} (s : Same (Cut M H) (Cut M' H')) {b : Addr} (h : H' b = none) : M b ∨ H b = none := by
  by_cases m : M b
  · exact .inl m
  · cases e : H b with
    | none => exact .inr rfl
    | some o =>
      have z := (cut_iff.mp (s b o (cut_iff.mpr ⟨m, e⟩))).2
      rw [h] at z
      cases z
theorem Went.trans (h : Went F A A' B B' H H') (k : Went F A' A2 B' B2 H' H2) : Went F A A2 B B2 H H2 := ⟨k.w, h.s.trans k.s, h.t.trans k.t,
  fun b z => (k.g b z).elim (fun y => h.g b y) (fun y => .inr (h.n b y)), fun b z => (k.gB b z).elim (fun y => h.gB b y) (fun y => .inr (h.n b y)), fun b z => h.n b (k.n b z)⟩
theorem Went.of_moved (h : Moved F A A' H H') : Went F A A' B B H H' := ⟨h.w, fun c o z => by
  obtain ⟨z1, z2⟩ := cut_iff.mp z
  obtain ⟨y1, y2⟩ := cut_iff.mp (h.s c o (cut_iff.mpr ⟨fun q => z1 (.inl q), z2⟩))
  exact cut_iff.mpr ⟨fun q => q.elim y1 (fun q => z1 (.inr q)), y2⟩, h.t, h.g, fun _ z => .inl z, h.n⟩
theorem upd_free {q : Addr} {o : HO} {b : Addr} (h : upd H q o b = none) : H b = none := by
  by_cases e : b = q
  · rw [e, upd_same] at h
    cases h
  · rw [upd_ne e] at h
    exact h
theorem foot_same (w : F.W H) (s : Same H H') : F.W H' := F.keep H H' (fun b hb => by
  obtain ⟨o, ho⟩ := F.has H b w hb
  rw [ho, s _ _ ho]) w
theorem Went.of_same (w : F.W H) (s : Same H H') : Went F A A B B H H' := ⟨foot_same w s, cut_same s, Same.tups s, fun _ z => .inl z, fun _ z => .inl z, fun _ z => s.free z⟩
theorem foot_upd {q : Addr} {o : HO} (w : F.W H) (n : ¬ F.M q) : F.W (upd H q o) := F.keep H _ (fun b hb => upd_ne (fun z => n (by rw [← z]; exact hb))) w
theorem tup_upd {q : Addr} {o : HO} (n : ∀ xs, ¬ H q = some (.tup xs)) : Tup H (upd H q o) := fun b xs h => by
  rw [upd_ne (fun z => n xs (by rw [← z]; exact h))]
  exact h
/-- a store at a thing of the law's own, or at one that is new since H -/
theorem Went.store {q : Addr} {o : HO} (h : Went F A A' B B' H H') (n : ¬ F.M q) (nt : ∀ xs, ¬ H' q = some (.tup xs)) (hq : B' q ∨ H q = none) : Went F A A' B B' H (upd H' q o) := by
  refine ⟨foot_upd h.w n, fun c u z => ?_, fun b xs y => ?_, h.g, h.gB, fun b z => h.n b (upd_free z)⟩
  · obtain ⟨y1, y2⟩ := cut_iff.mp (h.s c u z)
    have nc : c ≠ q := fun e => by
      rcases hq with hq | hq
      · exact y1 (.inr (by rw [e]; exact hq))
      · have z2 := (cut_iff.mp z).2
        rw [e, hq] at z2
        cases z2
    exact cut_iff.mpr ⟨y1, by rw [upd_ne nc]; exact y2⟩
  · exact tup_upd nt b xs (h.t b xs y)
/-- something new of the law's own -/
theorem Went.new {q : Addr} {o : HO} (h : Went F A A' B B' H H') (n : H' q = none) (nH : H q = none) (nA : ∀ b, A' b → ∃ o, H' b = some o) : Went F A A' B (fun b => B' b ∨ b = q) H (upd H' q o) := by
  have s := same_new (o := o) n
  refine ⟨foot_same h.w s, fun c u z => ?_, fun b xs y => s _ _ (h.t b xs y), h.g, fun b z => ?_, fun b z => h.n b (s.free z)⟩
  · obtain ⟨y1, y2⟩ := cut_iff.mp (h.s c u z)
    refine cut_iff.mpr ⟨fun x => ?_, s _ _ y2⟩
    rcases x with x | x | x
    · exact y1 (.inl x)
    · exact y1 (.inr x)
    · rw [x, n] at y2
      cases y2
  · rcases z with z | z
    · exact h.gB b z
    · exact .inr (by rw [z]; exact nH)
/-- more of the law's own -/
theorem Went.wide (h : Went F A A' B B H H') (k : ∀ b, B b → B2 b) : Went F A A' B2 B2 H H' := ⟨h.w, fun c o z => by
  obtain ⟨z1, z2⟩ := cut_iff.mp z
  obtain ⟨y1, y2⟩ := cut_iff.mp (h.s c o (cut_iff.mpr ⟨fun q => z1 (q.elim .inl fun q => .inr (k c q)), z2⟩))
  exact cut_iff.mpr ⟨fun q => q.elim (fun q => y1 (.inl q)) (fun q => z1 (.inr q)), y2⟩, h.t, h.g, fun _ z => .inl z, h.n⟩
/-- what is neither the shelf's nor the law's own is as it was -/
theorem Went.at (h : Went F A A' B B' H H') {b : Addr} {o : HO} (n : ¬ F.all A B b) (e : H b = some o) : H' b = some o := (cut_iff.mp (h.s b o (cut_iff.mpr ⟨n, e⟩))).2
/-- the shelf stays where only the law's own is changed -/
theorem SOk.stay {Cs : Addr} {S : SAt} (k : SOk F Cs S) {p : Addr} {s : Shf} (h : S H A p s) (e : ∀ b, A b → H' b = H b) (t : Tup H H') : S H' A p s := k.frame h e t
theorem SOk.same {Cs : Addr} {S : SAt} (k : SOk F Cs S) {p : Addr} {s : Shf} (h : S H A p s) (e : Same H H') : S H' A p s := k.frame h (fun b hb => by
  obtain ⟨o, ho⟩ := k.has h hb
  rw [ho, e _ _ ho]) (Same.tups e)
theorem SOk.upd {Cs : Addr} {S : SAt} (k : SOk F Cs S) {p q : Addr} {s : Shf} {o : HO} (h : S H A p s) (n : ¬ A q) (nt : ∀ xs, ¬ H q = some (.tup xs)) : S (upd H q o) A p s := k.frame h (fun b hb => upd_ne (fun z => n (by rw [← z]; exact hb))) (tup_upd nt)
/-- another shelf, of which nothing is changed -/
theorem SOk.other {Cs : Addr} {S : SAt} (k : SOk F Cs S) {p : Addr} {s : Shf} {D : Ads} (h : S H D p s) (m : Went F A A' B B' H H') (d : ∀ b, D b → ¬ A b ∧ ¬ B b) : S H' D p s := k.frame h (fun b hb => by
  obtain ⟨o, ho⟩ := k.has h hb
  have z := m.s b o (cut_iff.mpr ⟨fun x => by
    rcases x with (x | x) | x
    · exact (d b hb).1 x
    · exact k.out h hb x
    · exact (d b hb).2 x, ho⟩)
  rw [ho, (cut_iff.mp z).2]) m.t
end
/-! ### lists told, and kept aside with a copy -/
def HeldOk (K : PySem.W.Frag) (G : Hp) (a : Addr) : Prop := ∃ (x y : Addr) (d : PyData), G a = some (.tup [.ref x, .ref y]) ∧ Dp K G (.ref x) d ∧ Dp K G (.ref y) d ∧ plain d = true ∧ Sd d 5
theorem HeldOk.mono {K : PySem.W.Frag} {G G' : Hp} {a : Addr} (h : HeldOk K G a) (s : Same G G') : HeldOk K G' a := by
  obtain ⟨x, y, d, h1, h2, h3, h4, h5⟩ := h
  exact ⟨x, y, d, s _ _ h1, dp_mono s h2, dp_mono s h3, h4, h5⟩
end Kt

namespace Kt
open PySem PySem.Spec PyProof.Rows L2 GxR Kr
/-! ### nothing is refused where all is right -/
section
variable {s : Shf} {i : Nat} {d : Deal}
theorem who_int (h : s.deals[i]? = some d) : s.who (.int (i : Nat)) = some i := by
  have l := get_lt h
  show (if 0 ≤ ((i : Nat) : Int) ∧ ((i : Nat) : Int) < (s.deals.length : Int) then some ((i : Nat) : Int).toNat else none) = some i
  rw [if_pos (by omega), Int.toNat_natCast]
theorem openE_none (h : s.deals[i]? = some d) (o : d.mood = .opn) : s.openE (.int (i : Nat)) = none := by
  unfold Shf.openE
  rw [who_int h]
  show (match s.deals[i]? with
    | none => some Er.noDealing
    | some d => if d.mood = .opn then none else some .over) = none
  rw [h]
  exact if_pos o
theorem numE_none (h : s.deals[i]? = some d) : s.numE (.int (i : Nat)) = none := by
  unfold Shf.numE
  rw [who_int h]
theorem readE_none (h : s.deals[i]? = some d) (o : d.mood = .opn) {n : Str} (hn : Name n) : s.readE (.int (i : Nat)) (.str n) = none := by
  unfold Shf.readE
  rw [openE_none h o, hn.v]
  rfl
theorem underE_none (h : s.deals[i]? = some d) (o : d.mood = .opn) {n : Str} (hn : headB n = true) : s.underE (.int (i : Nat)) (.str n) = none := by
  unfold Shf.underE
  rw [openE_none h o, show headV (.str n) = true from hn]
  rfl
theorem writeE_none (h : s.deals[i]? = some d) (o : d.mood = .opn) {n : Str} (hn : Name n) {v : V} (hv : valueV v = true) (ht : s.taken i n = false) (hl : s.late d n = false) : s.writeE (.int (i : Nat)) (.str n) v = none := by
  unfold Shf.writeE Shf.putE
  rw [openE_none h o, hn.v, hv, who_int h]
  show (match s.deals[i]? with
    | some d => (ifNot (!s.taken i n) .taken).or (ifNot (!s.late d n) .late)
    | none => none) = none
  rw [h]
  show (ifNot (!s.taken i n) .taken).or (ifNot (!s.late d n) .late) = none
  rw [ht, hl]
  rfl
theorem backE_none (h : s.deals[i]? = some d) (o : d.mood = .opn) {m : Nat} (hm : m ≤ d.puts.length) : s.backE (.int (i : Nat)) (.int (m : Nat)) = none := by
  unfold Shf.backE
  rw [openE_none h o, who_int h]
  show (match s.deals[i]? with
    | some d => ifNot (markV d.puts.length (.int (m : Nat))) .noMark
    | none => none) = none
  rw [h]
  show ifNot (decide (0 ≤ (m : Int) ∧ (m : Int) ≤ (d.puts.length : Int))) .noMark = none
  rw [decide_eq_true (by omega)]
  rfl
theorem no_refusal {F : Foot} {C : Er → Addr} {S : SAt} {H : Hp} {A : Ads} {p : Addr} {r : Option Er} {E : XK} (h : r = none) : Refuses F C S H A p s r E := fun e z => by
  rw [h] at z
  cases z
theorem put_get (h : s.deals[i]? = some d) (e : Deal) (k : Nat) : (s.put i e).deals[k]? = if k = i then some e else s.deals[k]? := set_get (get_lt h) k
end
/-- some name of the pool -/
theorem pool_at {H : Hp} {po : Addr} {ns : List Str} (h : Pool H po ns) (z : Int) : ∃ nm, Name nm ∧ nm ∈ ns ∧ atI (ns.map V.str) (z.fmod ((ns.map V.str).length : Int)) = some (.str nm) ∧ ¬ ((ns.map V.str).length : Int) = 0 := by
  have nl := h.lo
  have hnl : (ns.map V.str).length = ns.length := List.length_map _
  have e1 : z.fmod ((ns.map V.str).length : Int) = z % (ns.length : Int) := by
    rw [hnl]
    exact Int.fmod_eq_emod_of_nonneg _ (by omega)
  have i0 : 0 ≤ z % (ns.length : Int) := Int.emod_nonneg _ (by omega)
  have i1 : z % (ns.length : Int) < (ns.length : Int) := Int.emod_lt_of_pos _ (by omega)
  obtain ⟨j, hj⟩ : ∃ j : Nat, z % (ns.length : Int) = (j : Int) := ⟨_, (Int.toNat_of_nonneg i0).symm⟩
  have jl : j < ns.length := by omega
  exact ⟨ns[j], h.ok _ (List.getElem_mem jl), List.getElem_mem jl, by
    rw [e1]
    exact at_of hj (by rw [List.getElem?_map, List.getElem?_eq_getElem jl]; rfl), by rw [hnl]; omega⟩
theorem Pool.mono {H H' : Hp} {po : Addr} {ns : List Str} (h : Pool H po ns) (s : Same H H') : Pool H' po ns := ⟨s _ _ h.at', h.lo, h.hi, h.ok⟩
theorem fmod_nat (z : Int) (n : Nat) : ∃ j : Nat, z.fmod ((n : Int) + 1) = (j : Int) ∧ j ≤ n := by
  have e : z.fmod ((n : Int) + 1) = z % ((n : Int) + 1) := Int.fmod_eq_emod_of_nonneg _ (by omega)
  have i0 : 0 ≤ z % ((n : Int) + 1) := Int.emod_nonneg _ (by omega)
  have i1 : z % ((n : Int) + 1) < (n : Int) + 1 := Int.emod_lt_of_pos _ (by omega)
  exact ⟨(z % ((n : Int) + 1)).toNat, by omega, by omega⟩
theorem notall {F : Foot} {A B : Ads} {H : Hp} {b : Addr} (hA : ∀ b, A b → ∃ o, H b = some o) (hB : ∀ b, B b → ∃ o, H b = some o) (w : F.W H) (n : H b = none) : ¬ F.all A B b := fun z => by
  have : ∃ o, H b = some o := by
    rcases z with (z | z) | z
    · exact hA b z
    · exact F.has H b w z
    · exact hB b z
  obtain ⟨o, ho⟩ := this
  rw [n] at ho
  cases ho
theorem told_eq {s : Shf} {d : Deal} {m : Prs} (h : ∀ n, upTo (s.vers n) d.start = tells m n) : s.told d = readV (tells m) d.puts := by
  unfold Shf.told
  rw [funext h]
theorem tells_put (m l : Prs) : tells (putAll m (putAll [] l)) = readV (tells m) l := funext fun n => by
  rw [tells_all]
  unfold readV
  rw [putAll_idem]
theorem readV_get (m l : Prs) (n : Str) : readV (tells m) l n = (valV (putAll [] l) n).getD ((valV m n).getD .non) := by
  unfold readV tells
  cases valV (putAll [] l) n <;> rfl
theorem dict_get {H : Hp} {a : Addr} {m : Prs} (h : DictAt H a m) (n : Str) : DGet H a (.str n) (valV m n) := by
  have q1 := DGet.k (k := (Sum.inr n : Key)) h.at'
  rw [dk_val] at q1
  exact q1
end Kt

namespace Kt
open PySem PySem.Spec PyProof.Rows L2 GxR Kr
/-! ### versions and places -/
theorem upTo_all {vs : List (Nat × V)} {m : Nat} (h : ∀ x ∈ vs, x.1 ≤ m) : upTo vs m = newest vs := by
  unfold upTo newest
  rw [List.filter_eq_self.mpr fun x hx => decide_eq_true (h x hx)]
theorem newest_snoc (vs : List (Nat × V)) (x : Nat × V) : newest (vs ++ [x]) = x.2 := by
  unfold newest
  rw [List.getLast?_append]
  rfl
theorem Wf.now {s : Shf} (w : Wf s) (n : Str) : upTo (s.vers n) s.row.length = s.value n := upTo_all fun x hx => (w.num n x hx).2.1
theorem late_now {s : Shf} {d : Deal} (w : Wf s) (h : d.start = s.row.length) (n : Str) : s.late d n = false := by
  unfold Shf.late
  rw [List.any_eq_false]
  intro x hx
  have l := (w.num n x hx).2.1
  rw [decide_eq_true_eq]
  omega
/-- where none is kept behind its start, its place is the row's end -/
theorem place_end {s : Shf} {d : Deal} (h : ∀ (k : Nat) (e : Deal), k ∈ s.row → s.deals[k]? = some e → mustB e d = false) : s.place d = some s.row.length := by
  have e1 : s.row.findIdx (s.sel fun e => mustB e d) = s.row.length := by
    rw [List.findIdx_eq_length]
    intro k hk
    unfold Shf.sel
    cases e : s.deals[k]? with
    | none => rfl
    | some x => exact h k x hk e
  unfold Shf.place
  rw [e1]
  show (if (s.row.drop s.row.length).any _ = true then none else some s.row.length) = _
  rw [List.drop_length]
  rfl
theorem place_now {s : Shf} {d : Deal} (w : Wf s) (h : d.start = s.row.length) : s.place d = some s.row.length := place_end fun k e hk he => by
  obtain ⟨e2, he2, hm⟩ := (w.row k).mp hk
  rw [he] at he2
  have e3 := Option.some.inj he2
  have l := (w.stamp k e he (by rw [e3]; exact hm)).2
  unfold mustB
  rw [decide_eq_false (by omega), Bool.and_false]
theorem value_keep (s : Shf) (i : Nat) (d : Deal) (p : Nat) (n : Str) : (s.keepAt i d p).value n = (match valV (putAll [] d.puts) n with
  | some v => v
  | none => s.value n) := by
  unfold Shf.value
  show newest (addVers s d n) = _
  unfold addVers
  cases valV (putAll [] d.puts) n with
  | none => rfl
  | some v => exact newest_snoc _ _
theorem insert_end {α : Type} (l : List α) (x : α) : l.insertIdx l.length x = l ++ [x] := by
  induction l with
  | nil => rfl
  | cons y r ih =>
    show y :: r.insertIdx r.length x = y :: (r ++ [x])
    rw [ih]
/-! ### a shelf where one dealing at most is open -/
structure Solo (s : Shf) (m : Prs) (pu : Option Prs) : Prop where
  wf : Wf s
  val : ∀ n, s.value n = tells m n
  okm : Ok m
  nd : (m.map (·.1)).Nodup
  key : ∀ n ∈ m.map (·.1), s.vers n ≠ []
  none : pu = none → ∀ (j : Nat) (d : Deal), s.deals[j]? = some d → ¬ d.mood = .opn
  one : ∀ ps, pu = some ps → 1 ≤ s.deals.length ∧ (∃ d, s.deals[s.deals.length - 1]? = some d ∧ d.mood = .opn ∧ d.puts = ps ∧ d.start = s.row.length) ∧ ∀ (j : Nat) (d : Deal), s.deals[j]? = some d → j ≠ s.deals.length - 1 → ¬ d.mood = .opn
theorem Solo.len {s : Shf} {m : Prs} {pu : Option Prs} (h : Solo s m pu) : m.length ≤ s.ops := by
  have h1 : (m.map (·.1)).length ≤ s.named.length := nodup_len h.nd fun n hn => h.wf.named n (h.key n hn)
  have h2 := h.wf.len.2.2.1
  rw [List.length_map] at h1
  omega
theorem solo_new : Solo Shf.new [] none := ⟨wf_new, fun n => rfl, ok_nil, List.nodup_nil, (fun n h => by cases h), fun _ j d h => (by cases h), fun ps h => (by cases h)⟩
theorem solo_begin {s : Shf} {m : Prs} (h : Solo s m none) : Solo s.begin m (some []) := by
  have e : s.begin.deals.length = s.deals.length + 1 := by
    show (s.deals ++ [_]).length = _
    rw [List.length_append]
    rfl
  refine ⟨wf_begin h.wf, h.val, h.okm, h.nd, h.key, fun z => (by cases z), fun ps z => ?_⟩
  cases z
  rw [e]
  refine ⟨Nat.succ_le_succ (Nat.zero_le _), ⟨⟨s.row.length, .opn, [], [], [], [], 0⟩, ?_, rfl, rfl, rfl⟩, fun j d hj n => ?_⟩
  · show (s.deals ++ [_])[s.deals.length + 1 - 1]? = _
    rw [Nat.add_sub_cancel, List.getElem?_append_right (Nat.le_refl _), Nat.sub_self]
    rfl
  · have hj2 : (s.deals ++ [⟨s.row.length, .opn, [], [], [], [], 0⟩])[j]? = some d := hj
    have l := get_lt hj2
    rw [List.length_append] at l
    have l2 : j < s.deals.length + 1 := l
    rw [List.getElem?_append_left (by omega)] at hj2
    exact h.none rfl j d hj2
theorem Solo.taken {s : Shf} {m ps : Prs} (h : Solo s m (some ps)) (n : Str) : s.taken (s.deals.length - 1) n = false := by
  unfold Shf.taken
  rw [List.any_eq_false]
  intro j _
  by_cases e : j = s.deals.length - 1
  · rw [decide_eq_false (fun z => z e), Bool.false_and]
    exact Bool.false_ne_true
  · cases e2 : s.deals[j]? with
    | none =>
      rw [Bool.and_false]
      exact Bool.false_ne_true
    | some d =>
      show ¬ (decide (j ≠ s.deals.length - 1) && (decide (d.mood = .opn) && d.wrote n)) = true
      rw [decide_eq_false ((h.one ps rfl).2.2 j d e2 e), Bool.false_and, Bool.and_false]
      exact Bool.false_ne_true
theorem solo_done {s s' : Shf} {m : Prs} {d d' : Deal} (h : Solo s m (some d.puts)) (w : Wf s') (hd : s.deals[s.deals.length - 1]? = some d) (hd' : s'.deals[s.deals.length - 1]? = some d') (o : d'.mood = .opn) (st : d'.start = d.start) (hv : s'.vers = s.vers) (hr : s'.row = s.row) (hl : s'.deals.length = s.deals.length)
    (ho : ∀ j, j ≠ s.deals.length - 1 → s'.deals[j]? = s.deals[j]?) : Solo s' m (some d'.puts) := by
  obtain ⟨l1, ⟨d2, g1, g2, g3, g4⟩, g5⟩ := h.one _ rfl
  rw [hd] at g1
  cases g1
  refine ⟨w, fun n => ?_, h.okm, h.nd, fun n hn => by rw [hv]; exact h.key n hn, fun z => (by cases z), fun ps z => ?_⟩
  · unfold Shf.value
    rw [hv]
    exact h.val n
  · cases z
    rw [hl]
    refine ⟨l1, ⟨d', hd', o, rfl, by rw [st, g4, hr]⟩, fun j e he n => ?_⟩
    rw [ho j n] at he
    exact g5 j e he n
theorem solo_keep {s : Shf} {m : Prs} {d : Deal} (h : Solo s m (some d.puts)) (hd : s.deals[s.deals.length - 1]? = some d) : Solo (s.keepAt (s.deals.length - 1) d s.row.length) (putAll m (putAll [] d.puts)) none := by
  obtain ⟨l1, ⟨d2, g1, g2, g3, g4⟩, g5⟩ := h.one _ rfl
  rw [hd] at g1
  cases g1
  have okp := (h.wf.puts _ d hd).1
  refine ⟨wf_keep h.wf hd g2 (Nat.le_refl _), fun n => ?_, ok_putAll h.okm (ok_putAll ok_nil okp), putAll_keys _ h.nd, fun n hn => ?_, fun _ j e he o => ?_, fun ps z => by cases z⟩
  · rw [value_keep, tells_put]
    unfold readV
    cases valV (putAll [] d.puts) n with
    | none => exact h.val n
    | some v => rfl
  · show addVers s d n ≠ []
    unfold addVers
    cases e : valV (putAll [] d.puts) n with
    | some v =>
      intro z
      have z2 := congrArg List.length z
      rw [List.length_append] at z2
      have z3 : (s.vers n).length + 1 = 0 := z2
      omega
    | none =>
      refine h.key n ?_
      obtain ⟨q, hq, eq⟩ := List.mem_map.mp hn
      rcases putAll_sub q hq with y | y
      · exact List.mem_map.mpr ⟨q, y, eq⟩
      · have y2 := (val_mem (putAll_keys d.puts (m := []) List.nodup_nil)).mp (show (q.1, q.2) ∈ putAll [] d.puts from y)
        rw [eq, e] at y2
        cases y2
  · have he2 : (s.deals.set (s.deals.length - 1) { d with mood := .kept, stamp := s.row.length + 1 })[j]? = some e := he
    rw [set_get (get_lt hd)] at he2
    by_cases q : j = s.deals.length - 1
    · rw [if_pos q] at he2
      rw [← Option.some.inj he2] at o
      cases o
    · rw [if_neg q] at he2
      exact g5 j e he2 q o
theorem solo_drop {s : Shf} {m : Prs} {d : Deal} (h : Solo s m (some d.puts)) (hd : s.deals[s.deals.length - 1]? = some d) : Solo (s.gone (s.deals.length - 1) d) m none := by
  obtain ⟨l1, ⟨d2, g1, g2, g3, g4⟩, g5⟩ := h.one _ rfl
  rw [hd] at g1
  cases g1
  refine ⟨wf_gone h.wf hd g2, h.val, h.okm, h.nd, h.key, fun _ j e he o => ?_, fun ps z => by cases z⟩
  have he2 : (s.deals.set (s.deals.length - 1) { d with mood := .gone })[j]? = some e := he
  rw [set_get (get_lt hd)] at he2
  by_cases q : j = s.deals.length - 1
  · rw [if_pos q] at he2
    rw [← Option.some.inj he2] at o
    cases o
  · rw [if_neg q] at he2
    exact g5 j e he2 q o
/-- the law's account of a shelf: a dict -/
def OneAt (H : Hp) (o p L kp : Addr) (b : Nat) (pu : V) (Hd : Addr) : Prop := ∃ m : Prs, H o = some (.dK (dk m)) ∧ m.length ≤ 6 ∧ valV m "shelf" = some (.ref p) ∧ valV m "left" = some (.ref L) ∧ valV m "kept" = some (.ref kp) ∧ valV m "begun" = some (.int (b : Nat)) ∧ valV m "puts" = some pu ∧ valV m "held" = some (.ref Hd)
def sp_new1 (F : Foot) (S : SAt) : Sp := fun vs H Q _ => vs = [] ∧ F.W H ∧ ∀ (H' : Hp) (A : Ads) (o p L kp Hd : Addr), Same H H' → F.W H' → S H' A p Shf.new → (∀ b, A b → H b = none) → (∀ b, b = o ∨ b = L ∨ b = kp ∨ b = Hd → H b = none ∧ ¬ A b) → o ≠ L → kp ≠ Hd →
  OneAt H' o p L kp 0 .non Hd → H' L = some (.dK []) → H' kp = some (.lst []) → H' Hd = some (.lst []) → Q (.ref o) H'
theorem one_vals (a b c d e f : V) : let l : Prs := [("shelf", a), ("left", b), ("kept", c), ("begun", d), ("puts", e), ("held", f)]; putAll [] l = l ∧ valV l "shelf" = some a ∧ valV l "left" = some b ∧ valV l "kept" = some c ∧ valV l "begun" = some d ∧ valV l "puts" = some e ∧ valV l "held" = some f := by
  intro l
  have n1 : ¬ (("shelf" : Str) = "left") := by decide +kernel
  have n2 : ¬ (("shelf" : Str) = "kept") := by decide +kernel
  have n3 : ¬ (("shelf" : Str) = "begun") := by decide +kernel
  have n4 : ¬ (("shelf" : Str) = "puts") := by decide +kernel
  have n5 : ¬ (("shelf" : Str) = "held") := by decide +kernel
  have n6 : ¬ (("left" : Str) = "kept") := by decide +kernel
  have n7 : ¬ (("left" : Str) = "begun") := by decide +kernel
  have n8 : ¬ (("left" : Str) = "puts") := by decide +kernel
  have n9 : ¬ (("left" : Str) = "held") := by decide +kernel
  have n10 : ¬ (("kept" : Str) = "begun") := by decide +kernel
  have n11 : ¬ (("kept" : Str) = "puts") := by decide +kernel
  have n12 : ¬ (("kept" : Str) = "held") := by decide +kernel
  have n13 : ¬ (("begun" : Str) = "puts") := by decide +kernel
  have n14 : ¬ (("begun" : Str) = "held") := by decide +kernel
  have n15 : ¬ (("puts" : Str) = "held") := by decide +kernel
  have nd : (l.map (·.1)).Nodup := by
    show (["shelf", "left", "kept", "begun", "puts", "held"] : List Str).Nodup
    decide +kernel
  refine ⟨putAll_new (l := l) (m := []) nd, valV_pos rfl, (valV_neg n1).trans (valV_pos rfl), (valV_neg n2).trans ((valV_neg n6).trans (valV_pos rfl)), (valV_neg n3).trans ((valV_neg n7).trans ((valV_neg n10).trans (valV_pos rfl))), (valV_neg n4).trans ((valV_neg n8).trans ((valV_neg n11).trans ((valV_neg n13).trans (valV_pos rfl)))),
    (valV_neg n5).trans ((valV_neg n9).trans ((valV_neg n12).trans ((valV_neg n14).trans ((valV_neg n15).trans (valV_pos rfl)))))⟩
end Kt

set_option maxHeartbeats 2000000
namespace Kt
open PySem PySem.Spec PyProof.Rows L2 GxR
/-! ### any, all of a generator expression over a list or a range, its element reading what the def holds -/
def GenEl (X : Cx) (sc : Scope) (x : Str) (e : Expr) (P : Addr) (s1 : Shared) (Pv : Nat → Value → Prop) (f : Nat → Bool) : Prop :=
  ∀ (en : Env) (B : Around) (R : Value → Shared → Prop) (i : Nat) (v : Value) (z : Shared) (m : Str → Option Value),
    en.scope = sc → en.globals = mainGlobals → en.cells = cloFrom X.env.cells sc.names [] → B.handled = none → B.depth ≤ X.A.depth + 1 → B.units ≤ X.A.units + 8 →
      (∀ b o, b ≠ P → s1.heap.get? b = some o → z.heap.get? b = some o) → z.heap.Ns en.locals m → m x = some v → Pv i v →
        wpAny (model X.prog X.w) B (eval e en) (fun y z' => y = .bool (f i) ∧ Keeps z z') R z
/-- what iter(v) gives: a new object at the end -/
def Iters (X : Cx) (P : Addr) (v : Value) (n : Nat) (Pv : Nat → Value → Prop) (s1 : Shared) : Prop :=
  ∀ (Q : Value → Shared → Prop) (E : Value → Shared → Prop), (∀ (ob : Obj) (fp : List Addr) (St : Nat → Heap → Prop),
    (∀ A' : Around, A'.handled = none → Walks X.prog X.w A' s1.heap.objs.size fp [s1.heap.objs.size] n Pv St) → St 0 (s1.heap.push ob) → (∀ b ∈ fp, b ≤ s1.heap.objs.size) → P ∉ fp →
      Q (.ref s1.heap.objs.size) { s1 with heap := s1.heap.push ob }) → wpAny (model X.prog X.w) X.A (pyIter v) Q E s1
section
variable {X : Cx} {pins : List (Addr × Obj)} {σ : L2.St} {H : Hp} {s : Shared}
theorem iters_list {K : PySem.W.Frag} {l P : Addr} {xs : List V} {ps : Array Value} (I : Inv X pins σ H s) (hq : SqL K H l xs) (hP : H P = some (.tbl ps)) (eK : X.K = K := by rfl) :
    ∃ its : List Value, Vals xs its ∧ Iters X P (.ref l) xs.length (fun i v => its[i]? = some v) s := by
  subst eK
  obtain ⟨its, rv, hl, _⟩ := I.list hq
  refine ⟨its, rv, fun Q E h => ?_⟩
  have hl2 := hl.isList
  have lt : l < s.heap.objs.size := by obtain ⟨_, _, e, _⟩ := hl; exact Heap.lt_size e
  have eP : s.heap.get? P = some { cls := .none, data := .fields ps } := I.hok P _ hP
  have ltP := Heap.lt_size eP
  refine wpAny_pyIter_list hl2 (h _ [s.heap.objs.size, l] (fun i h => h.IsListIter s.heap.objs.size l i ∧ h.IsList l its.toArray) (fun A' hA => ?_) ⟨⟨_, Heap.get?_push_size _ rfl, rfl, rfl⟩, hl2.push _⟩ (fun b hb => ?_) fun hb => ?_)
  · have W := Walks.list (prog := X.prog) (w := X.w) hA s.heap.objs.size l (Nat.ne_of_lt lt) its.toArray
    have e1 : its.toArray.size = xs.length := by rw [List.size_toArray]; exact rv.length.symm
    rw [e1] at W
    have e2 : (fun (i : Nat) (v : Value) => its.toArray[i]? = some v) = fun i v => its[i]? = some v := by
      funext i v
      rw [List.getElem?_toArray]
    rw [e2] at W
    exact W
  · rcases List.mem_cons.mp hb with z | z
    · rw [z]
      exact Nat.le_refl _
    · rw [List.mem_singleton.mp z]
      exact Nat.le_of_lt lt
  · rcases List.mem_cons.mp hb with z | z
    · exact absurd ltP (by rw [z]; exact Nat.lt_irrefl _)
    · obtain ⟨o, n, e, c, _⟩ := hl
      rw [← List.mem_singleton.mp z, eP] at e
      cases e
      cases c
def GenReady (X : Cx) (pins : List (Addr × Obj)) (σ : L2.St) (H1 : Hp) (P : Addr) (n : Nat) (f : Nat → Bool) (g : Addr) (s5 : Shared) : Prop :=
  ∃ (fp wr : List Addr) (G : Array GenState → Array GenState → Prop) (F : Nat → Value → Prop) (St : Nat → Shared → Prop),
    WalksS X.prog X.w X.A.in1 g fp wr G n F St ∧ St 0 s5 ∧ TruthOf X.prog X.w X.A.in1 F f ∧ ∀ s', PySem.Moved wr G s5 s' → ∃ H2, Tabbed P H1 H2 ∧ Inv X pins σ H2 s'
theorem gen_made {c P : Addr} {elt iter : Expr} {x : Str} {px gp : Pos} {sc : Scope} {te : TE} {k : Nat} {G : Value → Shared → Prop} {R : V → Hp → Prop}
    (hr : Room k X.A) (TB : TabB X.base X.mg c P) (hcode : X.env.code = .ref c) (S : GenS X.env sc x) (hi : PE X iter te)
    (hf : ∀ v, genFold iter X.env v = pure v) (I : Inv X pins σ H s) (h : te σ H fun v H1 => TabG H1 P ∧ R v H1)
    (hel : ∀ (v : V) (u : Value) (H1 : Hp) (s1 : Shared), Inv X pins σ H1 s1 → TabG H1 P → RelV v u → R v H1 → ∃ (n : Nat) (Pv : Nat → Value → Prop) (f : Nat → Bool), Iters X P u n Pv s1 ∧ GenEl X sc x elt P s1 Pv f ∧
      ∀ g sg, GenReady X pins σ H1 P n f g sg → G (.ref g) sg) :
    wpAny (model X.prog X.w) X.A (eval (.GeneratorExp elt [⟨.Name x px, iter, [], 0⟩] sc gp) X.env) G X.xe s := by
  refine wpAny_GeneratorExp_walksQD hr.hd S.co (closure_ok S.free) S.cell S.dot S.loc S.kind (by have := hr.dp; omega) ?_ hf
  refine thn (hi.run pins s σ H _ I h) fun u sa ⟨v, H1, Ia, rv, hTab, hR⟩ => ?_
  obtain ⟨n, Pv, f, hit, hE, hQ⟩ := hel v u H1 sa Ia hTab rv hR
  obtain ⟨ps, hP, htr⟩ := hTab
  refine hit _ _ fun ob fp St W hst hfp hPf => ?_
  have eP : sa.heap.get? P = some { cls := .none, data := .fields ps } := Ia.hok P _ hP
  have ltP : P < sa.heap.objs.size := Heap.lt_size eP
  have eP2 : (sa.heap.push ob).get? P = some { cls := .none, data := .fields ps } := Heap.get?_push_of_some _ eP
  have hcd : PySem.W.CodeHd (sa.heap.push ob) c P := TB.code.keeps fun b o e => Heap.get?_push_of_some _ (Ia.bk b o e)
  have nl : (sa.heap.push ob).NoLimit := Ia.nolimit.push ob
  have nsz : (sa.heap.push ob).objs.size = sa.heap.objs.size + 1 := Heap.size_push ..
  have ltS : cStatics < sa.heap.objs.size := let ⟨_, q, _⟩ := Ia.nolimit; q.lt
  have neS : cStatics ≠ P := fun q => by
    obtain ⟨_, ⟨o, es, ep, ho, hd, _⟩, _⟩ := Ia.nolimit
    rw [q, eP] at ho
    cases ho
    cases hd
  have onward : ∀ (cd : Value) (hh : Heap) (tk : Nat) (qs : Array Value), Heap.ExtBut P (sa.heap.push ob) hh → (sa.heap.push ob).objs.size ≤ hh.objs.size →
      hh.get? P = some { cls := .none, data := .fields qs } → (∃ more, qs = ps ++ more) → TriplesOk qs.toList →
      wpAny (model X.prog X.w) X.A (builtinsFor X.env.globals X.env.builtins) (fun bi z4 => ∃ (J : Addr) (fp wr : List Addr) (n : Nat) (V : Nat → Value → Prop) (S0 : Nat → Heap → Prop)
        (pz : Nat → Bool) (F : Nat → Value → Prop), Value.ref sa.heap.objs.size = .ref J ∧ (∀ B : Around, B.handled = none → Walks X.prog X.w B J fp wr n V S0) ∧ S0 0 z4.heap ∧
        (∀ b ∈ fp, b < z4.heap.objs.size) ∧ z4.heap.NoLimit ∧ cStatics ∉ wr ∧
        (∀ hr : Heap, (∀ b o, z4.heap.get? b = some o → hr.get? b = some o) → QuietGenD X.prog X.w (genEnv sc (cloFrom X.env.cells sc.names []) z4.heap.objs.size cd bi X.env) x [] elt (List.range z4.heap.objs.size) wr V pz F hr (X.A.depth + 1) (X.A.units + 8)) ∧
        (∀ a h5 tk gs, gs.bare = true → z4.heap.objs.size < a → h5.objs.size = a + 1 → (∀ b o, z4.heap.get? b = some o → h5.get? b = some o) →
          WalksS X.prog X.w X.A.in4 a (a :: z4.heap.objs.size :: List.range z4.heap.objs.size) (z4.heap.objs.size :: wr) (GenOnlyQ z4.gens.size) (passing pz n 0).length
            (fun j y => ∃ i, (passing pz n 0)[j]? = some i ∧ F i y) (GenAt X.prog X.w X.A.in4 a z4.gens.size z4.heap.objs.size (List.range z4.heap.objs.size) wr pz n F) →
          GenAt X.prog X.w X.A.in4 a z4.gens.size z4.heap.objs.size (List.range z4.heap.objs.size) wr pz n F 0 { z4 with gens := z4.gens.push gs, toks := tk, heap := h5 } →
          G (.ref a) { z4 with gens := z4.gens.push gs, toks := tk, heap := h5 })) X.xe { sa with heap := hh, toks := tk } := by
    intro cd hh tk qs hx hsz hq hmore htq
    have lt2 : sa.heap.objs.size < hh.objs.size := Nat.lt_of_lt_of_le (by rw [nsz]; exact Nat.lt_succ_self _) hsz
    obtain ⟨bm, obm, b1, b2, b3, b4, b5, b6, b7, b8⟩ := TB.bm
    have up : ∀ b o, b ≠ P → sa.heap.get? b = some o → hh.get? b = some o := fun b o hb e => hx b o hb (Heap.get?_push_of_some _ e)
    have hgl : hh.Ns mainGlobals X.mg := ((Ia.mod.glob.keeps Ia.bk).push ob).extBut hx TB.gP
    refine wpAny_builtinsFor (m := X.mg) (by rw [Ia.ok.glob]; exact hgl) b1 b2 (up _ _ b4 (Ia.bk _ _ b5)) b6 b7 b8 ?_
    refine ⟨sa.heap.objs.size, fp, [sa.heap.objs.size], n, Pv, St, (fun _ => true), (fun i y => y = .bool (f i)), rfl, W, ?_, ?_, nl.extBut hx neS, ?_, ?_, ?_⟩
    · exact (W X.A hr.hd).frame _ _ _ hst fun b hb o e => hx b o (fun q => hPf (by rw [← q]; exact hb)) e
    · intro b hb
      show b < hh.objs.size
      exact Nat.lt_of_le_of_lt (hfp b hb) lt2
    · intro q
      have e1 : cStatics = sa.heap.objs.size := List.mem_singleton.mp q
      exact absurd ltS (by rw [← e1]; exact Nat.lt_irrefl _)
    · intro hr2 hup
      refine ⟨fun B R2 i v z2 m2 hB hD hU hPv hn hm hkeep => ?_, fun B R2 i v z2 m2 hB hD hU hPv hp hn hm hkeep => ?_⟩
      · rw [List.forIn_nil]
        exact wpAny_pure ⟨rfl, keeps_tok _ _⟩
      · refine hE _ B R2 i v z2 m2 rfl Ia.ok.glob rfl hB hD hU (fun b o hb e => ?_) hn hm hPv
        have l1 : b < hh.objs.size := Nat.lt_trans (Heap.lt_size e) lt2
        refine hkeep b (List.mem_range.mpr l1) (fun q => ?_) o (hup _ _ (up b o hb e))
        have l2 := Heap.lt_size e
        rw [List.mem_singleton.mp q] at l2
        exact Nat.lt_irrefl _ l2
    · intro g h5 tk5 gs hgs hag hs5 hk5 W5 hat
      have en : (passing (fun _ => true) n 0) = List.range n := passing_true _
      rw [en, List.length_range] at W5
      refine hQ g _ ⟨_, _, _, _, _, W5.in4_1, hat, ?_, fun s' hmv => ?_⟩
      · intro j y sj Qj Ej hy hQj
        obtain ⟨i, hij, rfl⟩ := hy
        obtain ⟨_, ej⟩ := List.getElem?_eq_some_iff.mp hij
        rw [List.getElem_range] at ej
        subst ej
        exact wpAny_truthy_bool hQj
      · obtain ⟨more, em⟩ := hmore
        subst em
        have away : ∀ b o, sa.heap.get? b = some o → b ∉ hh.objs.size :: [sa.heap.objs.size] := fun b o e q => by
          have l1 := Heap.lt_size e
          rcases List.mem_cons.mp q with q | q
          · rw [q] at l1
            exact Nat.lt_irrefl _ (Nat.lt_of_lt_of_le l1 (Nat.le_of_lt lt2))
          · rw [List.mem_singleton.mp q] at l1
            exact Nat.lt_irrefl _ l1
        have I9 := inv_tab (more := more) (h' := s'.heap) (g' := s'.gens) (d' := s'.drawn) (t' := s'.toks) Ia hP
          (fun b o hb e => hmv.heap b o (away b o e) (hk5 b o (up b o hb e)))
          (hmv.heap P _ (away P _ eP) (hk5 P _ hq)) (AllBare.movedS (Ia.bare.push hgs) hmv)
        rw [sh_eta sa s' hmv.os] at I9
        exact ⟨_, ⟨⟨_, upd_same, htq⟩, fun b hb => upd_ne hb⟩, I9⟩
  refine ⟨nl, ?_⟩
  cases hf2 : codeAmong gp ps.toList with
  | none =>
    refine wpAny_genexprCodeX hcode (hcd.code eP2 htr) (hcd.tab eP2) hf2 fun c2 h2 tk hx hge hlt hco _ htb _ => ?_
    obtain ⟨_, _, _, _, _, _, _, _, _, _, _, _, _, _, _, _, _, _, _, ht2, _⟩ := hco
    exact onward _ h2 tk _ hx (Nat.le_trans hge (Nat.le_of_lt hlt)) htb.2 ⟨_, rfl⟩ ht2
  | some cv =>
    refine wpAny_genexprCode_hit hcode (hcd.code eP2 htr) hf2 ?_
    exact onward cv (sa.heap.push ob) sa.toks ps (Heap.ExtBut.refl _ _) (Nat.le_refl _) eP2 ⟨#[], by simp⟩ htr
/-- what the walked thing is: n items, item by item -/
abbrev Src := L2.St → Hp → V → Nat → (Nat → Bool) → Prop
def tGenAny (P : Addr) (C : Src) (te : TE) : TE := fun σ H Q => te σ H fun v H1 => TabG H1 P ∧ ∃ n f, C σ H1 v n f ∧ ∀ H2, Tabbed P H1 H2 → Q (.bl ((List.range n).any f)) H2
def tGenAll (P : Addr) (C : Src) (te : TE) : TE := fun σ H Q => te σ H fun v H1 => TabG H1 P ∧ ∃ n f, C σ H1 v n f ∧ ∀ H2, Tabbed P H1 H2 → Q (.bl ((List.range n).all f)) H2
/-- the element answers as C says -/
def SrcOk (X : Cx) (P : Addr) (sc : Scope) (x : Str) (elt : Expr) (C : Src) : Prop :=
  ∀ (pins : List (Addr × Obj)) (σ : L2.St) (H1 : Hp) (s1 : Shared) (v : V) (u : Value) (n : Nat) (f : Nat → Bool), Inv X pins σ H1 s1 → TabG H1 P → RelV v u → C σ H1 v n f →
    ∃ Pv, Iters X P u n Pv s1 ∧ GenEl X sc x elt P s1 Pv f
theorem pe_anyQ {c P : Addr} {elt iter : Expr} {x : Str} {px p pos gp : Pos} {sc : Scope} {C : Src} {te : TE} {k : Nat}
    (hr : Room k X.A) (hg : Gl X "any") (hm : X.mg "any" = none) (TB : TabB X.base X.mg c P) (hcode : X.env.code = .ref c) (S : GenS X.env sc x) (hi : PE X iter te) (hel : SrcOk X P sc x elt C)
    (hf : ∀ v, genFold iter X.env v = pure v)
    (he : starEach [.GeneratorExp elt [⟨.Name x px, iter, [], 0⟩] sc gp] X.env = (false, eval (.GeneratorExp elt [⟨.Name x px, iter, [], 0⟩] sc gp) X.env) :: starEach [] X.env := by rfl) :
    PE X (.Call (.Name "any" p) [.GeneratorExp elt [⟨.Name x px, iter, [], 0⟩] sc gp] [] pos) (tGenAny P C te) := by
  refine ⟨fun pins s σ H Q I h => ?_⟩
  refine wpAny_Call_Name_kw (ld_blt I hg hm (show bootBuiltins "any" = some (.builtin "any") by decide +kernel) (PyProof.Rows.callWith_builtin1 ?_ he (by rfl)))
  rw [he]
  refine Calls.spliced_cons ?_
  refine gen_made (R := fun v H1 => ∃ n f, C σ H1 v n f ∧ ∀ H2, Tabbed P H1 H2 → Q (.bl ((List.range n).any f)) H2) hr TB hcode S hi hf I h fun v u H1 s1 I1 hT rv hR => ?_
  obtain ⟨n, f, hC, hQ⟩ := hR
  obtain ⟨Pv, h1, h2⟩ := hel pins σ H1 s1 v u n f I1 hT rv hC
  refine ⟨n, Pv, f, h1, h2, fun g sg hG => ?_⟩
  obtain ⟨fp, wr, G, F, St, W, hst, htr, hI⟩ := hG
  refine Calls.spliced_nil ?_
  refine call_any_walkS (W.self 0 _ _ _ hst ⟨g, fp, wr, G, _, F, St, _, rfl, W, hst, htr, fun s' hmv => ?_⟩)
  obtain ⟨H2, hT2, J⟩ := hI s' hmv
  exact ⟨.bl _, H2, J, rfl, hQ H2 hT2⟩
theorem pe_allQ {c P : Addr} {elt iter : Expr} {x : Str} {px p pos gp : Pos} {sc : Scope} {C : Src} {te : TE} {k : Nat}
    (hr : Room k X.A) (hg : Gl X "all") (hm : X.mg "all" = none) (TB : TabB X.base X.mg c P) (hcode : X.env.code = .ref c) (S : GenS X.env sc x) (hi : PE X iter te) (hel : SrcOk X P sc x elt C)
    (hf : ∀ v, genFold iter X.env v = pure v)
    (he : starEach [.GeneratorExp elt [⟨.Name x px, iter, [], 0⟩] sc gp] X.env = (false, eval (.GeneratorExp elt [⟨.Name x px, iter, [], 0⟩] sc gp) X.env) :: starEach [] X.env := by rfl) :
    PE X (.Call (.Name "all" p) [.GeneratorExp elt [⟨.Name x px, iter, [], 0⟩] sc gp] [] pos) (tGenAll P C te) := by
  refine ⟨fun pins s σ H Q I h => ?_⟩
  refine wpAny_Call_Name_kw (ld_blt I hg hm (show bootBuiltins "all" = some (.builtin "all") by decide +kernel) (PyProof.Rows.callWith_builtin1 ?_ he (by rfl)))
  rw [he]
  refine Calls.spliced_cons ?_
  refine gen_made (R := fun v H1 => ∃ n f, C σ H1 v n f ∧ ∀ H2, Tabbed P H1 H2 → Q (.bl ((List.range n).all f)) H2) hr TB hcode S hi hf I h fun v u H1 s1 I1 hT rv hR => ?_
  obtain ⟨n, f, hC, hQ⟩ := hR
  obtain ⟨Pv, h1, h2⟩ := hel pins σ H1 s1 v u n f I1 hT rv hC
  refine ⟨n, Pv, f, h1, h2, fun g sg hG => ?_⟩
  obtain ⟨fp, wr, G, F, St, W, hst, htr, hI⟩ := hG
  refine Calls.spliced_nil ?_
  refine call_all_walkS (W.self 0 _ _ _ hst ⟨g, fp, wr, G, _, F, St, _, rfl, W, hst, htr, fun s' hmv => ?_⟩)
  obtain ⟨H2, hT2, J⟩ := hI s' hmv
  exact ⟨.bl _, H2, J, rfl, hQ H2 hT2⟩
/-! ### a name of the def, read within the generator -/
theorem gen_free {P : Addr} {sc : Scope} {y : Str} {i : Nat} {v : V} {ps : Array Value} (I : Inv X pins σ H s) (hP : H P = some (.tbl ps)) (hN : X.N[i]? = some y) (hσ : σ[i]? = some (some v)) (hk : X.env.scope.names.lookup y = some .cell)
    (hs : sc.names.lookup y = some .free) (hkind : sc.kind = .function) (hcl : ∀ cs : List (Str × Addr), (cloFrom cs sc.names []).lookup y = some ((cs.lookup y).getD 0)) (d1 : (y == ("__debug__" : Str)) = false := by decide) (d2 : (y == ("__classdict__" : Str)) = false := by decide) :
    ∃ u, RelV v u ∧ ∀ (en : Env) (B : Around) (R : Value → Shared → Prop) (Q : Value → Shared → Prop) (z : Shared) (p : Pos), en.scope = sc → en.cells = cloFrom X.env.cells sc.names [] → (∀ b o, b ≠ P → s.heap.get? b = some o → z.heap.get? b = some o) → Q u z →
      wpAny (model X.prog X.w) B (eval (.Name y p) en) Q R z := by
  obtain ⟨m, hn, hl⟩ := I.loc
  obtain ⟨u, r, l⟩ := hl i y v hN hσ (.inr (.inl hk))
  rcases l with ⟨k, _⟩ | ⟨_, c, hc, hcell⟩
  · have k2 : X.env.scope.names.lookup y = some .local := k
    rw [hk] at k2
    cases k2
  · refine ⟨u, r, fun en B R Q z p hsc hcs hkp hQ => ?_⟩
    have hcP : c ≠ P := fun e => by
      have q := I.freeC y c hc
      rw [e, hP] at q
      cases q
    have hz : z.heap.IsCell c (some u) := by
      obtain ⟨o, ho, hd⟩ := hcell
      exact ⟨o, hkp c o hcP ho, hd⟩
    have e1 : en.cells.lookup y = some c := by
      rw [hcs, hcl, hc]
      rfl
    exact wpAny_Name (wpAny_loadName_free (by rw [hsc]; exact hkind) (show en.scope.names.lookup y = some .free by rw [hsc]; exact hs) e1 hz hQ d2) d1
/-! ### min of a list of whole numbers, with a default -/
def rMinD (K : PySem.W.Frag) : List V → List V → Hp → VK → Prop := fun vs zs H Q => ∃ (a : Addr) (ns : List Int) (d : Int), vs = [V.ref a] ∧ zs = [.int d] ∧ SqL K H a (ns.map V.int) ∧ (ns = [] → Q (.int d) H) ∧ ∀ m, m ∈ ns → (∀ y, y ∈ ns → m ≤ y) → Q (.int m) H
theorem cr_minD (hc : X.calm = true) : CallRK X (.builtin "min") [Str.ofString "default"] (rMinD X.K) := by
  intro pins s σ H vs zs us ws Q I r rz h
  obtain ⟨a, ns, d, rfl, rfl, hs, h0, h1⟩ := h
  obtain ⟨its, rv, hl, _⟩ := I.list hs
  rw [Vals.ref1 r]
  obtain ⟨w1, rfl, e1⟩ := vals1 rz
  obtain ⟨t, rfl⟩ := e1
  have hln : ns.length = its.length := by
    have q := rv.length
    rw [List.length_map] at q
    exact q
  have hval : ∀ (i : Nat) (v : Value), its.toArray[i]? = some v → i < ns.length ∧ ∃ t, v = .int (ns.getD i 0) t := fun i v e => by
    have e2 : its[i]? = some v := by simpa using e
    have lt : i < its.length := (List.getElem?_eq_some_iff.mp e2).1
    have lt2 : i < ns.length := by omega
    obtain ⟨u, e3, r3⟩ := rv.get (i := i) (x := .int (ns.getD i 0)) (by
      rw [List.getElem?_map, List.getElem?_eq_getElem lt2, List.getD_eq_getElem?_getD, List.getElem?_eq_getElem lt2]
      rfl)
    rw [e2] at e3
    cases e3
    exact ⟨lt2, r3⟩
  show wpAny _ _ (call (.builtin "min") [.ref a] [(Str.ofString "default", .int d t)]) _ _ s
  refine call_min_walkD (PySem.W.iter_listW (A := X.A.in1) (I.ok.hd hc) hl.isList fun s2 e W st hfp hw hk => ?_)
  refine ⟨_, _, _, _, _, _, _, s.heap, (fun i j => decide (ns.getD i 0 < ns.getD j 0)), rfl, W, st, hfp, hw, hk, fun hz s' m => ?_, fun hp => ⟨?_, fun v s' hP m => ?_⟩⟩
  · obtain ⟨h', tk, rfl, hk'⟩ := PySem.W.moved_old e rfl m
    rw [List.size_toArray, ← hln] at hz
    exact ⟨.int d, H, I.kept hk', ⟨_, rfl⟩, h0 (List.eq_nil_of_length_eq_zero hz)⟩
  · intro i j vi vj s3 Q3 E3 _ hi hj hq
    exact CmpOf.ints_lt (fun i => ns.getD i 0) (fun i v e => (hval i v e).2) i j vi vj s3 Q3 E3 hi hj hq
  · obtain ⟨h', tk, rfl, hk'⟩ := PySem.W.moved_old e rfl m
    obtain ⟨lt, t2, rfl⟩ := hval _ v hP
    obtain ⟨b1, b2⟩ := argBest_lt (fun i => ns.getD i 0) (its.toArray.size - 1)
    refine ⟨.int _, H, I.kept hk', ⟨_, rfl⟩, h1 _ ?_ fun y hy => ?_⟩
    · rw [List.getD_eq_getElem?_getD, List.getElem?_eq_getElem lt]
      exact List.getElem_mem lt
    · obtain ⟨j, hj, rfl⟩ := List.getElem_of_mem hy
      have q := b2 j (by rw [List.size_toArray, ← hln]; omega)
      have e5 : ns.getD j 0 = ns[j] := by rw [List.getD_eq_getElem?_getD, List.getElem?_eq_getElem hj]; rfl
      rw [e5] at q
      exact q
end
end Kt

namespace Kt
open PySem PySem.Spec PyProof.Rows L2 GxR Kr
/-- a def that stands with its own code object at c -/
structure FunC (K : PySem.W.Frag) (x qual : Str) (st : Stmt) (f c : Addr) (fd : FuncData) : Prop where
  ex : ∃ (oc : Value) (od : Option Addr) (kV doc pm : Value) (an : Option Addr) (ct : Value) (osl : Array (Option Value)),
    fd = PySem.W.fnOf x qual (defArgs st) (defBody st) (defScope st) .none kV doc pm an (.ref c) ct ∧ K.lookup f = some ⟨oc, od, .func fd, osl⟩ ∧ PySem.W.codeIn K (.ref c) qual = true
  kp : PySem.W.keepIn K (.ref f) = true
/-- H' is H and more, but for the table at T -/
structure SameT (T : Addr) (H H' : Hp) : Prop where
  tab : TabG H' T
  at' : ∀ b o, b ≠ T → H b = some o → H' b = some o
theorem TabG.same {T : Addr} {H H' : Hp} (h : TabG H T) (s : Same H H') : TabG H' T := by
  obtain ⟨ps, h1, h2⟩ := h
  exact ⟨ps, s _ _ h1, h2⟩
theorem SameT.refl {T : Addr} {H : Hp} (h : TabG H T) : SameT T H H := ⟨h, fun _ _ _ e => e⟩
theorem SameT.of {T : Addr} {H H' : Hp} (h : TabG H T) (s : Same H H') : SameT T H H' := ⟨TabG.same h s, fun b o _ e => s b o e⟩
theorem SameT.trans {T : Addr} {H H1 H2 : Hp} (a : SameT T H H1) (b : SameT T H1 H2) : SameT T H H2 := ⟨b.tab, fun c o hc e => b.at' c o hc (a.at' c o hc e)⟩
theorem SameT.tabbed {T : Addr} {H H' : Hp} (h : Tabbed T H H') : SameT T H H' := ⟨h.1, fun b o hb e => by rw [h.2 b hb]; exact e⟩
theorem SameT.kept {T : Addr} {H H' : Hp} {b : Addr} {o : HO} (s : SameT T H H') (h : TabG H T) (e : H b = some o) (no : ∀ ps, o ≠ .tbl ps) : H' b = some o := s.at' b o (fun z => by
  obtain ⟨ps, h1, _⟩ := h
  rw [z, h1] at e
  exact no ps (Option.some.inj e).symm) e
theorem SameT.lst {T : Addr} {H H' : Hp} {b : Addr} {xs : List V} (s : SameT T H H') (h : TabG H T) (e : H b = some (.lst xs)) : H' b = some (.lst xs) := s.kept h e fun ps z => by cases z
def sp_place_in (T : Addr) : Sp := fun vs H Q _ => ∃ (a b c : Addr) (row ahead behind : List Int), vs = [.ref a, .ref b, .ref c] ∧ H a = some (.lst (row.map V.int)) ∧ H b = some (.lst (ahead.map V.int)) ∧ H c = some (.lst (behind.map V.int)) ∧
  row.Nodup ∧ (∀ x ∈ ahead, x ∈ row) ∧ (∀ x ∈ behind, x ∈ row) ∧ row.length ≤ 100000 ∧ ahead.length ≤ sizeLine ∧ behind.length ≤ sizeLine ∧ TabG H T ∧ ∀ H' : Hp, SameT T H H' → Q (placeV row ahead behind) H'
end Kt

set_option maxHeartbeats 2000000
namespace Kt
open PySem PySem.Spec PyProof.Rows L2 GxR Kr
/-- a dict comprehension over a walk -/
theorem dc_it {J : It} {n : Nat} {G : Hp → Prop} {Y : Nat → Hp → V → Hp → Prop} (w : Walk J n G Y) {g : TG} {tt : TT} {tk tv : TE} {vs : List Nat} {σ : L2.St} {H1 : Hp} {D : Addr} {Qd : Hp → Prop} (Pv : Nat → Hp → Prop)
    (h0 : Pv 0 (upd H1 D (.dK []))) (hG : ∀ i H, i ≤ n → Pv i H → G H)
    (hs : ∀ i x H H', i < n → Pv i H → Y i H x H' → g x (wipe σ vs) H' fun σ2 H2 => wipe σ2 vs = wipe σ vs ∧ tt σ2 H2 fun b H3 =>
      if b = true then tk σ2 H3 fun y H4 => tv σ2 H4 fun z H5 => ∃ kvs k, y = kV k ∧ H5 D = some (.dK kvs) ∧ kvs.length < sizeLine ∧ Pv (i + 1) (upd H5 D (.dK (putK kvs k z))) else Pv (i + 1) H3)
    (hd : ∀ H, Pv n H → Qd H) :
    ∃ W : Nat → Nat → Hp → Prop, (∃ m, W 0 m (upd H1 D (.dK []))) ∧ ∀ i m H, W i m H →
      (J.stop i H ∧ Qd H) ∨ (J.go i H ∧ ∃ Nx : Hp → Prop, (∀ H', Nx H' → ∃ m', m' < m ∧ W (i + 1) m' H') ∧ ∀ x H', J.yld i H x H' → g x (wipe σ vs) H' fun σ2 H2 => wipe σ2 vs = wipe σ vs ∧ tt σ2 H2 fun b H3 =>
        if b = true then tk σ2 H3 fun y H4 => tv σ2 H4 fun z H5 => ∃ kvs k, y = kV k ∧ H5 D = some (.dK kvs) ∧ kvs.length < sizeLine ∧ Nx (upd H5 D (.dK (putK kvs k z))) else Nx H3) := by
  refine ⟨fun i m H => m + i = n ∧ Pv i H, ⟨n, Nat.add_zero n, h0⟩, fun i m H hw => ?_⟩
  obtain ⟨e, p⟩ := hw
  have hg := hG i H (by omega) p
  rcases Nat.eq_zero_or_pos m with hm | hm
  · have ei : i = n := by omega
    subst ei
    exact .inl ⟨w.stops H hg, hd H p⟩
  · have lt : i < n := by omega
    exact .inr ⟨w.goes i H lt hg, Pv (i + 1), fun H' p' => ⟨m - 1, by omega, by omega, p'⟩, fun x H' y => hs i x H H' lt p (w.yields i H x H' lt hg y)⟩
section
variable {X : Cx}
theorem pg_tupK {K : PySem.W.Frag} {n : Nat} {es : List Expr} {k : Nat} {t : TGs} {pos : Pos} (hc : X.calm = true) (h : PGs X es t) (hn : (assignEach es X.env).length = n := by rfl) (hst : (assignEach es X.env).findIdx? (·.1) = none := by rfl) (eK : X.K = K := by rfl) :
    PG X (.Tuple es k pos) (gTup K n t) := by
  subst eK
  exact pg_tup hc h hn hst
theorem swD_true {kx vx : Expr} {gs : List Comprehension} {scope : Scope} {pos py : Pos} {y : Str} {l : Nat} {env : Env} (hk : env.scope.kind = .function) (hy : env.scope.names.lookup y = some .local) (hl : (py.line == pos.line) = true)
    (ha : (scope.names.any fun (n, k) => n == y && (k == .local || k == .cell)) = false) : swapsWith (.DictComp kx vx gs scope pos) (some (.Name y py)) l env = pure true := by
  have ky : env.kindOf y = some .local := hy
  have hb : env.blockKind = .function := by unfold Env.blockKind; rw [hk]; rfl
  unfold swapsWith
  simp only [hb, ky, ha, Expr.pos, hl]
  rfl
/-- y = {k: v for ..}, y a local, on one line -/
theorem ps_setDc {i : Nat} {y : Str} {py : Pos} {kx vx tg iter : Expr} {ifs : List Expr} {scope : Scope} {own : List (Str × Nat)} {pos spos : Pos} {wi : TI} {g : TG} {tt : TT} {tk tv : TE} (hc : X.calm = true) (hN : X.N.Nodup) (hy : X.N[i]? = some y) (hyl : X.env.scope.names.lookup y = some .local)
    (hsw : swapsWith (.DictComp kx vx [⟨tg, iter, ifs, 0⟩] scope pos) (some (.Name y py)) spos.line X.env = pure true) (hi : PI X tg iter wi) (ok : BlkOk X.N X.env.scope scope own)
    (hg : ∀ (s : Shared) (H : Hp) (C : Addr) (cl : List (Str × Addr)) (fp : List Addr), PG (X.blk s H scope (compEnvC scope cl C X.env) fp) tg g) (ht : ∀ (s : Shared) (H : Hp) (C : Addr) (cl : List (Str × Addr)) (fp : List Addr), PTs (X.blk s H scope (compEnvC scope cl C X.env) fp) ifs tt)
    (hk : ∀ (s : Shared) (H : Hp) (C : Addr) (cl : List (Str × Addr)) (fp : List Addr), PE (X.blk s H scope (compEnvC scope cl C X.env) fp) kx tk)
    (he : ∀ (s : Shared) (H : Hp) (C : Addr) (cl : List (Str × Addr)) (fp : List Addr), PE (X.blk s H scope (compEnvC scope cl C X.env) fp) vx tv) (hs : ∀ x, foldedSetIterable iter X.env x = pure x := by intro _; rfl) :
    PS X (.Assign [.Name y py] (.DictComp kx vx [⟨tg, iter, ifs, 0⟩] scope pos) spos) (tAsg (tDc wi g tt tk tv (own.map (·.2))) (gName i)) := by
  refine ⟨fun pins s σ H D I h => ?_⟩
  rw [exec_Assign_Name_used _ _ _ _ hsw]
  refine wpAny_bind (wpAny_standAt (wpAny_bind ?_))
  show wpAny _ X.A (do let _ ← comprehension (.DictComp kx vx [⟨tg, iter, ifs, 0⟩] scope pos) scope X.env (firstIterPos [⟨tg, iter, ifs, 0⟩] pos) newDict false (eval iter X.env) (some (assign (.Name y py) X.env))) _ _ s
  have h : tDc wi g tt tk tv (own.map (·.2)) σ H (fun x H1 => gName i x σ H1 D.nx) := h
  refine wpAny_bind (thn (dc_core (Qf := fun _ s' => SP X pins D .next s') hc hN I hi ok hg ht hk he hs h fun L C s' m H' I' q hn f => ?_) fun _ s' hq => wpAny_pure (wpAny_pure hq))
  show wpAny _ _ (assign (.Name y py) X.env (.ref L)) _ _ _
  refine wpAny_assign_Name (store_ok2 (v := V.ref L) I' hN hy (.inl hyl) rfl (fun s2 I2 ⟨a, sb, ha⟩ => ?_) (.inr hyl))
  obtain ⟨f0, f1, f2, f3, f4, f5⟩ := f
  have haC : C ≠ a := by
    rcases ha with z | z
    · rw [z]; exact f1
    · exact fun e => f4 y a z e.symm
  refine ⟨m, hn.sameBut sb haC, fun h3 sb3 => ?_⟩
  exact ⟨_, H', I2.turned (t' := s2.toks) (fun b o hb e => (sb3.2 b hb).trans e) f0 f1 f3 f4 f5, q⟩
/-- d[x] >= p within a generator over a list of numbers -/
def srcGe (K : PySem.W.Frag) (i j : Nat) : Src := fun σ H v n f => ∃ (l a : Addr) (ns : List Int) (kvs : List (Key × V)) (p : Int), v = .ref l ∧ SqL K H l (ns.map V.int) ∧ n = ns.length ∧ σ[i]? = some (some (.ref a)) ∧ H a = some (.dK kvs) ∧ σ[j]? = some (some (.int p)) ∧
  ∀ k x, ns[k]? = some x → ∃ q : Int, valV kvs (Sum.inl x : Key) = some (.int q) ∧ f k = decide (p ≤ q)
theorem src_ge {K : PySem.W.Frag} {P : Addr} {sc : Scope} {x y z : Str} {i j : Nat} {p1 p2 p3 p4 p5 : Pos} (eK : X.K = K := by rfl)
    (hN1 : X.N[i]? = some y) (hk1 : X.env.scope.names.lookup y = some .cell) (hs1 : sc.names.lookup y = some .free) (hc1 : ∀ cs : List (Str × Addr), (cloFrom cs sc.names []).lookup y = some ((cs.lookup y).getD 0))
    (hN2 : X.N[j]? = some z) (hk2 : X.env.scope.names.lookup z = some .cell) (hs2 : sc.names.lookup z = some .free) (hc2 : ∀ cs : List (Str × Addr), (cloFrom cs sc.names []).lookup z = some ((cs.lookup z).getD 0))
    (hkind : sc.kind = .function) (hx : sc.names.lookup x = some .local) (dx : (x == ("__debug__" : Str)) = false := by decide) (d1 : (y == ("__debug__" : Str)) = false := by decide) (d2 : (y == ("__classdict__" : Str)) = false := by decide) (d3 : (z == ("__debug__" : Str)) = false := by decide) (d4 : (z == ("__classdict__" : Str)) = false := by decide) :
    SrcOk X P sc x (.Compare (.Subscript (.Name y p1) (.Name x p2) p3) [.GtE] [.Name z p4] p5) (srcGe K i j) := by
  intro pins σ H1 s1 v u n f I hT rv hC
  obtain ⟨l, a, ns, kvs, p, rfl, hq, rfl, e1, ha, e2, hf⟩ := hC
  obtain ⟨ps, hP, _⟩ := hT
  cases rv
  obtain ⟨its, rvs, hit⟩ := iters_list I hq hP eK
  rw [List.length_map] at hit
  refine ⟨_, hit, ?_⟩
  obtain ⟨u1, r1, g1⟩ := gen_free I hP hN1 e1 hk1 hs1 hkind hc1 d1 d2
  obtain ⟨u2, r2, g2⟩ := gen_free I hP hN2 e2 hk2 hs2 hkind hc2 d3 d4
  obtain rfl : u1 = Value.ref a := r1
  obtain ⟨t2, rfl⟩ := r2
  intro en B R k w zz m hsc hgl hcs hB hD hU hkeep hL hm hw
  have ln : ns.length = its.length := by
    have q := rvs.length
    rw [List.length_map] at q
    exact q
  have lt : k < its.length := (List.getElem?_eq_some_iff.mp hw).1
  obtain ⟨w2, ew, rw2⟩ := rvs.get (i := k) (x := .int (ns[k]'(by omega))) (by rw [List.getElem?_map, List.getElem?_eq_getElem (by omega)]; rfl)
  have hw2 : its[k]? = some w := hw
  rw [hw2] at ew
  cases ew
  obtain ⟨q, hv, hfk⟩ := hf k _ (List.getElem?_eq_getElem (by omega))
  obtain ⟨z0, hd0, vs, rel, dd⟩ := dk_of I.hok ha
  obtain ⟨w', hw', rw'⟩ := RelO.some_of (v := .int q) (o := valueAt vs (Sum.inl (ns[k]'(by omega)) : Key)) (by rw [← hv]; exact rel.val _)
  have aP : a ≠ P := fun e => by rw [e, hP] at ha; cases ha
  have dd2 : zz.heap.DictOf (mixKind X.prog X.w) a vs := by
    obtain ⟨ob, es, ep, e, c⟩ := dd
    exact ⟨ob, es, ep, hkeep a ob aP e, c⟩
  obtain ⟨t', rfl⟩ := rw'
  refine wpAny_Compare1 (subD_of (Q := _) PySem.F.slot_dict_getitem.lookup (fun _ _ => rfl) (g1 en B _ _ zz _ hsc hcs hkeep ?_))
  refine wpAny_Name (wpAny_loadName_local (by rw [hsc]; exact hkind) (show en.scope.names.lookup x = some .local by rw [hsc]; exact hx) hL hm ?_) dx
  refine ⟨dd2.mapOf.typeIs, ?_⟩
  refine wpAny_getItem_of (knd := mixKind X.prog X.w) (k := (Sum.inl (ns[k]'(by omega)) : Key)) (kV_is rw2) dd2.mapOf hw' ?_
  refine g2 en B _ _ _ _ hsc hcs hkeep (ge_int ?_)
  exact ⟨congrArg Value.bool hfk.symm, keeps_tok _ _⟩
end
end Kt

namespace Kt
open PySem PySem.Spec PyProof.Rows L2 GxR Kr
/-! ### what a piece of the program changes -/
abbrev Nob : Ads := fun _ => False
/-- but for A and M all is as it was; A' is of A or new -/
structure Ch (M A A' : Ads) (H H' : Hp) : Prop where
  s : ∀ b o, ¬ A b → ¬ M b → H b = some o → H' b = some o
  g : ∀ b, A' b → A b ∨ H b = none
  n : ∀ b, H' b = none → H b = none
def Dj (A B : Ads) : Prop := ∀ b, A b → B b → False
/-- what is said of A alone, and what stands there -/
structure Loc (P : Hp → Ads → Prop) : Prop where
  frame : ∀ {H H' : Hp} {A : Ads}, P H A → (∀ b, A b → H' b = H b) → Tup H H' → P H' A
  has : ∀ {H : Hp} {A : Ads} {b : Addr}, P H A → A b → ∃ o, H b = some o
  notup : ∀ {H : Hp} {A : Ads} {b : Addr} {xs : List V}, P H A → A b → ¬ H b = some (.tup xs)
section
variable {M A A' A2 B B' : Ads} {H H' H2 : Hp}
theorem Ch.refl (M A : Ads) (H : Hp) : Ch M A A H H := ⟨fun _ _ _ _ e => e, fun _ h => .inl h, fun _ h => h⟩
theorem Ch.trans (h : Ch M A A' H H') (k : Ch M A' A2 H' H2) : Ch M A A2 H H2 := ⟨fun b o n m e => k.s b o (fun z => (h.g b z).elim n (fun y => by
  rw [e] at y
  cases y)) m (h.s b o n m e), fun b z => (k.g b z).elim (fun y => h.g b y) (fun y => .inr (h.n b y)), fun b z => h.n b (k.n b z)⟩
theorem Ch.same (s : Same H H') : Ch M A A H H' := ⟨fun b o _ _ e => s b o e, fun _ h => .inl h, fun b z => s.free z⟩
theorem Ch.upd {p : Addr} {o : HO} (h : A p) : Ch M A A H (upd H p o) := ⟨fun b u n _ e => by
  rw [upd_ne (fun z => n (by rw [z]; exact h))]
  exact e, fun _ h => .inl h, fun b z => upd_free z⟩
theorem Ch.new {p : Addr} {o : HO} (h : H p = none) : Ch M A (fun b => A b ∨ b = p) H (L2.upd H p o) := ⟨fun b u n _ e => by
  rw [upd_ne (fun z => by rw [z, h] at e; cases e)]
  exact e, fun b z => z.elim .inl fun z => .inr (by rw [z]; exact h), fun b z => upd_free z⟩
theorem Ch.more (h : Ch M A A' H H') (B : Ads) : Ch M (fun b => A b ∨ B b) (fun b => A' b ∨ B b) H H' := ⟨fun b o n m e => h.s b o (fun z => n (.inl z)) m e, fun b z => z.elim (fun z => (h.g b z).elim (fun y => .inl (.inl y)) .inr) (fun z => .inl (.inr z)), h.n⟩
theorem Ch.out (h : Ch M A A' H H') (k : ∀ b, A2 b → A' b ∨ A b ∨ H b = none) : Ch M A A2 H H' := ⟨h.s, fun b z => (k b z).elim (fun y => h.g b y) (fun y => y), h.n⟩
theorem Ch.ins (h : Ch M A A' H H') (k : ∀ b, A b → B b) (l : ∀ b, A2 b → A' b ∨ B b) : Ch M B A2 H H' := ⟨fun b o n m e => h.s b o (fun z => n (k b z)) m e, fun b z => (l b z).elim (fun y => (h.g b y).imp (k b) id) .inl, h.n⟩
theorem Ch.any (h : Ch Nob A A' H H') (M : Ads) : Ch M A A' H H' := ⟨fun b o n _ e => h.s b o n (fun z => z) e, h.g, h.n⟩
theorem Ch.at (h : Ch M A A' H H') {b : Addr} {o : HO} (n : ¬ A b) (m : ¬ M b) (e : H b = some o) : H' b = some o := h.s b o n m e
theorem Ch.dj (h : Ch M A A' H H') (d : Dj A B) (k : ∀ b, B b → ∃ o, H b = some o) : Dj A' B := fun b x y => (h.g b x).elim (fun z => d b z y) fun z => by
  obtain ⟨o, ho⟩ := k b y
  rw [z] at ho
  cases ho
theorem Ch.tup (h : Ch M A A' H H') (nA : ∀ b xs, A b → ¬ H b = some (.tup xs)) (nM : ∀ b xs, M b → ¬ H b = some (.tup xs)) : Tup H H' := fun b xs e => h.s b _ (fun z => nA b xs z e) (fun z => nM b xs z e) e
theorem Ch.frame {P : Hp → Ads → Prop} (L : Loc P) (h : Ch M A A' H H') (t : Tup H H') (d : Dj A B) (dM : Dj M B) (p : P H B) : P H' B := L.frame p (fun b hb => by
  obtain ⟨o, ho⟩ := L.has p hb
  rw [ho, h.s b o (fun z => d b z hb) (fun z => dM b z hb) ho]) t
theorem Dj.symm (h : Dj A B) : Dj B A := fun b x y => h b y x
/-- from pieces to what the shelf's deeds promise -/
theorem Ch.moved {F : Foot} (h : Ch F.M A A' H H') (w : F.W H') (t : Tup H H') : Moved F A A' H H' := ⟨w, fun b o e => by
  obtain ⟨e1, e2⟩ := cut_iff.mp e
  refine cut_iff.mpr ⟨fun z => ?_, h.s b o (fun y => e1 (.inl y)) (fun y => e1 (.inr y)) e2⟩
  rcases z with z | z
  · rcases h.g b z with y | y
    · exact e1 (.inl y)
    · rw [e2] at y
      cases y
  · exact e1 (.inr z), t, h.g, h.n⟩
theorem Ch.foot {F : Foot} (h : Ch Nob A A' H H') (w : F.W H) (d : Dj A F.M) : F.W H' := F.keep H H' (fun b hb => by
  obtain ⟨o, ho⟩ := F.has H b w hb
  rw [ho, h.s b o (fun z => d b z hb) (fun z => z) ho]) w
end
/-! ### the program's own: tables of code objects -/
def footOf (Ts : List Addr) : Foot where
  M := fun b => b ∈ Ts
  W := fun H => ∀ b ∈ Ts, TabG H b
  keep := fun H H' k w b hb => by
    obtain ⟨ps, h1, h2⟩ := w b hb
    exact ⟨ps, by rw [k b hb]; exact h1, h2⟩
  has := fun H b w hb => by
    obtain ⟨ps, h1, _⟩ := w b hb
    exact ⟨_, h1⟩
theorem foot_notup {Ts : List Addr} {H : Hp} (w : (footOf Ts).W H) (b : Addr) (xs : List V) (h : (footOf Ts).M b) : ¬ H b = some (.tup xs) := fun e => by
  obtain ⟨ps, h1, _⟩ := w b h
  rw [e] at h1
  cases h1
theorem tab_ch {T : Addr} {Ts : List Addr} {A : Ads} {H H' : Hp} (s : SameT T H H') (h : T ∈ Ts) (w : (footOf Ts).W H) (n : ∀ b, H' b = none → H b = none) : Ch (footOf Ts).M A A H H' ∧ (footOf Ts).W H' :=
  ⟨⟨fun b o _ m e => s.at' b o (fun z => m (by rw [z]; exact h)) e, fun _ z => .inl z, n⟩, fun b hb => by
    by_cases e : b = T
    · rw [e]
      exact s.tab
    · obtain ⟨ps, h1, h2⟩ := w b hb
      exact ⟨ps, s.at' b _ e h1, h2⟩⟩
/-! ### a dict of lists -/
def mdP (m : List (Str × Addr)) : Prs := m.map fun q => (q.1, V.ref q.2)
theorem mdP_keys (m : List (Str × Addr)) : (mdP m).map (·.1) = m.map (·.1) := by
  unfold mdP
  rw [List.map_map]
  rfl
theorem mdP_len (m : List (Str × Addr)) : (mdP m).length = m.length := List.length_map _
theorem mdP_app (m l : List (Str × Addr)) : mdP (m ++ l) = mdP m ++ mdP l := List.map_append
structure MD (H : Hp) (o : Addr) (m : List (Str × Addr)) (f : Str → List V) : Prop where
  at' : Rd H o (.dK (dk (mdP m)))
  nk : (m.map (·.1)).Nodup
  na : (m.map (·.2)).Nodup
  ls : ∀ q ∈ m, H q.2 = some (.lst (f q.1))
  off : ∀ n, n ∉ m.map (·.1) → f n = []
def mdA (o : Addr) (m : List (Str × Addr)) : Ads := fun b => b = o ∨ b ∈ m.map (·.2)
theorem valV_none {m : Prs} {n : Str} (h : n ∉ m.map (·.1)) : valV m n = none := by
  cases e : valV m n with
  | none => rfl
  | some v => exact absurd (val_in e) h
theorem md_val {m : List (Str × Addr)} (nk : (m.map (·.1)).Nodup) (n : Str) : (∃ l, (n, l) ∈ m ∧ valV (mdP m) n = some (.ref l)) ∨ (n ∉ m.map (·.1) ∧ valV (mdP m) n = none) := by
  cases e : valV (mdP m) n with
  | none =>
    refine .inr ⟨fun h => ?_, rfl⟩
    obtain ⟨q, hq, rfl⟩ := List.mem_map.mp h
    have h2 := (val_mem (m := mdP m) (n := q.1) (v := .ref q.2) (by rw [mdP_keys]; exact nk)).mp (List.mem_map.mpr ⟨q, hq, rfl⟩)
    rw [e] at h2
    cases h2
  | some v =>
    have h2 := (val_mem (m := mdP m) (n := n) (v := v) (by rw [mdP_keys]; exact nk)).mpr e
    obtain ⟨q, hq, e2⟩ := List.mem_map.mp h2
    cases e2
    exact .inl ⟨q.2, hq, rfl⟩
theorem md_one {m : List (Str × Addr)} (nk : (m.map (·.1)).Nodup) {n : Str} {l l' : Addr} (h : (n, l) ∈ m) (h' : (n, l') ∈ m) : l = l' := by
  have k : ((mdP m).map (·.1)).Nodup := by rw [mdP_keys]; exact nk
  have e1 := (val_mem (m := mdP m) (n := n) (v := .ref l) k).mp (List.mem_map.mpr ⟨_, h, rfl⟩)
  have e2 := (val_mem (m := mdP m) (n := n) (v := .ref l') k).mp (List.mem_map.mpr ⟨_, h', rfl⟩)
  rw [e1] at e2
  cases e2
  rfl
theorem MD.get {H : Hp} {o : Addr} {m : List (Str × Addr)} {f : Str → List V} (h : MD H o m f) (n : Str) : (∃ l, (n, l) ∈ m ∧ DGet H o (.str n) (some (.ref l)) ∧ H l = some (.lst (f n))) ∨ (n ∉ m.map (·.1) ∧ DGet H o (.str n) none ∧ f n = []) := by
  have g : DGet H o (.str n) (valV (mdP m) n) := .inl ⟨_, (Sum.inr n : Key), h.at', rfl, (dk_val _ _).symm⟩
  rcases md_val h.nk n with ⟨l, h1, h2⟩ | ⟨h1, h2⟩
  · rw [h2] at g
    exact .inl ⟨l, h1, g, h.ls _ h1⟩
  · rw [h2] at g
    exact .inr ⟨h1, g, h.off n h1⟩
def addF (f : Str → List V) (n : Str) (v : V) : Str → List V := fun k => if k = n then f k ++ [v] else f k
/-- the list at a key grows -/
theorem MD.grow {H H' : Hp} {o l : Addr} {m : List (Str × Addr)} {f : Str → List V} {n : Str} {v : V} (h : MD H o m f) (hl : (n, l) ∈ m) (ho : H' o = H o) (he : H' l = some (.lst (f n ++ [v]))) (hr : ∀ q ∈ m, q.2 ≠ l → H' q.2 = H q.2) : MD H' o m (addF f n v) := by
  refine ⟨?_, h.nk, h.na, fun q hq => ?_, fun k hk => ?_⟩
  · have h1 := h.at'
    unfold Rd at h1 ⊢
    rw [ho]
    exact h1
  · unfold addF
    by_cases e : q.1 = n
    · have e2 : q.2 = l := md_one h.nk (n := n) (by rw [← e]; exact hq) hl
      rw [if_pos e, e2, he, e]
    · rw [if_neg e, hr q hq, h.ls q hq]
      intro z
      obtain ⟨i, hi, ei⟩ := List.getElem_of_mem hq
      obtain ⟨j, hj, ej⟩ := List.getElem_of_mem hl
      have ij := nodup_at (i := i) (j := j) (x := l) h.na (by rw [List.getElem?_map, List.getElem?_eq_getElem hi, ei, ← z]; rfl) (by rw [List.getElem?_map, List.getElem?_eq_getElem hj, ej]; rfl)
      subst ij
      rw [ei] at ej
      exact e (by rw [ej])
  · unfold addF
    rw [if_neg (fun z => hk (by rw [z]; exact List.mem_map.mpr ⟨_, hl, rfl⟩))]
    exact h.off k hk
theorem nodup_snoc {α : Type} {l : List α} {x : α} (h : l.Nodup) (n : x ∉ l) : (l ++ [x]).Nodup := List.nodup_append.mpr ⟨h, List.nodup_cons.mpr ⟨List.not_mem_nil, List.nodup_nil⟩, fun a ha b hb e => n (by rw [← List.mem_singleton.mp hb, ← e]; exact ha)⟩
/-- a new key -/
theorem MD.newk {H H' : Hp} {o l : Addr} {m : List (Str × Addr)} {f : Str → List V} {n : Str} {v : V} (h : MD H o m f) (hn : n ∉ m.map (·.1)) (hl : H l = none) (ho : H' o = some (.dK (dk (mdP (m ++ [(n, l)]))))) (he : H' l = some (.lst [v])) (hr : ∀ q ∈ m, H' q.2 = H q.2) : MD H' o (m ++ [(n, l)]) (addF f n v) := by
  refine ⟨.inl ho, ?_, ?_, fun q hq => ?_, fun k hk => ?_⟩
  · rw [List.map_append]
    exact nodup_snoc h.nk hn
  · rw [List.map_append]
    refine nodup_snoc h.na fun z => ?_
    obtain ⟨q, hq, e⟩ := List.mem_map.mp z
    have e2 : q.2 = l := e
    have e3 := h.ls q hq
    rw [e2, hl] at e3
    cases e3
  · unfold addF
    rcases List.mem_append.mp hq with z | z
    · rw [if_neg (fun e => hn (List.mem_map.mpr ⟨q, z, e⟩)), hr q z]
      exact h.ls q z
    · rw [List.mem_singleton.mp z, if_pos rfl, he, h.off n hn]
      rfl
  · unfold addF
    rw [List.map_append, List.mem_append] at hk
    rw [if_neg (fun e => hk (.inr (List.mem_singleton.mpr e)))]
    exact h.off k fun z => hk (.inl z)
theorem mdP_put {m : List (Str × Addr)} {n : Str} {l : Addr} (hn : n ∉ m.map (·.1)) : putK (dk (mdP m)) (Sum.inr n : Key) (.ref l) = dk (mdP (m ++ [(n, l)])) := by
  rw [dk_put, putK_new _ (valV_none (by rw [mdP_keys]; exact hn)), mdP_app]
  rfl
theorem MD.frame {H H' : Hp} {o : Addr} {m : List (Str × Addr)} {f : Str → List V} (h : MD H o m f) (k : ∀ b, mdA o m b → H' b = H b) : MD H' o m f := ⟨by
  have h1 := h.at'
  unfold Rd at h1 ⊢
  rw [k o (.inl rfl)]
  exact h1, h.nk, h.na, fun q hq => by rw [k q.2 (.inr (List.mem_map.mpr ⟨q, hq, rfl⟩))]; exact h.ls q hq, h.off⟩
theorem MD.same {H H' : Hp} {o : Addr} {m : List (Str × Addr)} {f : Str → List V} (h : MD H o m f) (s : Same H H') : MD H' o m f := ⟨by
  rcases h.at' with e | ⟨od, e⟩
  · exact .inl (s _ _ e)
  · exact .inr ⟨od, s _ _ e⟩, h.nk, h.na, fun q hq => s _ _ (h.ls q hq), h.off⟩
/-- the same where the dict is locked -/
theorem MD.lock {H : Hp} {o : Addr} {m : List (Str × Addr)} {f : Str → List V} {od : Obj} (h : MD H o m f) : MD (upd H o (.frz od (.dK (dk (mdP m))))) o m f := ⟨.inr ⟨od, upd_same⟩, h.nk, h.na, fun q hq => (by
  have e := h.ls q hq
  rw [upd_ne]
  · exact e
  · intro z
    rw [z] at e
    rcases h.at' with y | ⟨_, y⟩ <;> (rw [y] at e; cases e)), h.off⟩
theorem MD.has {H : Hp} {o : Addr} {m : List (Str × Addr)} {f : Str → List V} (h : MD H o m f) {b : Addr} (hb : mdA o m b) : ∃ u, H b = some u ∧ ∀ xs, u ≠ .tup xs := by
  rcases hb with hb | hb
  · rw [hb]
    rcases h.at' with e | ⟨_, e⟩
    · exact ⟨_, e, fun xs z => by cases z⟩
    · exact ⟨_, e, fun xs z => by cases z⟩
  · obtain ⟨q, hq, rfl⟩ := List.mem_map.mp hb
    exact ⟨_, h.ls q hq, fun xs z => by cases z⟩
/-! ### the writes that stand -/
def keysOf (puts : Prs) : List Str := (putAll [] puts).map (·.1)
def valsOf (puts : Prs) (n : Str) : List V := (puts.filter fun q => decide (q.1 = n)).map (·.2)
theorem valsOf_snoc (puts : Prs) (n : Str) (v : V) : valsOf (puts ++ [(n, v)]) = addF (valsOf puts) n v := by
  funext k
  unfold valsOf addF
  rw [List.filter_append, List.map_append]
  by_cases e : k = n
  · rw [if_pos e, List.filter_cons, decide_eq_true (show n = k from e.symm)]
    rfl
  · rw [if_neg e, List.filter_cons, decide_eq_false (fun z : n = k => e z.symm)]
    exact List.append_nil _
theorem putAll_mem {n : Str} : ∀ {l m : Prs}, n ∈ (putAll m l).map (·.1) ↔ n ∈ m.map (·.1) ∨ n ∈ l.map (·.1)
  | [], m => by
    show n ∈ m.map (·.1) ↔ _
    simp
  | q :: r, m => by
    show n ∈ (putAll (putK m q.1 q.2) r).map (·.1) ↔ _
    rw [putAll_mem (l := r) (m := putK m q.1 q.2)]
    have e : n ∈ (putK m q.1 q.2).map (·.1) ↔ n ∈ m.map (·.1) ∨ n = q.1 := by
      cases hv : valV m q.1 with
      | none =>
        rw [putK_new _ hv, List.map_append, List.mem_append]
        simp
      | some x =>
        have hq := val_in hv
        unfold putK
        rw [if_pos (by rw [valV_any, hv]; rfl), List.map_map]
        have e2 : (m.map ((fun x : Str × V => x.1) ∘ fun kv => if kv.1 = q.1 then (kv.1, q.2) else kv)) = m.map (·.1) := List.map_congr_left fun y _ => by
          show (if y.1 = q.1 then (y.1, q.2) else y).1 = y.1
          split <;> rfl
        rw [e2]
        exact ⟨.inl, fun z => z.elim id fun z => by rw [z]; exact hq⟩
    rw [e, List.map_cons, List.mem_cons]
    exact or_assoc
theorem keysOf_mem {puts : Prs} {n : Str} : n ∈ keysOf puts ↔ n ∈ puts.map (·.1) := by
  unfold keysOf
  rw [putAll_mem]
  exact ⟨fun h => h.elim (fun z => by cases z) id, .inr⟩
theorem keysOf_nodup (puts : Prs) : (keysOf puts).Nodup := putAll_keys puts List.nodup_nil
theorem keysOf_len (puts : Prs) : (keysOf puts).length ≤ puts.length := by
  unfold keysOf
  rw [List.length_map]
  have h := putAll_len puts []
  have h2 : ([] : Prs).length = 0 := rfl
  omega
theorem put_has {m : Prs} {n : Str} {v : V} (h : n ∈ m.map (·.1)) : (putK m n v).map (·.1) = m.map (·.1) := by
  cases hv : valV m n with
  | none =>
    exfalso
    obtain ⟨q, hq, rfl⟩ := List.mem_map.mp h
    have : ∀ {m : Prs} {q : Str × V}, q ∈ m → valV m q.1 ≠ none := fun {m q} hq e => by
      unfold valV at e
      rw [Option.map_eq_none_iff, List.find?_eq_none] at e
      exact e q hq (decide_eq_true rfl)
    exact this hq hv
  | some x =>
    unfold putK
    rw [if_pos (by rw [valV_any, hv]; rfl), List.map_map]
    exact List.map_congr_left fun y _ => by
      show (if y.1 = n then (y.1, v) else y).1 = y.1
      split <;> rfl
theorem keysOf_snoc_in {puts : Prs} {n : Str} {v : V} (h : n ∈ keysOf puts) : keysOf (puts ++ [(n, v)]) = keysOf puts := by
  unfold keysOf at *
  rw [putAll_snoc]
  exact put_has h
theorem keysOf_snoc_new {puts : Prs} {n : Str} {v : V} (h : n ∉ keysOf puts) : keysOf (puts ++ [(n, v)]) = keysOf puts ++ [n] := by
  unfold keysOf at *
  rw [putAll_snoc, putK_new _ (valV_none h), List.map_append]
  rfl
/-- the value written last -/
theorem last_val : ∀ (puts : Prs) (n : Str), valV (putAll [] puts) n = (valsOf puts n).getLast? := fun puts n => by
  rw [← List.reverse_reverse puts]
  generalize puts.reverse = r
  induction r with
  | nil => rfl
  | cons q r ih =>
    rw [List.reverse_cons, putAll_snoc, valV_put, valsOf_snoc]
    unfold addF
    by_cases e : n = q.1
    · rw [if_pos e, if_pos e, List.getLast?_append]
      rfl
    · rw [if_neg e, if_neg e]
      exact ih
def wrF (st wo : Addr) : List (Str × V) := [("_standing", .ref st), ("_worths", .ref wo)]
/-- the writes stand at wp -/
structure WrC (CW : Addr) (H : Hp) (wp st wo : Addr) (m : List (Str × Addr)) (puts : Prs) : Prop where
  ins : ∃ dx, H wp = some (.ins CW dx (wrF st wo))
  sta : H st = some (.lst (puts.map fun q => V.str q.1))
  md : MD H wo m (valsOf puts)
  key : m.map (·.1) = keysOf puts
  sn : st ∉ m.map (·.2)
def wrA (wp st wo : Addr) (m : List (Str × Addr)) : Ads := fun b => b = wp ∨ b = st ∨ mdA wo m b
def WrAt (CW : Addr) (H : Hp) (A : Ads) (wp : Addr) (puts : Prs) : Prop := ∃ st wo m, WrC CW H wp st wo m puts ∧ H wo = some (.dK (dk (mdP m))) ∧ ∀ b, A b ↔ wrA wp st wo m b
theorem WrC.frame {CW : Addr} {H H' : Hp} {wp st wo : Addr} {m : List (Str × Addr)} {puts : Prs} (h : WrC CW H wp st wo m puts) (k : ∀ b, wrA wp st wo m b → H' b = H b) : WrC CW H' wp st wo m puts := by
  obtain ⟨dx, h1⟩ := h.ins
  exact ⟨⟨dx, by rw [k wp (.inl rfl)]; exact h1⟩, by rw [k st (.inr (.inl rfl))]; exact h.sta, h.md.frame fun b hb => k b (.inr (.inr hb)), h.key, h.sn⟩
theorem WrC.same {CW : Addr} {H H' : Hp} {wp st wo : Addr} {m : List (Str × Addr)} {puts : Prs} (h : WrC CW H wp st wo m puts) (s : Same H H') : WrC CW H' wp st wo m puts := by
  obtain ⟨dx, h1⟩ := h.ins
  exact ⟨⟨dx, s _ _ h1⟩, s _ _ h.sta, h.md.same s, h.key, h.sn⟩
theorem WrC.lock {CW : Addr} {H : Hp} {wp st wo : Addr} {m : List (Str × Addr)} {puts : Prs} {od : Obj} (h : WrC CW H wp st wo m puts) : WrC CW (upd H wo (.frz od (.dK (dk (mdP m))))) wp st wo m puts := by
  obtain ⟨dx, h1⟩ := h.ins
  have n1 : wp ≠ wo := fun z => by
    rw [z] at h1
    rcases h.md.at' with y | ⟨_, y⟩ <;> (rw [y] at h1; cases h1)
  have n2 : st ≠ wo := fun z => by
    have h2 := h.sta
    rw [z] at h2
    rcases h.md.at' with y | ⟨_, y⟩ <;> (rw [y] at h2; cases h2)
  exact ⟨⟨dx, by rw [upd_ne n1]; exact h1⟩, by rw [upd_ne n2]; exact h.sta, h.md.lock, h.key, h.sn⟩
theorem wr_loc (CW wp : Addr) (puts : Prs) : Loc (fun H A => WrAt CW H A wp puts) := by
  refine ⟨fun {H H' A} h k _ => ?_, fun {H A b} h hb => ?_, fun {H A b xs} h hb => ?_⟩
  · obtain ⟨st, wo, m, h1, h2, h3⟩ := h
    exact ⟨st, wo, m, h1.frame fun b hb => k b ((h3 b).mpr hb), by rw [k wo ((h3 wo).mpr (.inr (.inr (.inl rfl))))]; exact h2, h3⟩
  · obtain ⟨st, wo, m, h1, h2, h3⟩ := h
    rcases (h3 b).mp hb with z | z | z
    · obtain ⟨dx, h4⟩ := h1.ins
      exact ⟨_, by rw [z]; exact h4⟩
    · exact ⟨_, by rw [z]; exact h1.sta⟩
    · obtain ⟨u, hu, _⟩ := h1.md.has z
      exact ⟨u, hu⟩
  · obtain ⟨st, wo, m, h1, h2, h3⟩ := h
    rcases (h3 b).mp hb with z | z | z
    · obtain ⟨dx, h4⟩ := h1.ins
      rw [z, h4]
      intro e
      cases e
    · rw [z, h1.sta]
      intro e
      cases e
    · obtain ⟨u, hu, n⟩ := h1.md.has z
      rw [hu]
      exact fun e => n xs (Option.some.inj e)
end Kt

namespace Kt
open PySem PySem.Spec PyProof.Rows L2 GxR Kr
theorem lk_hit {a : Str} {v : V} {r : List (Str × V)} : List.lookup a ((a, v) :: r) = some v := by rw [List.lookup_cons, beq_self_eq_true]
theorem lk_miss {a b : Str} {v : V} {r : List (Str × V)} {x : Option V} (h : ¬ a = b) (e : List.lookup a r = x) : List.lookup a ((b, v) :: r) = x := by
  rw [List.lookup_cons, beq_eq_false_iff_ne.mpr h]
  exact e
theorem pf_hit {f : Str} {v u : V} {r : List (Str × V)} : putF f v ((f, u) :: r) = (f, v) :: r := if_pos rfl
theorem pf_miss {f g : Str} {v u : V} {r : List (Str × V)} (h : ¬ g = f) : putF f v ((g, u) :: r) = (g, u) :: putF f v r := if_neg h
theorem ne__ahead_by_writes___head_lookers : ¬ (("_ahead_by_writes" : Str) = "_head_lookers") := by decide +kernel
theorem ne__ahead_by_writes___kept_at : ¬ (("_ahead_by_writes" : Str) = "_kept_at") := by decide +kernel
theorem ne__ahead_by_writes___name_lookers : ¬ (("_ahead_by_writes" : Str) = "_name_lookers") := by decide +kernel
theorem ne__ahead_by_writes___numbers : ¬ (("_ahead_by_writes" : Str) = "_numbers") := by decide +kernel
theorem ne__ahead_by_writes___writers : ¬ (("_ahead_by_writes" : Str) = "_writers") := by decide +kernel
theorem ne__begun___dealings : ¬ (("_begun" : Str) = "_dealings") := by decide +kernel
theorem ne__begun___history : ¬ (("_begun" : Str) = "_history") := by decide +kernel
theorem ne__begun___holders : ¬ (("_begun" : Str) = "_holders") := by decide +kernel
theorem ne__begun___row : ¬ (("_begun" : Str) = "_row") := by decide +kernel
theorem ne__dealings___history : ¬ (("_dealings" : Str) = "_history") := by decide +kernel
theorem ne__dealings___holders : ¬ (("_dealings" : Str) = "_holders") := by decide +kernel
theorem ne__dealings___row : ¬ (("_dealings" : Str) = "_row") := by decide +kernel
theorem ne__end___dealings : ¬ (("_end" : Str) = "_dealings") := by decide +kernel
theorem ne__end___history : ¬ (("_end" : Str) = "_history") := by decide +kernel
theorem ne__end___holders : ¬ (("_end" : Str) = "_holders") := by decide +kernel
theorem ne__end___row : ¬ (("_end" : Str) = "_row") := by decide +kernel
theorem ne__going___dealings : ¬ (("_going" : Str) = "_dealings") := by decide +kernel
theorem ne__going___history : ¬ (("_going" : Str) = "_history") := by decide +kernel
theorem ne__going___holders : ¬ (("_going" : Str) = "_holders") := by decide +kernel
theorem ne__going___row : ¬ (("_going" : Str) = "_row") := by decide +kernel
theorem ne__head_lookers___kept_at : ¬ (("_head_lookers" : Str) = "_kept_at") := by decide +kernel
theorem ne__head_lookers___name_lookers : ¬ (("_head_lookers" : Str) = "_name_lookers") := by decide +kernel
theorem ne__head_lookers___numbers : ¬ (("_head_lookers" : Str) = "_numbers") := by decide +kernel
theorem ne__head_lookers___writers : ¬ (("_head_lookers" : Str) = "_writers") := by decide +kernel
theorem ne__history___dealings : ¬ (("_history" : Str) = "_dealings") := by decide +kernel
theorem ne__history___holders : ¬ (("_history" : Str) = "_holders") := by decide +kernel
theorem ne__history___row : ¬ (("_history" : Str) = "_row") := by decide +kernel
theorem ne__holders___dealings : ¬ (("_holders" : Str) = "_dealings") := by decide +kernel
theorem ne__holders___history : ¬ (("_holders" : Str) = "_history") := by decide +kernel
theorem ne__holders___row : ¬ (("_holders" : Str) = "_row") := by decide +kernel
theorem ne__kept_at___head_lookers : ¬ (("_kept_at" : Str) = "_head_lookers") := by decide +kernel
theorem ne__kept_at___name_lookers : ¬ (("_kept_at" : Str) = "_name_lookers") := by decide +kernel
theorem ne__kept_at___numbers : ¬ (("_kept_at" : Str) = "_numbers") := by decide +kernel
theorem ne__kept_at___writers : ¬ (("_kept_at" : Str) = "_writers") := by decide +kernel
theorem ne__let_free___dealings : ¬ (("_let_free" : Str) = "_dealings") := by decide +kernel
theorem ne__let_free___history : ¬ (("_let_free" : Str) = "_history") := by decide +kernel
theorem ne__let_free___holders : ¬ (("_let_free" : Str) = "_holders") := by decide +kernel
theorem ne__let_free___row : ¬ (("_let_free" : Str) = "_row") := by decide +kernel
theorem ne__let_go_of___versions : ¬ (("_let_go_of" : Str) = "_versions") := by decide +kernel
theorem ne__name_lookers___head_lookers : ¬ (("_name_lookers" : Str) = "_head_lookers") := by decide +kernel
theorem ne__name_lookers___kept_at : ¬ (("_name_lookers" : Str) = "_kept_at") := by decide +kernel
theorem ne__name_lookers___numbers : ¬ (("_name_lookers" : Str) = "_numbers") := by decide +kernel
theorem ne__name_lookers___writers : ¬ (("_name_lookers" : Str) = "_writers") := by decide +kernel
theorem ne__numbers___head_lookers : ¬ (("_numbers" : Str) = "_head_lookers") := by decide +kernel
theorem ne__numbers___kept_at : ¬ (("_numbers" : Str) = "_kept_at") := by decide +kernel
theorem ne__numbers___name_lookers : ¬ (("_numbers" : Str) = "_name_lookers") := by decide +kernel
theorem ne__numbers___writers : ¬ (("_numbers" : Str) = "_writers") := by decide +kernel
theorem ne__row___dealings : ¬ (("_row" : Str) = "_dealings") := by decide +kernel
theorem ne__row___history : ¬ (("_row" : Str) = "_history") := by decide +kernel
theorem ne__row___holders : ¬ (("_row" : Str) = "_holders") := by decide +kernel
theorem ne__standing___worths : ¬ (("_standing" : Str) = "_worths") := by decide +kernel
theorem ne__worths___standing : ¬ (("_worths" : Str) = "_standing") := by decide +kernel
theorem ne__writers___head_lookers : ¬ (("_writers" : Str) = "_head_lookers") := by decide +kernel
theorem ne__writers___kept_at : ¬ (("_writers" : Str) = "_kept_at") := by decide +kernel
theorem ne__writers___name_lookers : ¬ (("_writers" : Str) = "_name_lookers") := by decide +kernel
theorem ne__writers___numbers : ¬ (("_writers" : Str) = "_numbers") := by decide +kernel
theorem ne__writers_looked_at___head_lookers : ¬ (("_writers_looked_at" : Str) = "_head_lookers") := by decide +kernel
theorem ne__writers_looked_at___kept_at : ¬ (("_writers_looked_at" : Str) = "_kept_at") := by decide +kernel
theorem ne__writers_looked_at___name_lookers : ¬ (("_writers_looked_at" : Str) = "_name_lookers") := by decide +kernel
theorem ne__writers_looked_at___numbers : ¬ (("_writers_looked_at" : Str) = "_numbers") := by decide +kernel
theorem ne__writers_looked_at___writers : ¬ (("_writers_looked_at" : Str) = "_writers") := by decide +kernel
theorem ne_add_version___versions : ¬ (("add_version" : Str) = "_versions") := by decide +kernel
theorem ne_add_write___standing : ¬ (("add_write" : Str) = "_standing") := by decide +kernel
theorem ne_add_write___worths : ¬ (("add_write" : Str) = "_worths") := by decide +kernel
theorem ne_back___dealings : ¬ (("back" : Str) = "_dealings") := by decide +kernel
theorem ne_back___history : ¬ (("back" : Str) = "_history") := by decide +kernel
theorem ne_back___holders : ¬ (("back" : Str) = "_holders") := by decide +kernel
theorem ne_back___row : ¬ (("back" : Str) = "_row") := by decide +kernel
theorem ne_begin___dealings : ¬ (("begin" : Str) = "_dealings") := by decide +kernel
theorem ne_begin___history : ¬ (("begin" : Str) = "_history") := by decide +kernel
theorem ne_begin___holders : ¬ (("begin" : Str) = "_holders") := by decide +kernel
theorem ne_begin___row : ¬ (("begin" : Str) = "_row") := by decide +kernel
theorem ne_cut___standing : ¬ (("cut" : Str) = "_standing") := by decide +kernel
theorem ne_cut___worths : ¬ (("cut" : Str) = "_worths") := by decide +kernel
theorem ne_deeds___dealings : ¬ (("deeds" : Str) = "_dealings") := by decide +kernel
theorem ne_deeds___history : ¬ (("deeds" : Str) = "_history") := by decide +kernel
theorem ne_deeds___holders : ¬ (("deeds" : Str) = "_holders") := by decide +kernel
theorem ne_deeds___row : ¬ (("deeds" : Str) = "_row") := by decide +kernel
theorem ne_done__looked_heads : ¬ (("done" : Str) = "looked_heads") := by decide +kernel
theorem ne_done__looked_names : ¬ (("done" : Str) = "looked_names") := by decide +kernel
theorem ne_done__start : ¬ (("done" : Str) = "start") := by decide +kernel
theorem ne_done__state : ¬ (("done" : Str) = "state") := by decide +kernel
theorem ne_done__writes : ¬ (("done" : Str) = "writes") := by decide +kernel
theorem ne_drop___dealings : ¬ (("drop" : Str) = "_dealings") := by decide +kernel
theorem ne_drop___history : ¬ (("drop" : Str) = "_history") := by decide +kernel
theorem ne_drop___holders : ¬ (("drop" : Str) = "_holders") := by decide +kernel
theorem ne_drop___row : ¬ (("drop" : Str) = "_row") := by decide +kernel
theorem ne_ended___dealings : ¬ (("ended" : Str) = "_dealings") := by decide +kernel
theorem ne_ended___history : ¬ (("ended" : Str) = "_history") := by decide +kernel
theorem ne_ended___holders : ¬ (("ended" : Str) = "_holders") := by decide +kernel
theorem ne_ended___row : ¬ (("ended" : Str) = "_row") := by decide +kernel
theorem ne_keep___dealings : ¬ (("keep" : Str) = "_dealings") := by decide +kernel
theorem ne_keep___history : ¬ (("keep" : Str) = "_history") := by decide +kernel
theorem ne_keep___holders : ¬ (("keep" : Str) = "_holders") := by decide +kernel
theorem ne_keep___row : ¬ (("keep" : Str) = "_row") := by decide +kernel
theorem ne_last___standing : ¬ (("last" : Str) = "_standing") := by decide +kernel
theorem ne_last___worths : ¬ (("last" : Str) = "_worths") := by decide +kernel
theorem ne_length___head_lookers : ¬ (("length" : Str) = "_head_lookers") := by decide +kernel
theorem ne_length___kept_at : ¬ (("length" : Str) = "_kept_at") := by decide +kernel
theorem ne_length___name_lookers : ¬ (("length" : Str) = "_name_lookers") := by decide +kernel
theorem ne_length___numbers : ¬ (("length" : Str) = "_numbers") := by decide +kernel
theorem ne_length___writers : ¬ (("length" : Str) = "_writers") := by decide +kernel
theorem ne_let_go___versions : ¬ (("let_go" : Str) = "_versions") := by decide +kernel
theorem ne_looked_heads__done : ¬ (("looked_heads" : Str) = "done") := by decide +kernel
theorem ne_looked_heads__looked_names : ¬ (("looked_heads" : Str) = "looked_names") := by decide +kernel
theorem ne_looked_heads__start : ¬ (("looked_heads" : Str) = "start") := by decide +kernel
theorem ne_looked_heads__state : ¬ (("looked_heads" : Str) = "state") := by decide +kernel
theorem ne_looked_heads__writes : ¬ (("looked_heads" : Str) = "writes") := by decide +kernel
theorem ne_looked_names__done : ¬ (("looked_names" : Str) = "done") := by decide +kernel
theorem ne_looked_names__looked_heads : ¬ (("looked_names" : Str) = "looked_heads") := by decide +kernel
theorem ne_looked_names__start : ¬ (("looked_names" : Str) = "start") := by decide +kernel
theorem ne_looked_names__state : ¬ (("looked_names" : Str) = "state") := by decide +kernel
theorem ne_looked_names__writes : ¬ (("looked_names" : Str) = "writes") := by decide +kernel
theorem ne_made___dealings : ¬ (("made" : Str) = "_dealings") := by decide +kernel
theorem ne_made___history : ¬ (("made" : Str) = "_history") := by decide +kernel
theorem ne_made___holders : ¬ (("made" : Str) = "_holders") := by decide +kernel
theorem ne_made___row : ¬ (("made" : Str) = "_row") := by decide +kernel
theorem ne_many___standing : ¬ (("many" : Str) = "_standing") := by decide +kernel
theorem ne_many___worths : ¬ (("many" : Str) = "_worths") := by decide +kernel
theorem ne_moment___dealings : ¬ (("moment" : Str) = "_dealings") := by decide +kernel
theorem ne_moment___history : ¬ (("moment" : Str) = "_history") := by decide +kernel
theorem ne_moment___holders : ¬ (("moment" : Str) = "_holders") := by decide +kernel
theorem ne_moment___row : ¬ (("moment" : Str) = "_row") := by decide +kernel
theorem ne_names___standing : ¬ (("names" : Str) = "_standing") := by decide +kernel
theorem ne_names___worths : ¬ (("names" : Str) = "_worths") := by decide +kernel
theorem ne_newest___versions : ¬ (("newest" : Str) = "_versions") := by decide +kernel
theorem ne_numbers___head_lookers : ¬ (("numbers" : Str) = "_head_lookers") := by decide +kernel
theorem ne_numbers___kept_at : ¬ (("numbers" : Str) = "_kept_at") := by decide +kernel
theorem ne_numbers___name_lookers : ¬ (("numbers" : Str) = "_name_lookers") := by decide +kernel
theorem ne_numbers___numbers : ¬ (("numbers" : Str) = "_numbers") := by decide +kernel
theorem ne_numbers___writers : ¬ (("numbers" : Str) = "_writers") := by decide +kernel
theorem ne_order___dealings : ¬ (("order" : Str) = "_dealings") := by decide +kernel
theorem ne_order___history : ¬ (("order" : Str) = "_history") := by decide +kernel
theorem ne_order___holders : ¬ (("order" : Str) = "_holders") := by decide +kernel
theorem ne_order___row : ¬ (("order" : Str) = "_row") := by decide +kernel
theorem ne_place_for___head_lookers : ¬ (("place_for" : Str) = "_head_lookers") := by decide +kernel
theorem ne_place_for___kept_at : ¬ (("place_for" : Str) = "_kept_at") := by decide +kernel
theorem ne_place_for___name_lookers : ¬ (("place_for" : Str) = "_name_lookers") := by decide +kernel
theorem ne_place_for___numbers : ¬ (("place_for" : Str) = "_numbers") := by decide +kernel
theorem ne_place_for___writers : ¬ (("place_for" : Str) = "_writers") := by decide +kernel
theorem ne_read___dealings : ¬ (("read" : Str) = "_dealings") := by decide +kernel
theorem ne_read___history : ¬ (("read" : Str) = "_history") := by decide +kernel
theorem ne_read___holders : ¬ (("read" : Str) = "_holders") := by decide +kernel
theorem ne_read___row : ¬ (("read" : Str) = "_row") := by decide +kernel
theorem ne_settle___head_lookers : ¬ (("settle" : Str) = "_head_lookers") := by decide +kernel
theorem ne_settle___kept_at : ¬ (("settle" : Str) = "_kept_at") := by decide +kernel
theorem ne_settle___name_lookers : ¬ (("settle" : Str) = "_name_lookers") := by decide +kernel
theorem ne_settle___numbers : ¬ (("settle" : Str) = "_numbers") := by decide +kernel
theorem ne_settle___writers : ¬ (("settle" : Str) = "_writers") := by decide +kernel
theorem ne_start__done : ¬ (("start" : Str) = "done") := by decide +kernel
theorem ne_start__looked_heads : ¬ (("start" : Str) = "looked_heads") := by decide +kernel
theorem ne_start__looked_names : ¬ (("start" : Str) = "looked_names") := by decide +kernel
theorem ne_start__state : ¬ (("start" : Str) = "state") := by decide +kernel
theorem ne_start__writes : ¬ (("start" : Str) = "writes") := by decide +kernel
theorem ne_state__done : ¬ (("state" : Str) = "done") := by decide +kernel
theorem ne_state__looked_heads : ¬ (("state" : Str) = "looked_heads") := by decide +kernel
theorem ne_state__looked_names : ¬ (("state" : Str) = "looked_names") := by decide +kernel
theorem ne_state__start : ¬ (("state" : Str) = "start") := by decide +kernel
theorem ne_state__writes : ¬ (("state" : Str) = "writes") := by decide +kernel
theorem ne_sweep___dealings : ¬ (("sweep" : Str) = "_dealings") := by decide +kernel
theorem ne_sweep___history : ¬ (("sweep" : Str) = "_history") := by decide +kernel
theorem ne_sweep___holders : ¬ (("sweep" : Str) = "_holders") := by decide +kernel
theorem ne_sweep___row : ¬ (("sweep" : Str) = "_row") := by decide +kernel
theorem ne_told___standing : ¬ (("told" : Str) = "_standing") := by decide +kernel
theorem ne_told___worths : ¬ (("told" : Str) = "_worths") := by decide +kernel
theorem ne_told_deeds__done : ¬ (("told_deeds" : Str) = "done") := by decide +kernel
theorem ne_told_deeds__looked_heads : ¬ (("told_deeds" : Str) = "looked_heads") := by decide +kernel
theorem ne_told_deeds__looked_names : ¬ (("told_deeds" : Str) = "looked_names") := by decide +kernel
theorem ne_told_deeds__start : ¬ (("told_deeds" : Str) = "start") := by decide +kernel
theorem ne_told_deeds__state : ¬ (("told_deeds" : Str) = "state") := by decide +kernel
theorem ne_told_deeds__writes : ¬ (("told_deeds" : Str) = "writes") := by decide +kernel
theorem ne_told_under___standing : ¬ (("told_under" : Str) = "_standing") := by decide +kernel
theorem ne_told_under___worths : ¬ (("told_under" : Str) = "_worths") := by decide +kernel
theorem ne_touches___standing : ¬ (("touches" : Str) = "_standing") := by decide +kernel
theorem ne_touches___worths : ¬ (("touches" : Str) = "_worths") := by decide +kernel
theorem ne_under___dealings : ¬ (("under" : Str) = "_dealings") := by decide +kernel
theorem ne_under___history : ¬ (("under" : Str) = "_history") := by decide +kernel
theorem ne_under___holders : ¬ (("under" : Str) = "_holders") := by decide +kernel
theorem ne_under___row : ¬ (("under" : Str) = "_row") := by decide +kernel
theorem ne_value___dealings : ¬ (("value" : Str) = "_dealings") := by decide +kernel
theorem ne_value___history : ¬ (("value" : Str) = "_history") := by decide +kernel
theorem ne_value___holders : ¬ (("value" : Str) = "_holders") := by decide +kernel
theorem ne_value___row : ¬ (("value" : Str) = "_row") := by decide +kernel
theorem ne_value_at___versions : ¬ (("value_at" : Str) = "_versions") := by decide +kernel
theorem ne_values_under___versions : ¬ (("values_under" : Str) = "_versions") := by decide +kernel
theorem ne_versions___dealings : ¬ (("versions" : Str) = "_dealings") := by decide +kernel
theorem ne_versions___history : ¬ (("versions" : Str) = "_history") := by decide +kernel
theorem ne_versions___holders : ¬ (("versions" : Str) = "_holders") := by decide +kernel
theorem ne_versions___row : ¬ (("versions" : Str) = "_row") := by decide +kernel
theorem ne_versions_of___versions : ¬ (("versions_of" : Str) = "_versions") := by decide +kernel
theorem ne_write___dealings : ¬ (("write" : Str) = "_dealings") := by decide +kernel
theorem ne_write___history : ¬ (("write" : Str) = "_history") := by decide +kernel
theorem ne_write___holders : ¬ (("write" : Str) = "_holders") := by decide +kernel
theorem ne_write___row : ¬ (("write" : Str) = "_row") := by decide +kernel
theorem ne_writes__done : ¬ (("writes" : Str) = "done") := by decide +kernel
theorem ne_writes__looked_heads : ¬ (("writes" : Str) = "looked_heads") := by decide +kernel
theorem ne_writes__looked_names : ¬ (("writes" : Str) = "looked_names") := by decide +kernel
theorem ne_writes__start : ¬ (("writes" : Str) = "start") := by decide +kernel
theorem ne_writes__state : ¬ (("writes" : Str) = "state") := by decide +kernel
def fsW (v0 v1 : V) : List (Str × V) := [("_standing", v0), ("_worths", v1)]
theorem fsW_standing {v0 v1 : V} : (fsW v0 v1).lookup ("_standing" : Str) = some v0 := lk_hit
theorem fsW_put_standing {v0 v1 w : V} : putF ("_standing" : Str) w (fsW v0 v1) = fsW w v1 := pf_hit
theorem fsW_new_standing {v0 : V} : putF ("_standing" : Str) v0 ([] : List (Str × V)) = ([("_standing", v0)] : List (Str × V)) := rfl
theorem fsW_worths {v0 v1 : V} : (fsW v0 v1).lookup ("_worths" : Str) = some v1 := (lk_miss ne__worths___standing lk_hit)
theorem fsW_put_worths {v0 v1 w : V} : putF ("_worths" : Str) w (fsW v0 v1) = fsW v0 w := ((pf_miss ne__standing___worths).trans (congrArg _ pf_hit))
theorem fsW_new_worths {v0 v1 : V} : putF ("_worths" : Str) v1 ([("_standing", v0)] : List (Str × V)) = ([("_standing", v0), ("_worths", v1)] : List (Str × V)) := ((pf_miss ne__standing___worths).trans (congrArg _ rfl))
theorem fsW_no_add_write {v0 v1 : V} : (fsW v0 v1).lookup ("add_write" : Str) = none := (lk_miss ne_add_write___standing (lk_miss ne_add_write___worths rfl))
theorem fsW_no_many {v0 v1 : V} : (fsW v0 v1).lookup ("many" : Str) = none := (lk_miss ne_many___standing (lk_miss ne_many___worths rfl))
theorem fsW_no_names {v0 v1 : V} : (fsW v0 v1).lookup ("names" : Str) = none := (lk_miss ne_names___standing (lk_miss ne_names___worths rfl))
theorem fsW_no_touches {v0 v1 : V} : (fsW v0 v1).lookup ("touches" : Str) = none := (lk_miss ne_touches___standing (lk_miss ne_touches___worths rfl))
theorem fsW_no_last {v0 v1 : V} : (fsW v0 v1).lookup ("last" : Str) = none := (lk_miss ne_last___standing (lk_miss ne_last___worths rfl))
theorem fsW_no_cut {v0 v1 : V} : (fsW v0 v1).lookup ("cut" : Str) = none := (lk_miss ne_cut___standing (lk_miss ne_cut___worths rfl))
theorem fsW_no_told {v0 v1 : V} : (fsW v0 v1).lookup ("told" : Str) = none := (lk_miss ne_told___standing (lk_miss ne_told___worths rfl))
theorem fsW_no_told_under {v0 v1 : V} : (fsW v0 v1).lookup ("told_under" : Str) = none := (lk_miss ne_told_under___standing (lk_miss ne_told_under___worths rfl))
def fsD (v0 v1 v2 v3 v4 v5 : V) : List (Str × V) := [("start", v0), ("state", v1), ("writes", v2), ("looked_names", v3), ("looked_heads", v4), ("done", v5)]
theorem fsD_start {v0 v1 v2 v3 v4 v5 : V} : (fsD v0 v1 v2 v3 v4 v5).lookup ("start" : Str) = some v0 := lk_hit
theorem fsD_put_start {v0 v1 v2 v3 v4 v5 w : V} : putF ("start" : Str) w (fsD v0 v1 v2 v3 v4 v5) = fsD w v1 v2 v3 v4 v5 := pf_hit
theorem fsD_new_start {v0 : V} : putF ("start" : Str) v0 ([] : List (Str × V)) = ([("start", v0)] : List (Str × V)) := rfl
theorem fsD_state {v0 v1 v2 v3 v4 v5 : V} : (fsD v0 v1 v2 v3 v4 v5).lookup ("state" : Str) = some v1 := (lk_miss ne_state__start lk_hit)
theorem fsD_put_state {v0 v1 v2 v3 v4 v5 w : V} : putF ("state" : Str) w (fsD v0 v1 v2 v3 v4 v5) = fsD v0 w v2 v3 v4 v5 := ((pf_miss ne_start__state).trans (congrArg _ pf_hit))
theorem fsD_new_state {v0 v1 : V} : putF ("state" : Str) v1 ([("start", v0)] : List (Str × V)) = ([("start", v0), ("state", v1)] : List (Str × V)) := ((pf_miss ne_start__state).trans (congrArg _ rfl))
theorem fsD_writes {v0 v1 v2 v3 v4 v5 : V} : (fsD v0 v1 v2 v3 v4 v5).lookup ("writes" : Str) = some v2 := (lk_miss ne_writes__start (lk_miss ne_writes__state lk_hit))
theorem fsD_put_writes {v0 v1 v2 v3 v4 v5 w : V} : putF ("writes" : Str) w (fsD v0 v1 v2 v3 v4 v5) = fsD v0 v1 w v3 v4 v5 := ((pf_miss ne_start__writes).trans (congrArg _ ((pf_miss ne_state__writes).trans (congrArg _ pf_hit))))
theorem fsD_new_writes {v0 v1 v2 : V} : putF ("writes" : Str) v2 ([("start", v0), ("state", v1)] : List (Str × V)) = ([("start", v0), ("state", v1), ("writes", v2)] : List (Str × V)) := ((pf_miss ne_start__writes).trans (congrArg _ ((pf_miss ne_state__writes).trans (congrArg _ rfl))))
theorem fsD_looked_names {v0 v1 v2 v3 v4 v5 : V} : (fsD v0 v1 v2 v3 v4 v5).lookup ("looked_names" : Str) = some v3 := (lk_miss ne_looked_names__start (lk_miss ne_looked_names__state (lk_miss ne_looked_names__writes lk_hit)))
theorem fsD_put_looked_names {v0 v1 v2 v3 v4 v5 w : V} : putF ("looked_names" : Str) w (fsD v0 v1 v2 v3 v4 v5) = fsD v0 v1 v2 w v4 v5 := ((pf_miss ne_start__looked_names).trans (congrArg _ ((pf_miss ne_state__looked_names).trans (congrArg _ ((pf_miss ne_writes__looked_names).trans (congrArg _ pf_hit))))))
theorem fsD_new_looked_names {v0 v1 v2 v3 : V} : putF ("looked_names" : Str) v3 ([("start", v0), ("state", v1), ("writes", v2)] : List (Str × V)) = ([("start", v0), ("state", v1), ("writes", v2), ("looked_names", v3)] : List (Str × V)) := ((pf_miss ne_start__looked_names).trans (congrArg _ ((pf_miss ne_state__looked_names).trans (congrArg _ ((pf_miss ne_writes__looked_names).trans (congrArg _ rfl))))))
theorem fsD_looked_heads {v0 v1 v2 v3 v4 v5 : V} : (fsD v0 v1 v2 v3 v4 v5).lookup ("looked_heads" : Str) = some v4 := (lk_miss ne_looked_heads__start (lk_miss ne_looked_heads__state (lk_miss ne_looked_heads__writes (lk_miss ne_looked_heads__looked_names lk_hit))))
theorem fsD_put_looked_heads {v0 v1 v2 v3 v4 v5 w : V} : putF ("looked_heads" : Str) w (fsD v0 v1 v2 v3 v4 v5) = fsD v0 v1 v2 v3 w v5 := ((pf_miss ne_start__looked_heads).trans (congrArg _ ((pf_miss ne_state__looked_heads).trans (congrArg _ ((pf_miss ne_writes__looked_heads).trans (congrArg _ ((pf_miss ne_looked_names__looked_heads).trans (congrArg _ pf_hit))))))))
theorem fsD_new_looked_heads {v0 v1 v2 v3 v4 : V} : putF ("looked_heads" : Str) v4 ([("start", v0), ("state", v1), ("writes", v2), ("looked_names", v3)] : List (Str × V)) = ([("start", v0), ("state", v1), ("writes", v2), ("looked_names", v3), ("looked_heads", v4)] : List (Str × V)) := ((pf_miss ne_start__looked_heads).trans (congrArg _ ((pf_miss ne_state__looked_heads).trans (congrArg _ ((pf_miss ne_writes__looked_heads).trans (congrArg _ ((pf_miss ne_looked_names__looked_heads).trans (congrArg _ rfl))))))))
theorem fsD_done {v0 v1 v2 v3 v4 v5 : V} : (fsD v0 v1 v2 v3 v4 v5).lookup ("done" : Str) = some v5 := (lk_miss ne_done__start (lk_miss ne_done__state (lk_miss ne_done__writes (lk_miss ne_done__looked_names (lk_miss ne_done__looked_heads lk_hit)))))
theorem fsD_put_done {v0 v1 v2 v3 v4 v5 w : V} : putF ("done" : Str) w (fsD v0 v1 v2 v3 v4 v5) = fsD v0 v1 v2 v3 v4 w := ((pf_miss ne_start__done).trans (congrArg _ ((pf_miss ne_state__done).trans (congrArg _ ((pf_miss ne_writes__done).trans (congrArg _ ((pf_miss ne_looked_names__done).trans (congrArg _ ((pf_miss ne_looked_heads__done).trans (congrArg _ pf_hit))))))))))
theorem fsD_new_done {v0 v1 v2 v3 v4 v5 : V} : putF ("done" : Str) v5 ([("start", v0), ("state", v1), ("writes", v2), ("looked_names", v3), ("looked_heads", v4)] : List (Str × V)) = ([("start", v0), ("state", v1), ("writes", v2), ("looked_names", v3), ("looked_heads", v4), ("done", v5)] : List (Str × V)) := ((pf_miss ne_start__done).trans (congrArg _ ((pf_miss ne_state__done).trans (congrArg _ ((pf_miss ne_writes__done).trans (congrArg _ ((pf_miss ne_looked_names__done).trans (congrArg _ ((pf_miss ne_looked_heads__done).trans (congrArg _ rfl))))))))))
theorem fsD_no_told_deeds {v0 v1 v2 v3 v4 v5 : V} : (fsD v0 v1 v2 v3 v4 v5).lookup ("told_deeds" : Str) = none := (lk_miss ne_told_deeds__start (lk_miss ne_told_deeds__state (lk_miss ne_told_deeds__writes (lk_miss ne_told_deeds__looked_names (lk_miss ne_told_deeds__looked_heads (lk_miss ne_told_deeds__done rfl))))))
def fsHi (v0 : V) : List (Str × V) := [("_versions", v0)]
theorem fsHi_versions {v0 : V} : (fsHi v0).lookup ("_versions" : Str) = some v0 := lk_hit
theorem fsHi_put_versions {v0 w : V} : putF ("_versions" : Str) w (fsHi v0) = fsHi w := pf_hit
theorem fsHi_new_versions {v0 : V} : putF ("_versions" : Str) v0 ([] : List (Str × V)) = ([("_versions", v0)] : List (Str × V)) := rfl
theorem fsHi_no_add_version {v0 : V} : (fsHi v0).lookup ("add_version" : Str) = none := (lk_miss ne_add_version___versions rfl)
theorem fsHi_no_versions_of {v0 : V} : (fsHi v0).lookup ("versions_of" : Str) = none := (lk_miss ne_versions_of___versions rfl)
theorem fsHi_no_newest {v0 : V} : (fsHi v0).lookup ("newest" : Str) = none := (lk_miss ne_newest___versions rfl)
theorem fsHi_no_value_at {v0 : V} : (fsHi v0).lookup ("value_at" : Str) = none := (lk_miss ne_value_at___versions rfl)
theorem fsHi_no_values_under {v0 : V} : (fsHi v0).lookup ("values_under" : Str) = none := (lk_miss ne_values_under___versions rfl)
theorem fsHi_no_let_go {v0 : V} : (fsHi v0).lookup ("let_go" : Str) = none := (lk_miss ne_let_go___versions rfl)
theorem fsHi_no_let_go_of {v0 : V} : (fsHi v0).lookup ("_let_go_of" : Str) = none := (lk_miss ne__let_go_of___versions rfl)
def fsR (v0 v1 v2 v3 v4 : V) : List (Str × V) := [("_numbers", v0), ("_kept_at", v1), ("_writers", v2), ("_name_lookers", v3), ("_head_lookers", v4)]
theorem fsR_numbers {v0 v1 v2 v3 v4 : V} : (fsR v0 v1 v2 v3 v4).lookup ("_numbers" : Str) = some v0 := lk_hit
theorem fsR_put_numbers {v0 v1 v2 v3 v4 w : V} : putF ("_numbers" : Str) w (fsR v0 v1 v2 v3 v4) = fsR w v1 v2 v3 v4 := pf_hit
theorem fsR_new_numbers {v0 : V} : putF ("_numbers" : Str) v0 ([] : List (Str × V)) = ([("_numbers", v0)] : List (Str × V)) := rfl
theorem fsR_kept_at {v0 v1 v2 v3 v4 : V} : (fsR v0 v1 v2 v3 v4).lookup ("_kept_at" : Str) = some v1 := (lk_miss ne__kept_at___numbers lk_hit)
theorem fsR_put_kept_at {v0 v1 v2 v3 v4 w : V} : putF ("_kept_at" : Str) w (fsR v0 v1 v2 v3 v4) = fsR v0 w v2 v3 v4 := ((pf_miss ne__numbers___kept_at).trans (congrArg _ pf_hit))
theorem fsR_new_kept_at {v0 v1 : V} : putF ("_kept_at" : Str) v1 ([("_numbers", v0)] : List (Str × V)) = ([("_numbers", v0), ("_kept_at", v1)] : List (Str × V)) := ((pf_miss ne__numbers___kept_at).trans (congrArg _ rfl))
theorem fsR_writers {v0 v1 v2 v3 v4 : V} : (fsR v0 v1 v2 v3 v4).lookup ("_writers" : Str) = some v2 := (lk_miss ne__writers___numbers (lk_miss ne__writers___kept_at lk_hit))
theorem fsR_put_writers {v0 v1 v2 v3 v4 w : V} : putF ("_writers" : Str) w (fsR v0 v1 v2 v3 v4) = fsR v0 v1 w v3 v4 := ((pf_miss ne__numbers___writers).trans (congrArg _ ((pf_miss ne__kept_at___writers).trans (congrArg _ pf_hit))))
theorem fsR_new_writers {v0 v1 v2 : V} : putF ("_writers" : Str) v2 ([("_numbers", v0), ("_kept_at", v1)] : List (Str × V)) = ([("_numbers", v0), ("_kept_at", v1), ("_writers", v2)] : List (Str × V)) := ((pf_miss ne__numbers___writers).trans (congrArg _ ((pf_miss ne__kept_at___writers).trans (congrArg _ rfl))))
theorem fsR_name_lookers {v0 v1 v2 v3 v4 : V} : (fsR v0 v1 v2 v3 v4).lookup ("_name_lookers" : Str) = some v3 := (lk_miss ne__name_lookers___numbers (lk_miss ne__name_lookers___kept_at (lk_miss ne__name_lookers___writers lk_hit)))
theorem fsR_put_name_lookers {v0 v1 v2 v3 v4 w : V} : putF ("_name_lookers" : Str) w (fsR v0 v1 v2 v3 v4) = fsR v0 v1 v2 w v4 := ((pf_miss ne__numbers___name_lookers).trans (congrArg _ ((pf_miss ne__kept_at___name_lookers).trans (congrArg _ ((pf_miss ne__writers___name_lookers).trans (congrArg _ pf_hit))))))
theorem fsR_new_name_lookers {v0 v1 v2 v3 : V} : putF ("_name_lookers" : Str) v3 ([("_numbers", v0), ("_kept_at", v1), ("_writers", v2)] : List (Str × V)) = ([("_numbers", v0), ("_kept_at", v1), ("_writers", v2), ("_name_lookers", v3)] : List (Str × V)) := ((pf_miss ne__numbers___name_lookers).trans (congrArg _ ((pf_miss ne__kept_at___name_lookers).trans (congrArg _ ((pf_miss ne__writers___name_lookers).trans (congrArg _ rfl))))))
theorem fsR_head_lookers {v0 v1 v2 v3 v4 : V} : (fsR v0 v1 v2 v3 v4).lookup ("_head_lookers" : Str) = some v4 := (lk_miss ne__head_lookers___numbers (lk_miss ne__head_lookers___kept_at (lk_miss ne__head_lookers___writers (lk_miss ne__head_lookers___name_lookers lk_hit))))
theorem fsR_put_head_lookers {v0 v1 v2 v3 v4 w : V} : putF ("_head_lookers" : Str) w (fsR v0 v1 v2 v3 v4) = fsR v0 v1 v2 v3 w := ((pf_miss ne__numbers___head_lookers).trans (congrArg _ ((pf_miss ne__kept_at___head_lookers).trans (congrArg _ ((pf_miss ne__writers___head_lookers).trans (congrArg _ ((pf_miss ne__name_lookers___head_lookers).trans (congrArg _ pf_hit))))))))
theorem fsR_new_head_lookers {v0 v1 v2 v3 v4 : V} : putF ("_head_lookers" : Str) v4 ([("_numbers", v0), ("_kept_at", v1), ("_writers", v2), ("_name_lookers", v3)] : List (Str × V)) = ([("_numbers", v0), ("_kept_at", v1), ("_writers", v2), ("_name_lookers", v3), ("_head_lookers", v4)] : List (Str × V)) := ((pf_miss ne__numbers___head_lookers).trans (congrArg _ ((pf_miss ne__kept_at___head_lookers).trans (congrArg _ ((pf_miss ne__writers___head_lookers).trans (congrArg _ ((pf_miss ne__name_lookers___head_lookers).trans (congrArg _ rfl))))))))
theorem fsR_no_numbers {v0 v1 v2 v3 v4 : V} : (fsR v0 v1 v2 v3 v4).lookup ("numbers" : Str) = none := (lk_miss ne_numbers___numbers (lk_miss ne_numbers___kept_at (lk_miss ne_numbers___writers (lk_miss ne_numbers___name_lookers (lk_miss ne_numbers___head_lookers rfl)))))
theorem fsR_no_length {v0 v1 v2 v3 v4 : V} : (fsR v0 v1 v2 v3 v4).lookup ("length" : Str) = none := (lk_miss ne_length___numbers (lk_miss ne_length___kept_at (lk_miss ne_length___writers (lk_miss ne_length___name_lookers (lk_miss ne_length___head_lookers rfl)))))
theorem fsR_no_place_for {v0 v1 v2 v3 v4 : V} : (fsR v0 v1 v2 v3 v4).lookup ("place_for" : Str) = none := (lk_miss ne_place_for___numbers (lk_miss ne_place_for___kept_at (lk_miss ne_place_for___writers (lk_miss ne_place_for___name_lookers (lk_miss ne_place_for___head_lookers rfl)))))
theorem fsR_no_settle {v0 v1 v2 v3 v4 : V} : (fsR v0 v1 v2 v3 v4).lookup ("settle" : Str) = none := (lk_miss ne_settle___numbers (lk_miss ne_settle___kept_at (lk_miss ne_settle___writers (lk_miss ne_settle___name_lookers (lk_miss ne_settle___head_lookers rfl)))))
theorem fsR_no_ahead_by_writes {v0 v1 v2 v3 v4 : V} : (fsR v0 v1 v2 v3 v4).lookup ("_ahead_by_writes" : Str) = none := (lk_miss ne__ahead_by_writes___numbers (lk_miss ne__ahead_by_writes___kept_at (lk_miss ne__ahead_by_writes___writers (lk_miss ne__ahead_by_writes___name_lookers (lk_miss ne__ahead_by_writes___head_lookers rfl)))))
theorem fsR_no_writers_looked_at {v0 v1 v2 v3 v4 : V} : (fsR v0 v1 v2 v3 v4).lookup ("_writers_looked_at" : Str) = none := (lk_miss ne__writers_looked_at___numbers (lk_miss ne__writers_looked_at___kept_at (lk_miss ne__writers_looked_at___writers (lk_miss ne__writers_looked_at___name_lookers (lk_miss ne__writers_looked_at___head_lookers rfl)))))
def fsS (v0 v1 v2 v3 : V) : List (Str × V) := [("_dealings", v0), ("_row", v1), ("_history", v2), ("_holders", v3)]
theorem fsS_dealings {v0 v1 v2 v3 : V} : (fsS v0 v1 v2 v3).lookup ("_dealings" : Str) = some v0 := lk_hit
theorem fsS_put_dealings {v0 v1 v2 v3 w : V} : putF ("_dealings" : Str) w (fsS v0 v1 v2 v3) = fsS w v1 v2 v3 := pf_hit
theorem fsS_new_dealings {v0 : V} : putF ("_dealings" : Str) v0 ([] : List (Str × V)) = ([("_dealings", v0)] : List (Str × V)) := rfl
theorem fsS_row {v0 v1 v2 v3 : V} : (fsS v0 v1 v2 v3).lookup ("_row" : Str) = some v1 := (lk_miss ne__row___dealings lk_hit)
theorem fsS_put_row {v0 v1 v2 v3 w : V} : putF ("_row" : Str) w (fsS v0 v1 v2 v3) = fsS v0 w v2 v3 := ((pf_miss ne__dealings___row).trans (congrArg _ pf_hit))
theorem fsS_new_row {v0 v1 : V} : putF ("_row" : Str) v1 ([("_dealings", v0)] : List (Str × V)) = ([("_dealings", v0), ("_row", v1)] : List (Str × V)) := ((pf_miss ne__dealings___row).trans (congrArg _ rfl))
theorem fsS_history {v0 v1 v2 v3 : V} : (fsS v0 v1 v2 v3).lookup ("_history" : Str) = some v2 := (lk_miss ne__history___dealings (lk_miss ne__history___row lk_hit))
theorem fsS_put_history {v0 v1 v2 v3 w : V} : putF ("_history" : Str) w (fsS v0 v1 v2 v3) = fsS v0 v1 w v3 := ((pf_miss ne__dealings___history).trans (congrArg _ ((pf_miss ne__row___history).trans (congrArg _ pf_hit))))
theorem fsS_new_history {v0 v1 v2 : V} : putF ("_history" : Str) v2 ([("_dealings", v0), ("_row", v1)] : List (Str × V)) = ([("_dealings", v0), ("_row", v1), ("_history", v2)] : List (Str × V)) := ((pf_miss ne__dealings___history).trans (congrArg _ ((pf_miss ne__row___history).trans (congrArg _ rfl))))
theorem fsS_holders {v0 v1 v2 v3 : V} : (fsS v0 v1 v2 v3).lookup ("_holders" : Str) = some v3 := (lk_miss ne__holders___dealings (lk_miss ne__holders___row (lk_miss ne__holders___history lk_hit)))
theorem fsS_put_holders {v0 v1 v2 v3 w : V} : putF ("_holders" : Str) w (fsS v0 v1 v2 v3) = fsS v0 v1 v2 w := ((pf_miss ne__dealings___holders).trans (congrArg _ ((pf_miss ne__row___holders).trans (congrArg _ ((pf_miss ne__history___holders).trans (congrArg _ pf_hit))))))
theorem fsS_new_holders {v0 v1 v2 v3 : V} : putF ("_holders" : Str) v3 ([("_dealings", v0), ("_row", v1), ("_history", v2)] : List (Str × V)) = ([("_dealings", v0), ("_row", v1), ("_history", v2), ("_holders", v3)] : List (Str × V)) := ((pf_miss ne__dealings___holders).trans (congrArg _ ((pf_miss ne__row___holders).trans (congrArg _ ((pf_miss ne__history___holders).trans (congrArg _ rfl))))))
theorem fsS_no_begin {v0 v1 v2 v3 : V} : (fsS v0 v1 v2 v3).lookup ("begin" : Str) = none := (lk_miss ne_begin___dealings (lk_miss ne_begin___row (lk_miss ne_begin___history (lk_miss ne_begin___holders rfl))))
theorem fsS_no_read {v0 v1 v2 v3 : V} : (fsS v0 v1 v2 v3).lookup ("read" : Str) = none := (lk_miss ne_read___dealings (lk_miss ne_read___row (lk_miss ne_read___history (lk_miss ne_read___holders rfl))))
theorem fsS_no_under {v0 v1 v2 v3 : V} : (fsS v0 v1 v2 v3).lookup ("under" : Str) = none := (lk_miss ne_under___dealings (lk_miss ne_under___row (lk_miss ne_under___history (lk_miss ne_under___holders rfl))))
theorem fsS_no_write {v0 v1 v2 v3 : V} : (fsS v0 v1 v2 v3).lookup ("write" : Str) = none := (lk_miss ne_write___dealings (lk_miss ne_write___row (lk_miss ne_write___history (lk_miss ne_write___holders rfl))))
theorem fsS_no_made {v0 v1 v2 v3 : V} : (fsS v0 v1 v2 v3).lookup ("made" : Str) = none := (lk_miss ne_made___dealings (lk_miss ne_made___row (lk_miss ne_made___history (lk_miss ne_made___holders rfl))))
theorem fsS_no_back {v0 v1 v2 v3 : V} : (fsS v0 v1 v2 v3).lookup ("back" : Str) = none := (lk_miss ne_back___dealings (lk_miss ne_back___row (lk_miss ne_back___history (lk_miss ne_back___holders rfl))))
theorem fsS_no_keep {v0 v1 v2 v3 : V} : (fsS v0 v1 v2 v3).lookup ("keep" : Str) = none := (lk_miss ne_keep___dealings (lk_miss ne_keep___row (lk_miss ne_keep___history (lk_miss ne_keep___holders rfl))))
theorem fsS_no_drop {v0 v1 v2 v3 : V} : (fsS v0 v1 v2 v3).lookup ("drop" : Str) = none := (lk_miss ne_drop___dealings (lk_miss ne_drop___row (lk_miss ne_drop___history (lk_miss ne_drop___holders rfl))))
theorem fsS_no_order {v0 v1 v2 v3 : V} : (fsS v0 v1 v2 v3).lookup ("order" : Str) = none := (lk_miss ne_order___dealings (lk_miss ne_order___row (lk_miss ne_order___history (lk_miss ne_order___holders rfl))))
theorem fsS_no_moment {v0 v1 v2 v3 : V} : (fsS v0 v1 v2 v3).lookup ("moment" : Str) = none := (lk_miss ne_moment___dealings (lk_miss ne_moment___row (lk_miss ne_moment___history (lk_miss ne_moment___holders rfl))))
theorem fsS_no_ended {v0 v1 v2 v3 : V} : (fsS v0 v1 v2 v3).lookup ("ended" : Str) = none := (lk_miss ne_ended___dealings (lk_miss ne_ended___row (lk_miss ne_ended___history (lk_miss ne_ended___holders rfl))))
theorem fsS_no_deeds {v0 v1 v2 v3 : V} : (fsS v0 v1 v2 v3).lookup ("deeds" : Str) = none := (lk_miss ne_deeds___dealings (lk_miss ne_deeds___row (lk_miss ne_deeds___history (lk_miss ne_deeds___holders rfl))))
theorem fsS_no_value {v0 v1 v2 v3 : V} : (fsS v0 v1 v2 v3).lookup ("value" : Str) = none := (lk_miss ne_value___dealings (lk_miss ne_value___row (lk_miss ne_value___history (lk_miss ne_value___holders rfl))))
theorem fsS_no_versions {v0 v1 v2 v3 : V} : (fsS v0 v1 v2 v3).lookup ("versions" : Str) = none := (lk_miss ne_versions___dealings (lk_miss ne_versions___row (lk_miss ne_versions___history (lk_miss ne_versions___holders rfl))))
theorem fsS_no_sweep {v0 v1 v2 v3 : V} : (fsS v0 v1 v2 v3).lookup ("sweep" : Str) = none := (lk_miss ne_sweep___dealings (lk_miss ne_sweep___row (lk_miss ne_sweep___history (lk_miss ne_sweep___holders rfl))))
theorem fsS_no_begun {v0 v1 v2 v3 : V} : (fsS v0 v1 v2 v3).lookup ("_begun" : Str) = none := (lk_miss ne__begun___dealings (lk_miss ne__begun___row (lk_miss ne__begun___history (lk_miss ne__begun___holders rfl))))
theorem fsS_no_going {v0 v1 v2 v3 : V} : (fsS v0 v1 v2 v3).lookup ("_going" : Str) = none := (lk_miss ne__going___dealings (lk_miss ne__going___row (lk_miss ne__going___history (lk_miss ne__going___holders rfl))))
theorem fsS_no_end {v0 v1 v2 v3 : V} : (fsS v0 v1 v2 v3).lookup ("_end" : Str) = none := (lk_miss ne__end___dealings (lk_miss ne__end___row (lk_miss ne__end___history (lk_miss ne__end___holders rfl))))
theorem fsS_no_let_free {v0 v1 v2 v3 : V} : (fsS v0 v1 v2 v3).lookup ("_let_free" : Str) = none := (lk_miss ne__let_free___dealings (lk_miss ne__let_free___row (lk_miss ne__let_free___history (lk_miss ne__let_free___holders rfl))))
end Kt

namespace Kt
open PySem PySem.Spec PyProof.Rows L2 GxR Kr
/-! ### where classes and methods stand -/
structure MFun (K : PySem.W.Frag) (C : Addr) (m qual : Str) (st : Stmt) (ps : List Str) where
  f : Addr
  fd : FuncData
  F : Fun K m qual st f fd
  m : Meth K C m f
  b : Binds K fd ps []
structure MkDef (K : PySem.W.Frag) (mg : Str → Option Value) (C : Addr) (x qual : Str) (st : Stmt) (ps : List Str) where
  f : Addr
  fd : FuncData
  F : Fun K "__init__" qual st f fd
  make : Mk K C f
  b : Binds K fd ps []
  g : mg x = some (.ref C)
structure ClW (K : PySem.W.Frag) (C : Addr) : Prop where
  cl : Cls K C
  n_standing : NoAttr K C "_standing"
  n_worths : NoAttr K C "_worths"
structure ClD (K : PySem.W.Frag) (C : Addr) : Prop where
  cl : Cls K C
  n_start : NoAttr K C "start"
  n_state : NoAttr K C "state"
  n_writes : NoAttr K C "writes"
  n_looked_names : NoAttr K C "looked_names"
  n_looked_heads : NoAttr K C "looked_heads"
  n_done : NoAttr K C "done"
structure ClHi (K : PySem.W.Frag) (C : Addr) : Prop where
  cl : Cls K C
  n_versions : NoAttr K C "_versions"
structure ClR (K : PySem.W.Frag) (C : Addr) : Prop where
  cl : Cls K C
  n_numbers : NoAttr K C "_numbers"
  n_kept_at : NoAttr K C "_kept_at"
  n_writers : NoAttr K C "_writers"
  n_name_lookers : NoAttr K C "_name_lookers"
  n_head_lookers : NoAttr K C "_head_lookers"
structure ClS (K : PySem.W.Frag) (C : Addr) : Prop where
  cl : Cls K C
  n_dealings : NoAttr K C "_dealings"
  n_row : NoAttr K C "_row"
  n_history : NoAttr K C "_history"
  n_holders : NoAttr K C "_holders"
/-! ### promises: names, writes -/
def sp_is_under : Sp := fun vs H Q _ => ∃ a b : Str, vs = [.str a, .str b] ∧ Q (.bl (pre b a)) H
def sp_pairs_of : Sp := fun vs H Q _ => ∃ (a : Addr) (m : Prs), vs = [.ref a] ∧ DictAt H a m ∧ m.length ≤ 1000000 ∧ (∀ x ∈ m, x.1.length ≤ 1000000) ∧
  ∀ (p : Addr) (ps : Prs) (H' : Hp), Same H H' → H p = none → PairsAt (Fresh H H') p ps → IsTold (tells m) "" ps → ps.length ≤ m.length → Q (.ref p) H'
section
variable (CW : Addr)
def sp_w_init : Sp := fun vs H Q _ => ∃ wp dx : Addr, vs = [.ref wp] ∧ H wp = some (.ins CW dx []) ∧ ∀ (H' : Hp) (A : Ads), Ch Nob (fun b => b = wp) A H H' → WrAt CW H' A wp [] → Q .non H'
def sp_w_add : Sp := fun vs H Q _ => ∃ (A : Ads) (wp : Addr) (n : Str) (v : V) (puts : Prs), vs = [.ref wp, .str n, v] ∧ WrAt CW H A wp puts ∧ puts.length ≤ 1000000 ∧ ∀ (H' : Hp) (A' : Ads), Ch Nob A A' H H' → WrAt CW H' A' wp (puts ++ [(n, v)]) → Q .non H'
def sp_w_many : Sp := fun vs H Q _ => ∃ (wp st wo : Addr) (m : List (Str × Addr)) (puts : Prs), vs = [.ref wp] ∧ WrC CW H wp st wo m puts ∧ Q (.int (puts.length : Nat)) H
def sp_w_names : Sp := fun vs H Q _ => ∃ (wp st wo : Addr) (m : List (Str × Addr)) (puts : Prs), vs = [.ref wp] ∧ WrC CW H wp st wo m puts ∧ puts.length ≤ 1000000 ∧ ∀ (H' : Hp) (q : Addr), Same H H' → H q = none → H' q = some (.lst ((keysOf puts).map V.str)) → Q (.ref q) H'
def sp_w_touches : Sp := fun vs H Q _ => ∃ (wp st wo : Addr) (m : List (Str × Addr)) (puts : Prs) (n : Str), vs = [.ref wp, .str n] ∧ WrC CW H wp st wo m puts ∧ Q (.bl (decide (n ∈ keysOf puts))) H
def sp_w_last : Sp := fun vs H Q _ => ∃ (wp st wo : Addr) (m : List (Str × Addr)) (puts : Prs) (n : Str) (v : V), vs = [.ref wp, .str n] ∧ WrC CW H wp st wo m puts ∧ valV (putAll [] puts) n = some v ∧ Q v H
def sp_w_told : Sp := fun vs H Q _ => ∃ (wp st wo : Addr) (m : List (Str × Addr)) (puts : Prs) (n : Str) (v : V), vs = [.ref wp, .str n, v] ∧ WrC CW H wp st wo m puts ∧ Q ((valV (putAll [] puts) n).getD v) H
def sp_w_cut : Sp := fun vs H Q _ => ∃ (A : Ads) (wp : Addr) (k : Nat) (puts : Prs), vs = [.ref wp, .int (k : Nat)] ∧ WrAt CW H A wp puts ∧ puts.length ≤ 1000000 ∧ k ≤ puts.length ∧
  ∀ (H' : Hp) (A' : Ads) (q : Addr) (fr : List Str), Ch Nob A A' H H' → WrAt CW H' A' wp (puts.take k) → H q = none → ¬ A' q → H' q = some (.lst (fr.map V.str)) → fr.Nodup → (∀ n, n ∈ fr ↔ n ∈ keysOf puts ∧ n ∉ keysOf (puts.take k)) → Q (.ref q) H'
def sp_w_told_under : Sp := fun vs H Q _ => ∃ (wp st wo bd : Addr) (wm : List (Str × Addr)) (puts m : Prs) (hd : Str), vs = [.ref wp, .str hd, .ref bd] ∧ WrC CW H wp st wo wm puts ∧ H wo = some (.dK (dk (mdP wm))) ∧ DictAt H bd m ∧ (∀ n ∈ m.map (·.1), pre hd n = true) ∧
  puts.length + m.length ≤ 1000000 ∧ (∀ x ∈ m, x.1.length ≤ 1000000) ∧ (∀ x ∈ puts, x.1.length ≤ 1000000) ∧ ∀ (p : Addr) (ps : Prs) (H' : Hp), Same H H' → H p = none → PairsAt (Fresh H H') p ps → IsTold (readV (tells m) puts) hd ps → Q (.ref p) H'
end
/-! counting -/
theorem valsOf_len (puts : Prs) (n : Str) : (valsOf puts n).length = (puts.map (·.1)).count n := by
  unfold valsOf
  rw [List.length_map, List.count_eq_countP, List.countP_map, List.countP_eq_length_filter]
  congr 1
theorem valsOf_app (a b : Prs) (n : Str) : valsOf (a ++ b) n = valsOf a n ++ valsOf b n := by
  unfold valsOf
  rw [List.filter_append, List.map_append]
theorem valsOf_nil {puts : Prs} {n : Str} : valsOf puts n = [] ↔ n ∉ keysOf puts := by
  rw [keysOf_mem]
  unfold valsOf
  rw [List.map_eq_nil_iff, List.filter_eq_nil_iff]
  constructor
  · intro h z
    obtain ⟨q, hq, e⟩ := List.mem_map.mp z
    exact h q hq (decide_eq_true e)
  · intro h q hq e
    exact h (List.mem_map.mpr ⟨q, hq, of_decide_eq_true e⟩)
/-- the names of the first so many writes come first -/
theorem keysOf_prefix : ∀ (b a : Prs), ∃ r, keysOf (a ++ b) = keysOf a ++ r := fun b => by
  rw [← List.reverse_reverse b]
  generalize b.reverse = c
  induction c with
  | nil => exact fun a => ⟨[], by rw [List.reverse_nil, List.append_nil, List.append_nil]⟩
  | cons q c ih =>
    intro a
    obtain ⟨r, e⟩ := ih a
    rw [List.reverse_cons, ← List.append_assoc]
    by_cases h : q.1 ∈ keysOf (a ++ c.reverse)
    · exact ⟨r, by rw [show [q] = [(q.1, q.2)] from rfl, keysOf_snoc_in h, e]⟩
    · exact ⟨r ++ [q.1], by rw [show [q] = [(q.1, q.2)] from rfl, keysOf_snoc_new h, e, List.append_assoc]⟩
theorem keysOf_take (puts : Prs) (k : Nat) : (keysOf puts).filter (fun n => decide (n ∈ keysOf (puts.take k))) = keysOf (puts.take k) := by
  obtain ⟨r, e⟩ := keysOf_prefix (puts.drop k) (puts.take k)
  rw [List.take_append_drop] at e
  have nd := keysOf_nodup puts
  rw [e] at nd
  rw [e, List.filter_append, List.filter_eq_self.mpr fun n hn => decide_eq_true hn, List.filter_eq_nil_iff.mpr, List.append_nil]
  intro n hn z
  exact (List.nodup_append.mp nd).2.2 n (of_decide_eq_true z) n hn rfl
/-- what is left of a name's values where the last c were let go -/
def cutF (puts : Prs) (g : List Str) (n : Str) : List V := (valsOf puts n).take ((valsOf puts n).length - g.count n)
theorem cutF_nil (puts : Prs) : cutF puts [] = valsOf puts := by
  funext n
  unfold cutF
  rw [List.count_nil, Nat.sub_zero, List.take_length]
theorem cutF_all (puts : Prs) (k : Nat) : cutF puts ((puts.drop k).map (·.1)) = valsOf (puts.take k) := by
  funext n
  unfold cutF
  have e : valsOf puts n = valsOf (puts.take k) n ++ valsOf (puts.drop k) n := by rw [← valsOf_app, List.take_append_drop]
  rw [e, List.length_append, ← valsOf_len (puts.drop k) n, Nat.add_sub_cancel, List.take_left]
theorem cutF_other (puts : Prs) (g : List Str) {x n : Str} (h : n ≠ x) : cutF puts (g ++ [x]) n = cutF puts g n := by
  unfold cutF
  rw [List.count_append, List.count_cons_of_ne (fun z => h z.symm), List.count_nil, Nat.add_zero]
theorem cutF_pop (puts : Prs) (g : List Str) (x : Str) : cutF puts (g ++ [x]) x = (cutF puts g x).dropLast := by
  unfold cutF
  rw [List.count_append, List.count_cons_self, List.count_nil, List.dropLast_eq_take, List.take_take, List.length_take]
  congr 1
  omega
theorem dk_strs (m : Prs) : (dk m).map (fun kv => kV kv.1) = (m.map (·.1)).map V.str := by
  unfold dk
  rw [List.map_map, List.map_map]
  rfl
/-! ### d.setdefault(n, []).append(v) -/
structure Set1 (H1 H' : Hp) (o : Addr) (m m' : List (Str × Addr)) (f : Str → List V) (n : Str) (l : Addr) : Prop where
  at' : H' l = some (.lst (f n))
  ch : Ch Nob (mdA o m) (mdA o m') H1 H'
  fin : ∀ (H'' : Hp) (v : V), H'' l = some (.lst (f n ++ [v])) → (∀ b, mdA o m' b → b ≠ l → H'' b = H' b) → MD H'' o m' (addF f n v) ∧ H'' o = some (.dK (dk (mdP m')))
  key : (n ∈ m.map (·.1) → m'.map (·.1) = m.map (·.1)) ∧ (n ∉ m.map (·.1) → m'.map (·.1) = m.map (·.1) ++ [n])
  mem : mdA o m' l ∧ o ≠ l
theorem setd_add {H1 : Hp} {o l0 : Addr} {m : List (Str × Addr)} {f : Str → List V} {n : Str} (h : MD H1 o m f) (ho : H1 o = some (.dK (dk (mdP m)))) (nl : H1 l0 = none) (hz : m.length < sizeLine) :
    upd H1 l0 (.lst []) o = some (.dK (dk (mdP m))) ∧ (dk (mdP m)).length < sizeLine ∧ (∀ v, valV (dk (mdP m)) (Sum.inr n : Key) = some v → ∃ l m', v = .ref l ∧ Set1 H1 (upd H1 l0 (.lst [])) o m m' f n l) ∧
      (valV (dk (mdP m)) (Sum.inr n : Key) = none → ∃ m', Set1 H1 (upd (upd H1 l0 (.lst [])) o (.dK (putK (dk (mdP m)) (Sum.inr n : Key) (.ref l0)))) o m m' f n l0) := by
  have no : o ≠ l0 := ne_of_none ho nl
  have s0 := same_new (o := .lst []) nl
  refine ⟨s0 _ _ ho, by rw [dk_len, mdP_len]; exact hz, fun v hv => ?_, fun hv => ?_⟩
  · rw [dk_val] at hv
    rcases md_val h.nk n with ⟨l, h1, h2⟩ | ⟨h1, h2⟩
    · rw [h2] at hv
      cases hv
      have hl := h.ls _ h1
      refine ⟨l, m, rfl, s0 _ _ hl, Ch.same s0, fun H'' v e k => ?_, ⟨fun _ => rfl, fun z => absurd (List.mem_map.mpr ⟨_, h1, rfl⟩) z⟩, .inr (List.mem_map.mpr ⟨_, h1, rfl⟩), ?_⟩
      · have no2 : o ≠ l := fun z => by
          rw [← z, ho] at hl
          cases hl
        have e1 : H'' o = H1 o := by rw [k o (.inl rfl) no2, s0 _ _ ho, ho]
        refine ⟨h.grow h1 e1 e fun q hq hne => ?_, by rw [e1, ho]⟩
        rw [k q.2 (.inr (List.mem_map.mpr ⟨q, hq, rfl⟩)) hne, h.ls q hq]
        exact s0 _ _ (h.ls q hq)
      · intro z
        rw [← z, ho] at hl
        cases hl
    · rw [h2] at hv
      cases hv
  · rw [dk_val] at hv
    rcases md_val h.nk n with ⟨l, h1, h2⟩ | ⟨h1, h2⟩
    · rw [h2] at hv
      cases hv
    · rw [mdP_put h1]
      have e0 : (upd (upd H1 l0 (.lst [])) o (.dK (dk (mdP (m ++ [(n, l0)]))))) o = some (.dK (dk (mdP (m ++ [(n, l0)])))) := upd_same
      have e1 : (upd (upd H1 l0 (.lst [])) o (.dK (dk (mdP (m ++ [(n, l0)]))))) l0 = some (.lst []) := by rw [upd_ne no.symm]; exact upd_same
      have el : ∀ q ∈ m, (upd (upd H1 l0 (.lst [])) o (.dK (dk (mdP (m ++ [(n, l0)]))))) q.2 = H1 q.2 := fun q hq => by
        have hq2 := h.ls q hq
        rw [upd_ne (fun z => by rw [z, ho] at hq2; cases hq2), upd_ne (ne_of_none hq2 nl)]
      refine ⟨m ++ [(n, l0)], by rw [h.off n h1]; exact e1, ⟨fun b u nb _ e => ?_, fun b hb => ?_, fun b z => upd_free (upd_free z)⟩, fun H'' v e k => ?_, ⟨fun z => absurd z h1, fun _ => by rw [List.map_append]; rfl⟩, .inr (by rw [List.map_append]; exact List.mem_append_right _ List.mem_cons_self), no⟩
      · rw [upd_ne (fun z => nb (.inl z)), upd_ne (ne_of_none e nl)]
        exact e
      · rcases hb with hb | hb
        · exact .inl (.inl hb)
        · rw [List.map_append] at hb
          rcases List.mem_append.mp hb with z | z
          · exact .inl (.inr z)
          · exact .inr (by rw [List.mem_singleton.mp z]; exact nl)
      · have mo : H'' o = some (.dK (dk (mdP (m ++ [(n, l0)])))) := by rw [k o (.inl rfl) no, e0]
        refine ⟨h.newk h1 nl mo ?_ fun q hq => ?_, mo⟩
        · rw [h.off n h1] at e
          exact e
        · have hq2 := h.ls q hq
          rw [k q.2 (.inr (by rw [List.map_append]; exact List.mem_append_left _ (List.mem_map.mpr ⟨q, hq, rfl⟩))) (ne_of_none hq2 nl), el q hq]
theorem key_mem {H1 H' : Hp} {o : Addr} {m m' : List (Str × Addr)} {f : Str → List V} {n : Str} {l : Addr} (h : Set1 H1 H' o m m' f n l) {puts : Prs} {v : V} (hk : m.map (·.1) = keysOf puts) : m'.map (·.1) = keysOf (puts ++ [(n, v)]) := by
  by_cases hn : n ∈ m.map (·.1)
  · rw [h.key.1 hn, keysOf_snoc_in (by rw [← hk]; exact hn), hk]
  · rw [h.key.2 hn, keysOf_snoc_new (by rw [← hk]; exact hn), hk]
theorem pre_nil (n : Str) : pre "" n = true := by
  have e0 : ("" : Str).cps.toList = [] := by decide +kernel
  have e1 : ("" : Str).length = 0 := by decide +kernel
  unfold pre Txt.startswith
  rw [StrLaws.subAt_eq, List.drop_zero, e0, e1, List.take_zero, decide_eq_true (Nat.zero_le _)]
  rfl
/-! ### within a lock -/
def SameB (d : Addr) (H H' : Hp) : Prop := ∀ b o, b ≠ d → H b = some o → H' b = some o
theorem SameB.lock {d : Addr} {H : Hp} {u : HO} : SameB d H (upd H d u) := fun b o n e => by
  rw [upd_ne n]
  exact e
theorem SameB.trans {d : Addr} {H H1 H2 : Hp} (a : SameB d H H1) (b : SameB d H1 H2) : SameB d H H2 := fun c o n e => b c o n (a c o n e)
theorem Same.b {H H' : Hp} (s : Same H H') (d : Addr) : SameB d H H' := fun b o _ e => s b o e
theorem SameB.open {d : Addr} {H H' : Hp} {u : HO} (s : SameB d H H') (h : H d = some u) : Same H (upd H' d u) := fun b o e => by
  by_cases n : b = d
  · rw [n] at e
    rw [n, upd_same, ← h, e]
  · rw [upd_ne n]
    exact s b o n e
theorem SameB.new {d D : Addr} {H H' : Hp} {u : HO} (s : SameB d H H') (h : H' d = some u) (n : H' D = none) : H D = none ∧ D ≠ d := by
  have e : D ≠ d := fun z => by
    rw [z, h] at n
    cases n
  refine ⟨?_, e⟩
  cases q : H D with
  | none => rfl
  | some o =>
    rw [s D o e q] at n
    cases n
theorem dk_at {m : Prs} {i : Nat} {k : Key} {v : V} (h : (dk m)[i]? = some (k, v)) : ∃ n, m[i]? = some (n, v) ∧ k = Sum.inr n := by
  unfold dk at h
  rw [List.getElem?_map] at h
  obtain ⟨q, hq, e⟩ := Option.map_eq_some_iff.mp h
  cases e
  exact ⟨q.1, hq, rfl⟩
theorem keys_take_new {m : Prs} {i : Nat} {n : Str} {v : V} (nd : (m.map (·.1)).Nodup) (h : m[i]? = some (n, v)) : n ∉ (m.take i).map (·.1) := fun z => by
  rw [List.map_take] at z
  obtain ⟨j, hj, e⟩ := List.mem_take_iff_getElem.mp z
  have h2 : (m.map (·.1))[i]? = some n := by rw [List.getElem?_map, h]; rfl
  have h3 : (m.map (·.1))[j]? = some n := by rw [List.getElem?_eq_getElem (by omega), e]
  have := nodup_at nd h2 h3
  omega
/-! ### told under a head -/
def lastV (puts : Prs) (n : Str) : V := (valV (putAll [] puts) n).getD .non
def overs (puts : Prs) (hd : Str) (i : Nat) : Prs := (((keysOf puts).take i).filter (pre hd)).map fun n => (n, lastV puts n)
theorem overs_snoc {puts : Prs} {hd : Str} {i : Nat} {n : Str} (h : (keysOf puts)[i]? = some n) : overs puts hd (i + 1) = if pre hd n = true then overs puts hd i ++ [(n, lastV puts n)] else overs puts hd i := by
  unfold overs
  rw [List.take_add_one, h, List.filter_append, List.map_append, show (some n).toList = [n] from rfl, List.filter_cons]
  by_cases e : pre hd n = true
  · rw [if_pos e, if_pos e]
    rfl
  · rw [if_neg e, if_neg e]
    exact List.append_nil _
theorem overs_val {puts : Prs} {hd : Str} (n : Str) : valV (putAll [] (overs puts hd (keysOf puts).length)) n = if n ∈ keysOf puts ∧ pre hd n = true then some (lastV puts n) else none := by
  have nd : ((overs puts hd (keysOf puts).length).map (·.1)).Nodup := by
    unfold overs
    rw [List.map_map, List.take_length]
    show ((List.filter (pre hd) (keysOf puts)).map id).Nodup
    rw [List.map_id]
    exact (keysOf_nodup puts).filter _
  rw [putAll_new (l := overs puts hd (keysOf puts).length) (m := []) nd, List.nil_append]
  by_cases e : n ∈ keysOf puts ∧ pre hd n = true
  · rw [if_pos e]
    refine (val_mem nd).mp ?_
    unfold overs
    rw [List.take_length]
    exact List.mem_map.mpr ⟨n, List.mem_filter.mpr e, rfl⟩
  · rw [if_neg e]
    refine valV_none fun z => e ?_
    unfold overs at z
    rw [List.take_length] at z
    obtain ⟨q, hq, e2⟩ := List.mem_map.mp z
    obtain ⟨k, hk, e3⟩ := List.mem_map.mp hq
    rw [← e3] at e2
    have e4 : k = n := e2
    rw [← e4]
    exact List.mem_filter.mp hk
theorem keysOf_some {puts : Prs} {n : Str} (h : n ∈ keysOf puts) : valV (putAll [] puts) n = some (lastV puts n) := by
  unfold lastV
  cases e : valV (putAll [] puts) n with
  | none =>
    exfalso
    rw [last_val] at e
    exact valsOf_nil.mp (List.getLast?_eq_none_iff.mp e) h
  | some x => rfl
theorem told_overs {m puts ps : Prs} {hd : Str} (hall : ∀ n ∈ m.map (·.1), pre hd n = true) (t : IsTold (tells (putAll m (overs puts hd (keysOf puts).length))) "" ps) : IsTold (readV (tells m) puts) hd ps := by
  have key : ∀ n, (pre hd n = true → tells (putAll m (overs puts hd (keysOf puts).length)) n = readV (tells m) puts n) ∧ (¬ pre hd n = true → tells (putAll m (overs puts hd (keysOf puts).length)) n = .non) := fun n => by
    rw [tells_all]
    unfold readV
    rw [overs_val]
    constructor
    · intro e
      by_cases k : n ∈ keysOf puts
      · rw [if_pos ⟨k, e⟩, keysOf_some k]
      · rw [if_neg (fun z => k z.1), valV_none (m := putAll [] puts) k]
    · intro e
      rw [if_neg (fun z => e z.2)]
      show tells m n = .non
      unfold tells
      rw [valV_none (fun z => e (hall n z))]
      rfl
  refine ⟨t.up, fun n v => ?_⟩
  rw [t.mem]
  constructor
  · rintro ⟨h1, h2, _⟩
    by_cases e : pre hd n = true
    · exact ⟨h1, by rw [← (key n).1 e]; exact h2, e⟩
    · rw [(key n).2 e] at h2
      exact absurd h2.symm h1
  · rintro ⟨h1, h2, h3⟩
    exact ⟨h1, by rw [(key n).1 h3]; exact h2, pre_nil n⟩
theorem overs_len (puts : Prs) (hd : Str) (i : Nat) : (overs puts hd i).length ≤ puts.length := by
  unfold overs
  rw [List.length_map]
  have h1 := List.length_filter_le (pre hd) ((keysOf puts).take i)
  rw [List.length_take] at h1
  have h2 := keysOf_len puts
  omega
theorem wr_key {CW : Addr} {H : Hp} {wp st wo : Addr} {m : List (Str × Addr)} {puts : Prs} (h : WrC CW H wp st wo m puts) {i : Nat} {k : Key} {v : V} (e : (dk (mdP m))[i]? = some (k, v)) : ∃ n, (keysOf puts)[i]? = some n ∧ k = Sum.inr n := by
  obtain ⟨n, h1, h2⟩ := dk_at e
  refine ⟨n, ?_, h2⟩
  rw [← h.key, ← mdP_keys, List.getElem?_map, h1]
  rfl
theorem putAll_in {q : Str × V} {l m : Prs} (h : q ∈ putAll m l) : q ∈ m ∨ q ∈ l := putAll_sub q h
/-! ### slices, deletions -/
theorem cutV_drop (xs : List V) (k : Nat) (h : k ≤ xs.length) : cutV xs (some (k : Int)) none = xs.drop k := by
  unfold cutV
  rw [HT.sIx_none, HT.sIx_nat, Nat.min_eq_left h, List.take_of_length_le (by rw [List.length_drop]; exact Nat.le_refl _)]
theorem cutV_take (xs : List V) (k : Nat) (h : k ≤ xs.length) : cutV xs none (some (k : Int)) = xs.take k := by
  unfold cutV
  rw [HT.sIx_none, HT.sIx_nat, List.drop_zero, Nat.sub_zero, Nat.min_eq_left h]
theorem mdP_drop (m : List (Str × Addr)) (n : Str) : dropK (dk (mdP m)) (Sum.inr n : Key) = dk (mdP (m.filter fun q => !decide (q.1 = n))) := by
  unfold dropK dk mdP
  rw [List.map_map, List.map_map, List.filter_map]
  congr 1
  refine List.filter_congr fun q _ => ?_
  show decide ((Sum.inr q.1 : Key) ≠ Sum.inr n) = _
  by_cases e : q.1 = n <;> simp [e]
theorem MD.set {H H' : Hp} {o l : Addr} {m : List (Str × Addr)} {f f' : Str → List V} {n : Str} (h : MD H o m f) (hl : (n, l) ∈ m) (ho : H' o = H o) (he : H' l = some (.lst (f' n))) (hr : ∀ q ∈ m, q.2 ≠ l → H' q.2 = H q.2) (hf : ∀ k, k ≠ n → f' k = f k) : MD H' o m f' := by
  refine ⟨?_, h.nk, h.na, fun q hq => ?_, fun k hk => ?_⟩
  · have h1 := h.at'
    unfold Rd at h1 ⊢
    rw [ho]
    exact h1
  · by_cases e : q.1 = n
    · have e2 : q.2 = l := md_one h.nk (n := n) (by rw [← e]; exact hq) hl
      rw [e2, he, e]
    · rw [hf _ e, hr q hq, h.ls q hq]
      intro z
      obtain ⟨i, hi, ei⟩ := List.getElem_of_mem hq
      obtain ⟨j, hj, ej⟩ := List.getElem_of_mem hl
      have ij := nodup_at (i := i) (j := j) (x := l) h.na (by rw [List.getElem?_map, List.getElem?_eq_getElem hi, ei, ← z]; rfl) (by rw [List.getElem?_map, List.getElem?_eq_getElem hj, ej]; rfl)
      subst ij
      rw [ei] at ej
      exact e (by rw [ej])
  · rw [hf k (fun z => hk (by rw [z]; exact List.mem_map.mpr ⟨_, hl, rfl⟩))]
    exact h.off k hk
theorem MD.del {H H' : Hp} {o : Addr} {m : List (Str × Addr)} {f : Str → List V} {n : Str} (h : MD H o m f) (hn : f n = []) (ho : H' o = some (.dK (dk (mdP (m.filter fun q => !decide (q.1 = n)))))) (hr : ∀ q ∈ m, H' q.2 = H q.2) : MD H' o (m.filter fun q => !decide (q.1 = n)) f := by
  refine ⟨.inl ho, (List.filter_sublist.map _).nodup h.nk, (List.filter_sublist.map _).nodup h.na, fun q hq => ?_, fun k hk => ?_⟩
  · have hq2 := (List.mem_filter.mp hq).1
    rw [hr q hq2]
    exact h.ls q hq2
  · by_cases e : k = n
    · rw [e]
      exact hn
    · refine h.off k fun z => hk ?_
      obtain ⟨q, hq, e2⟩ := List.mem_map.mp z
      refine List.mem_map.mpr ⟨q, List.mem_filter.mpr ⟨hq, ?_⟩, e2⟩
      rw [decide_eq_false (fun y => e (by rw [← e2, y]))]
      rfl
theorem cutF_pos {puts : Prs} {k i : Nat} {n : Str} (h : ((puts.drop k).map (·.1))[i]? = some n) : 0 < (cutF puts (((puts.drop k).map (·.1)).take i) n).length := by
  unfold cutF
  rw [List.length_take, valsOf_len]
  obtain ⟨lt, e⟩ := List.getElem?_eq_some_iff.mp h
  have h1 : (puts.map (·.1)).count n = ((puts.take k).map (·.1)).count n + ((puts.drop k).map (·.1)).count n := by
    rw [← List.count_append, ← List.map_append, List.take_append_drop]
  have h2 : ((puts.drop k).map (·.1)).count n = (((puts.drop k).map (·.1)).take i).count n + (((puts.drop k).map (·.1)).drop i).count n := by
    rw [← List.count_append, List.take_append_drop]
  have h3 : 0 < (((puts.drop k).map (·.1)).drop i).count n := by
    rw [List.count_pos_iff, List.drop_eq_getElem_cons lt, e]
    exact List.mem_cons_self
  omega
end Kt

set_option maxHeartbeats 2000000
namespace Kt
open PySem PySem.Spec PyProof.Rows L2 GxR Kr
/-! ### all(same(a[i][1], b[i][1]) for i in range(n)) -/
section
variable {X : Cx}
theorem cr_range1 : CallR X (.type "range") (fun vs H Q => ∃ j, vs = [V.int j] ∧ ∀ p, H p = none → Q (.ref p) (upd H p (.rng 0 j))) := by
  intro pins s σ H vs us Q I r h
  obtain ⟨j, rfl, q⟩ := h
  obtain ⟨u1, rfl, ri⟩ := vals1 r
  obtain ⟨t, rfl⟩ := ri
  refine call_range_1 ⟨.ref s.heap.objs.size, upd H s.heap.objs.size (.rng 0 j), I.laid (t' := s.toks + 1 + 1) (fun b o e => Heap.get?_push_of_some _ e) (Nat.le_refl _) ?_, rfl, q _ (I.hok.fresh (Nat.le_refl _))⟩
  exact ⟨s.toks, t, s.toks + 1, Heap.get?_push_size _ rfl⟩
end
section
variable {X : Cx} {pins : List (Addr × Obj)} {σ : L2.St} {H : Hp} {s : Shared}
theorem iters_range {r P : Addr} {n : Nat} {ps : Array Value} (I : Inv X pins σ H s) (hr : H r = some (.rng 0 (n : Nat))) (hP : H P = some (.tbl ps)) (hn : n ≤ 1000000) : Iters X P (.ref r) n (fun i v => i < n ∧ ∃ t, v = .int ((i : Nat) : Int) t) s := by
  intro Q E h
  obtain ⟨t, u, v, e⟩ := I.hok r _ hr
  have eP : s.heap.get? P = some { cls := .none, data := .fields ps } := I.hok P _ hP
  have ltP := Heap.lt_size eP
  have sz : Builtin.Range.rangeSize 0 (n : Nat) 1 = (n : Nat) := by
    unfold Builtin.Range.rangeSize
    simp
    omega
  refine wpAny_pyIter_range (a := 0) (b := (n : Nat)) (c := 1) e ?_ ?_
  · unfold Builtin.Range.small
    have fl : ∀ k : Int, 0 ≤ k → k ≤ 1000000 → Builtin.Range.rangeFitsLong k = true := fun k h1 h2 => by
      unfold Builtin.Range.rangeFitsLong
      simp
      omega
    simp
    rw [sz]
    exact ⟨⟨⟨⟨fl 0 (by omega) (by omega), fl n (by omega) (by omega)⟩, fl 1 (by omega) (by omega)⟩, fl n (by omega) (by omega)⟩, .inr (fl n (by omega) (by omega))⟩
  · refine h _ [s.heap.objs.size] (fun i h => IsRangeIter h s.heap.objs.size (0 + (i : Nat) * 1) ((n : Int) - (i : Nat)) 1) (fun A' hA => ?_) ?_ (fun b hb => ?_) fun hb => ?_
    · have W := Walks.range (prog := X.prog) (w := X.w) hA s.heap.objs.size 0 1 n
      have e2 : (fun (i : Nat) (v : Value) => ∃ t, v = .int (0 + (i : Int) * 1) t) = fun i v => ∃ t, v = .int ((i : Nat) : Int) t := by
        funext i v
        rw [Int.mul_one, Int.zero_add]
      rw [e2] at W
      exact { sub := W.sub, frame := W.frame, done := W.done, self := W.self, item := fun i s Q E hi st hQ => W.item i s Q E hi st fun v h' tk y => hQ v h' tk ⟨hi, y⟩ }
    · rw [sz]
      show IsRangeIter _ s.heap.objs.size (0 + ((0 : Nat) : Int) * 1) ((n : Int) - ((0 : Nat) : Int)) 1
      rw [show (0 : Int) + ((0 : Nat) : Int) * 1 = 0 by omega, show (n : Int) - ((0 : Nat) : Int) = n by omega]
      exact Heap.get?_push_size _ rfl
    · rw [List.mem_singleton.mp hb]
      exact Nat.le_refl _
    · rw [List.mem_singleton.mp hb] at ltP
      exact Nat.lt_irrefl _ ltP
/-- a name of the generator's own block, its value not that of a def's name -/
theorem gen_local {prog : Program} {w : World} {B : Around} {R : Value → Shared → Prop} {Q : Value → Shared → Prop} {en : Env} {sc : Scope} {x : Str} {p : Pos} {z : Shared} {m : Str → Option Value} {v : Value} (hsc : en.scope = sc) (hkind : sc.kind = .function) (hx : sc.names.lookup x = some .local) (hL : z.heap.Ns en.locals m) (hm : m x = some v) (q : Q v z) (dx : (x == ("__debug__" : Str)) = false := by decide) :
    wpAny (model prog w) B (eval (.Name x p) en) Q R z := wpAny_Name (wpAny_loadName_local (by rw [hsc]; exact hkind) (show en.scope.names.lookup x = some .local by rw [hsc]; exact hx) hL hm q) dx
theorem ns_but {h h' : Heap} {N P : Addr} {m : Str → Option Value} {ps : Array Value} (hn : h.Ns N m) (eP : h.get? P = some { cls := .none, data := .fields ps }) (k : ∀ b o, b ≠ P → h.get? b = some o → h'.get? b = some o) : h'.Ns N m := by
  obtain ⟨o, es, ep, e, r⟩ := hn
  refine ⟨o, es, ep, k _ _ (fun z => ?_) e, r⟩
  rw [z, eP] at e
  cases e
  have r1 := r
  simp at r1
/-- a[i][1] within the generator, a a list of pairs -/
theorem gen_item {prog : Program} {w : World} {B : Around} {R : Value → Shared → Prop} {Q : Value → Shared → Prop} {en : Env} {a : Expr} {i : Expr} {p1 p2 p3 : Pos} {j4 : _} {z : Shared} {l t : Addr} {its vs : List Value} {k : Nat} {tk : Tok} {v : Value}
    (ha : ∀ Q2 : Value → Shared → Prop, Q2 (.ref l) z → wpAny (model prog w) B (eval a en) Q2 R z) (hi : ∀ Q2 : Value → Shared → Prop, Q2 (.int (k : Nat) tk) z → wpAny (model prog w) B (eval i en) Q2 R z)
    (hl : z.heap.IsList l its.toArray) (hk : its[k]? = some (.ref t)) (ht : IsTup z.heap t vs.toArray) (hv : vs[1]? = some v) (hlen : its.length ≤ 1000000) (hv2 : vs.length ≤ 3) (hs1 : ∀ o y, subscripted i false o y = operate [o, y] (getItem o y))
    (q : ∀ tk2, Q v { z with toks := tk2 }) : wpAny (model prog w) B (eval (.Subscript (.Subscript a i p1) (.Constant (.int 1) j4 p2) p3) en) Q R z := by
  refine Subscript_ (Subscript_ (ha _ (hi _ ?_)))
  have lt : k < its.length := (List.getElem?_eq_some_iff.mp hk).1
  refine item_listR hl (by omega) (by omega) (x := .ref t) (by simpa using hk) ?_ (hs1 _ _)
  refine wpAny_Constant_int ?_
  have l3 : 1 < vs.toArray.size := by
    rw [List.size_toArray]
    exact (List.getElem?_eq_some_iff.mp hv).1
  exact subscriptTail_builtinR (x := v) ht.typeIs slot_tuple_getitem.lookup (getItem_tuple (j := 1) (Q := fun r s' => r = v ∧ Q r s') ht (by decide) (by decide) (seqIndex_of (by omega) (by omega)) (by simpa using hv) ⟨rfl, q _⟩) (by with_unfolding_all rfl)
/-- return told == said and not isinstance(said, bool), both the same whole number -/
theorem same_run {prog : Program} {w : World} {K : PySem.W.Frag} {A : Around} {E : Value → Shared → Prop} {Q : Flow → Shared → Prop} {env : Env} {m mg mb : Str → Option Value} {s : Shared} {n : Int} {t1 t2 : Tok} {q1 q2 q3 q4 q5 q6 q7 q8 q9 q10 : Pos}
    (hk : env.scope.kind = .function) (l1 : env.kindOf "told" = some .local) (l2 : env.kindOf "said" = some .local) (l3 : env.kindOf "isinstance" = some .globalImplicit) (l4 : env.kindOf "bool" = some .globalImplicit)
    (hL : s.heap.Ns env.locals m) (m1 : m "told" = some (.int n t1)) (m2 : m "said" = some (.int n t2)) (hG : s.heap.Ns env.globals mg) (g1 : mg "isinstance" = none) (g2 : mg "bool" = none)
    (hB : s.heap.Ns env.builtins mb) (hb : ∀ x : Str, x ≠ "__name__" → mb x = bootBuiltins x) (X : K.In s.heap) (q : ∀ tk, Q (.ret (.bool true)) { s with toks := tk }) :
    wpAny (model prog w) A (execs [.Return (some (.BoolOp .And [.Compare (.Name "told" q1) [.Eq] [.Name "said" q2] q3, .UnaryOp .Not (.Call (.Name "isinstance" q4) [.Name "said" q5, .Name "bool" q6] [] q7) q8] q9)) q10] env) Q E s := by
  refine wpAny_execs_cons (wpAny_Return_some (wpAny_And2 (wpAny_Compare1 ?_)))
  refine wpAny_Name (wpAny_loadName_local hk l1 hL m1 ?_)
  refine wpAny_Name (wpAny_loadName_local hk l2 hL m2 ?_)
  refine PyProof.Rows.eq_int (wpAny_truthy_bool ?_)
  rw [beq_self_eq_true]
  show wpAny _ _ (eval _ env) _ _ _
  refine wpAny_UnaryOp ?_
  refine wpAny_Call_Name_kw (Calls.Name_function_global hk l3 (Calls.loadGlobal_builtin hG g1 hB ((hb _ (by decide +kernel)).trans (show bootBuiltins "isinstance" = some (.builtin "isinstance") by decide +kernel)) ?_))
  refine PyProof.Rows.callWith_builtin1 ?_
  show wpAny _ _ (spliced ((false, eval _ env) :: (false, eval _ env) :: [])) _ _ _
  refine Calls.spliced_cons (wpAny_Name (wpAny_loadName_local hk l2 hL m2 ?_))
  refine Calls.spliced_cons (Calls.Name_function_global hk l4 (Calls.loadGlobal_builtin hG g2 hB ((hb _ (by decide +kernel)).trans (show bootBuiltins "bool" = some (.type "bool") by decide +kernel)) ?_))
  refine Calls.spliced_nil ?_
  refine PySem.W.kia_one (K := K) PySem.W.kitx_int X True.intro (kit_ty (show kitB "int" "bool" = some false by decide +kernel)) (fun z => nomatch z) fun tk => ?_
  exact not_of (wpAny_truthy_bool (q _))
theorem bind_two {kd : Str → Option NameKind} {a b : Str} {x y : Value} (h1 : kd a = some .local) (h2 : kd b = some .local) (n : ¬ a = b) : bindL kd [(a, x), (b, y)] (fun _ => none) a = some x ∧ bindL kd [(a, x), (b, y)] (fun _ => none) b = some y := by
  simp [bindL, h1, h2, n]
/-- both lists have pairs, the same whole numbers in them -/
def srcSame (i j : Nat) : Src := fun σ H v n f => ∃ (r tl sl : Addr) (as bs : List Addr), v = .ref r ∧ H r = some (.rng 0 (n : Nat)) ∧ σ[i]? = some (some (.ref tl)) ∧ σ[j]? = some (some (.ref sl)) ∧ H tl = some (.lst (as.map V.ref)) ∧ H sl = some (.lst (bs.map V.ref)) ∧ n ≤ 1000000 ∧ as.length ≤ 1000000 ∧ bs.length ≤ 1000000 ∧
  (∀ k, k < n → ∃ (a b : Addr) (x y : V) (u : Int), as[k]? = some a ∧ bs[k]? = some b ∧ H a = some (.tup [x, .int u]) ∧ H b = some (.tup [y, .int u])) ∧ ∀ k, f k = true
theorem src_same {P fS : Addr} {sc scope : Scope} {x yt ys : Str} {i j : Nat} {p0 p1 p2 p3 p4 p5 p6 pt ps px py pos q1 q2 q3 q4 q5 q6 q7 q8 q9 q10 : Pos} {j1 j2 : Nat} {params : Arguments} {dV kV doc pm cdv ct oc : Value} {an od : Option Addr} {osl : Array (Option Value)}
    (nP : X.K.lookup P = none) (hroom : X.A.depth + 1 < recursionLimit)
    (lk : X.K.lookup fS = some ⟨oc, od, .func (PySem.W.fnOf "is_same" "is_same" params [.Return (some (.BoolOp .And [.Compare (.Name "told" q1) [.Eq] [.Name "said" q2] q3, .UnaryOp .Not (.Call (.Name "isinstance" q4) [.Name "said" q5, .Name "bool" q6] [] q7) q8] q9)) q10] scope dV kV doc pm an cdv ct), osl⟩)
    (hcd : PySem.W.codeIn X.K cdv "is_same" = true) (hkp : PySem.W.keepIn X.K (.ref fS) = true) (hmg : X.mg "is_same" = some (.ref fS)) (g1 : X.mg "isinstance" = none) (g2 : X.mg "bool" = none)
    (hbind : ∀ us : List Value, us.length = 2 → bindArgs (PySem.W.fnOf "is_same" "is_same" params [.Return (some (.BoolOp .And [.Compare (.Name "told" q1) [.Eq] [.Name "said" q2] q3, .UnaryOp .Not (.Call (.Name "isinstance" q4) [.Name "said" q5, .Name "bool" q6] [] q7) q8] q9)) q10] scope dV kV doc pm an cdv ct) ⟨us, []⟩ = pure ((["told", "said"] : List Str).zip us))
    (s1 : scope.kind = .function) (s2 : scope.names.lookup ("told" : Str) = some .local) (s3 : scope.names.lookup ("said" : Str) = some .local) (s4 : scope.names.lookup ("isinstance" : Str) = some .globalImplicit) (s5 : scope.names.lookup ("bool" : Str) = some .globalImplicit) (s6 : scope.isCoroutine = false) (s7 : scope.isGenerator = false)
    (hN1 : X.N[i]? = some yt) (hk1 : X.env.scope.names.lookup yt = some .cell) (hs1 : sc.names.lookup yt = some .free) (hc1 : ∀ cs : List (Str × Addr), (cloFrom cs sc.names []).lookup yt = some ((cs.lookup yt).getD 0))
    (hN2 : X.N[j]? = some ys) (hk2 : X.env.scope.names.lookup ys = some .cell) (hs2 : sc.names.lookup ys = some .free) (hc2 : ∀ cs : List (Str × Addr), (cloFrom cs sc.names []).lookup ys = some ((cs.lookup ys).getD 0))
    (hkind : sc.kind = .function) (hx : sc.names.lookup x = some .local) (hgs : sc.names.lookup ("is_same" : Str) = some .globalImplicit) (dx : (x == ("__debug__" : Str)) = false := by decide) (d1 : (yt == ("__debug__" : Str)) = false := by decide) (d2 : (yt == ("__classdict__" : Str)) = false := by decide) (d3 : (ys == ("__debug__" : Str)) = false := by decide) (d4 : (ys == ("__classdict__" : Str)) = false := by decide) :
    SrcOk X P sc x (.Call (.Name "is_same" p0) [.Subscript (.Subscript (.Name yt pt) (.Name x px) p1) (.Constant (.int 1) j1 p2) p3, .Subscript (.Subscript (.Name ys ps) (.Name x py) p4) (.Constant (.int 1) j2 p5) p6] [] pos) (srcSame i j) := by
  intro pins σ H1 sh v u n f I hT rv hC
  obtain ⟨r, tl, sl, as, bs, rfl, hr, e1, e2, ha, hb, hn, la, lb, hit, hf⟩ := hC
  obtain ⟨ps, hP, _⟩ := hT
  cases rv
  refine ⟨_, iters_range I hr hP hn, ?_⟩
  obtain ⟨u1, r1, gt⟩ := gen_free I hP hN1 e1 hk1 hs1 hkind hc1 d1 d2
  obtain ⟨u2, r2, gs⟩ := gen_free I hP hN2 e2 hk2 hs2 hkind hc2 d3 d4
  obtain rfl : u1 = Value.ref tl := r1
  obtain rfl : u2 = Value.ref sl := r2
  intro en B R k w z m hsc hgl hcs hB hD hU hkeep hL hm hw
  obtain ⟨lt, tw, rfl⟩ := hw
  have eP : sh.heap.get? P = some { cls := .none, data := .fields ps } := I.hok P _ hP
  -- what stands where the generator runs
  have neS : cStatics ≠ P := fun q => by
    obtain ⟨_, ⟨o, es, ep, ho, hd, _⟩, _⟩ := I.nolimit
    rw [q, eP] at ho
    cases ho
    cases hd
  have limz : z.heap.NoLimit := I.nolimit.extBut hkeep neS
  have Kz : X.K.In z.heap := fun a o e => hkeep a o (fun q => by rw [q, nP] at e; cases e) (I.kIn a o e)
  have Gz : z.heap.Ns mainGlobals X.mg := ns_but (I.mod.glob.keeps I.bk) eP hkeep
  obtain ⟨mb, hb1, hb2⟩ := I.mod.blt
  have Bz : z.heap.Ns builtinsNs mb := ns_but (hb1.keeps I.bk) eP hkeep
  have notP : ∀ (b : Addr) (o : HO), H1 b = some o → (∀ qs, o ≠ .tbl qs) → b ≠ P := fun b o e n q => by
    rw [q, hP] at e
    exact n ps (Option.some.inj e).symm
  obtain ⟨_, its, nn, rvs, hl1⟩ := I.hok tl _ ha
  obtain ⟨_, its2, nn2, rvs2, hl2⟩ := I.hok sl _ hb
  have hl1z := hkeep tl _ (notP tl _ ha fun qs e => by cases e) hl1
  have hl2z := hkeep sl _ (notP sl _ hb fun qs e => by cases e) hl2
  obtain ⟨a, b, x1, y1, u, ek1, ek2, ea, eb⟩ := hit k lt
  obtain ⟨_, vs, rv1, ht1⟩ := I.hok a _ ea
  obtain ⟨_, ws, rv2, ht2⟩ := I.hok b _ eb
  have tupz : ∀ {c : Addr} {xs : List V} {us : Array Value}, H1 c = some (.tup xs) → IsTup sh.heap c us → IsTup z.heap c us := fun {c xs us} e h => by
    obtain ⟨o, h1, h2⟩ := h
    exact ⟨o, hkeep c o (notP c _ e fun qs y => by cases y) h1, h2⟩
  obtain ⟨w1, ew1, rw1⟩ := rvs.get (i := k) (x := .ref a) (by rw [List.getElem?_map, ek1]; rfl)
  obtain ⟨w2, ew2, rw2⟩ := rvs2.get (i := k) (x := .ref b) (by rw [List.getElem?_map, ek2]; rfl)
  obtain rfl : w1 = Value.ref a := rw1
  obtain rfl : w2 = Value.ref b := rw2
  obtain ⟨v1, ev1, rx1⟩ := rv1.get (i := 1) (x := .int u) rfl
  obtain ⟨v2, ev2, rx2⟩ := rv2.get (i := 1) (x := .int u) rfl
  obtain ⟨t1, rfl⟩ := rx1
  obtain ⟨t2, rfl⟩ := rx2
  have il : its.length ≤ 1000000 := by
    rw [← rvs.length, List.length_map]
    exact la
  have il2 : its2.length ≤ 1000000 := by
    rw [← rvs2.length, List.length_map]
    exact lb
  have vl : vs.length ≤ 3 := by
    rw [← rv1.length]
    show 2 ≤ 3
    omega
  have wl : ws.length ≤ 3 := by
    rw [← rv2.length]
    show 2 ≤ 3
    omega
  refine wpAny_Call_Name_kw (Calls.Name_function_global (by rw [hsc]; exact hkind) (show en.scope.names.lookup ("is_same" : Str) = some .globalImplicit by rw [hsc]; exact hgs) (Calls.loadGlobal_global (by rw [hgl]; exact Gz) hmg ?_))
  refine PySem.W.callWith_K (h₀ := X.base) I.ok.mod.kin hkp ?_
  show wpAny _ _ (spliced ((false, eval _ en) :: (false, eval _ en) :: [])) _ _ _
  refine Calls.spliced_cons (gen_item (l := tl) (t := a) (its := its) (vs := vs) (k := k) (tk := tw) (v := .int u t1) (fun Q2 q => gt en B _ _ z _ hsc hcs hkeep q) (fun Q2 q => gen_local hsc hkind hx hL hm q dx) ⟨_, hl1z, rfl, _, rfl⟩ ew1 (tupz ea ht1) ev1 il vl (fun _ _ => rfl) fun k2 => ?_)
  refine Calls.spliced_cons (gen_item (z := { z with toks := k2 }) (l := sl) (t := b) (its := its2) (vs := ws) (k := k) (tk := tw) (v := .int u t2) (fun Q2 q => gs en B _ _ { z with toks := k2 } _ hsc hcs hkeep q) (fun Q2 q => gen_local (z := { z with toks := k2 }) hsc hkind hx hL hm q dx) ⟨_, hl2z, rfl, _, rfl⟩ ew2 (tupz eb ht2) ev2 il2 wl (fun _ _ => rfl) fun k3 => ?_)
  refine Calls.spliced_nil ⟨Kz, ?_⟩
  refine wpAny_call (Att.call_fn (binds := [("told", .int u t1), ("said", .int u t2)]) (s := { z with toks := k3 }) Kz limz lk hcd (by omega) (BindsTo.of_eq (hbind [.int u t1, .int u t2] rfl)) ?_ (fun s₁ IC => ?_) s6 s7 s1)
  · show ((scope.names.lookup ("told" : Str) == some .local || scope.names.lookup ("told" : Str) == some .cell) && ((scope.names.lookup ("said" : Str) == some .local || scope.names.lookup ("said" : Str) == some .cell) && true)) = true
    rw [s2, s3]
    rfl
  obtain ⟨h₁, tk₁, rfl⟩ := IC.toInCall.same
  have kp : ∀ b o, z.heap.get? b = some o → h₁.get? b = some o := IC.toInCall.keep
  have hns := IC.toInCall.ns
  refine same_run (K := X.K) (mg := X.mg) (mb := mb) s1 s2 s3 s4 s5 hns (t1 := t1) (t2 := t2) (n := u) ?_ ?_ (Gz.keeps kp) g1 g2 (Bz.keeps kp) hb2 (Kz.keeps kp) fun tk => ?_
  · exact (bind_two s2 s3 (by decide +kernel)).1
  · exact (bind_two s2 s3 (by decide +kernel)).2
  · exact ⟨by rw [hf k], h₁, tk, rfl, kp⟩
end
end Kt

namespace Kt
open PySem PySem.Spec PyProof.Rows L2 GxR Kr
/-! ### promises: walks -/
def sp_is_same : Sp := fun vs H Q _ => ∃ a b : V, vs = [a, b] ∧ IsVal a ∧ IsVal b ∧ Q (.bl (decide (a = b))) H
section
variable (CW C T : Addr)
def sp_read_again : Sp := fun vs H Q E => ∃ (dd wp L st wo : Addr) (wm : List (Str × Addr)) (puts m : Prs) (n : Str) (v : V), vs = [.ref dd, .ref wp, .ref L] ∧ H dd = some (.tup [.str "read", .str n, v]) ∧ IsVal v ∧ WrC CW H wp st wo wm puts ∧ Ok puts ∧ DictAt H L m ∧ Ok m ∧
  (readV (tells m) puts n = v → Q .non H) ∧ (¬ readV (tells m) puts n = v → E (.ref C) none H)
def sp_read_under_again : Sp := fun vs H Q E => ∃ (dd wp L st wo p : Addr) (wm : List (Str × Addr)) (puts m ps : Prs) (hd : Str), vs = [.ref dd, .ref wp, .ref L] ∧ H dd = some (.tup [.str "under", .str hd, .ref p]) ∧ PairsAt H p ps ∧ (∀ q ∈ ps, PrOk q) ∧
  WrC CW H wp st wo wm puts ∧ H wo = some (.dK (dk (mdP wm))) ∧ Ok puts ∧ DictAt H L m ∧ Ok m ∧ puts.length + m.length ≤ 1000000 ∧ TabG H T ∧
  (IsTold (readV (tells m) puts) hd ps → ∀ H' : Hp, SameT T H H' → Q .non H') ∧ (¬ IsTold (readV (tells m) puts) hd ps → ∀ H' : Hp, SameT T H H' → E (.ref C) none H')
def sp_do_again : Sp := fun vs H Q E => ∃ (A : Ads) (dd wp L : Addr) (d : Deed) (puts m : Prs), vs = [.ref dd, .ref wp, .ref L] ∧ DeedAt H dd d ∧ DeedOk d ∧ Fits puts d ∧ WrAt CW H A wp puts ∧ Ok puts ∧ DictAt H L m ∧ Ok m ∧ puts.length + m.length ≤ 100000 ∧ TabG H T ∧
  (Right (tells m) puts d → ∀ (H' : Hp) (A' : Ads), Ch (footOf [T]).M A A' H H' → TabG H' T → WrAt CW H' A' wp (nextP puts d) → Q .non H') ∧
  (¬ Right (tells m) puts d → ∀ (H' : Hp) (A' : Ads), Ch (footOf [T]).M A A' H H' → TabG H' T → E (.ref C) none H')
end
theorem SameT.ch {T : Addr} {A : Ads} {H H' : Hp} (s : SameT T H H') : Ch (footOf [T]).M A A H H' := ⟨fun b o _ m e => s.at' b o (fun z => m (by rw [z]; exact List.mem_cons_self)) e, fun _ z => .inl z, fun b z => by
  cases e : H b with
  | none => rfl
  | some o =>
    by_cases n : b = T
    · obtain ⟨ps, h1, _⟩ := s.tab
      rw [n, h1] at z
      cases z
    · rw [s.at' b o n e] at z
      cases z⟩
theorem tells_val {m : Prs} (h : Ok m) (n : Str) : IsVal (tells m n) := isVal_of (tells_ok h n)
theorem ok_last {puts : Prs} (h : Ok puts) : Ok (putAll [] puts) := ok_putAll ok_nil h
theorem readV_ok {m puts : Prs} (hm : Ok m) (hp : Ok puts) (n : Str) : valueV (readV (tells m) puts n) = true := by
  rw [← tells_all]
  exact tells_ok (ok_putAll hm hp) n
theorem room_gen {k : Nat} {A : Around} (hr : Room k A) : A.depth + 1 < recursionLimit := by
  have := hr.dp
  omega
theorem filt_val {m : Prs} {f : Str → Bool} (nd : (m.map (·.1)).Nodup) (n : Str) : tells (m.filter fun q => f q.1) n = if f n = true then tells m n else .non := by
  have nd2 : ((m.filter fun q => f q.1).map (·.1)).Nodup := (List.filter_sublist.map _).nodup nd
  unfold tells
  by_cases h : f n = true
  · rw [if_pos h]
    cases e : valV m n with
    | none =>
      rw [valV_none]
      intro z
      obtain ⟨q, hq, e2⟩ := List.mem_map.mp z
      have h2 := (val_mem nd).mp (show (q.1, q.2) ∈ m from (List.mem_filter.mp hq).1)
      rw [e2, e] at h2
      cases h2
    | some v =>
      have h2 := (val_mem nd).mpr e
      rw [(val_mem nd2).mp (List.mem_filter.mpr ⟨h2, h⟩)]
  · rw [if_neg h, valV_none]
    · rfl
    · intro z
      obtain ⟨q, hq, e2⟩ := List.mem_map.mp z
      have h3 := (List.mem_filter.mp hq).2
      rw [e2] at h3
      exact h h3
theorem told_filt {m puts ps : Prs} {hd : Str} (nd : (m.map (·.1)).Nodup) : IsTold (readV (tells (m.filter fun q => pre hd q.1)) puts) hd ps ↔ IsTold (readV (tells m) puts) hd ps := by
  have key : ∀ n, pre hd n = true → readV (tells (m.filter fun q => pre hd q.1)) puts n = readV (tells m) puts n := fun n h => by
    unfold readV
    rw [filt_val nd, if_pos h]
  constructor
  · intro t
    refine ⟨t.up, fun n v => ?_⟩
    rw [t.mem]
    exact ⟨fun ⟨a, b, c⟩ => ⟨a, by rw [← key n c]; exact b, c⟩, fun ⟨a, b, c⟩ => ⟨a, by rw [key n c]; exact b, c⟩⟩
  · intro t
    refine ⟨t.up, fun n v => ?_⟩
    rw [t.mem]
    exact ⟨fun ⟨a, b, c⟩ => ⟨a, by rw [key n c]; exact b, c⟩, fun ⟨a, b, c⟩ => ⟨a, by rw [← key n c]; exact b, c⟩⟩
theorem filt_snoc {m : Prs} {f : Str → Bool} {i : Nat} {n : Str} {v : V} (h : m[i]? = some (n, v)) : (m.take (i + 1)).filter (fun q => f q.1) = (m.take i).filter (fun q => f q.1) ++ (if f n = true then [(n, v)] else []) := by
  rw [List.take_add_one, h, List.filter_append]
  show _ ++ List.filter _ [(n, v)] = _
  rw [List.filter_cons]
  rfl
theorem wr_notab {CW T : Addr} {H : Hp} {A : Ads} {wp : Addr} {puts : Prs} (h : WrAt CW H A wp puts) (hT : TabG H T) : ¬ A T := fun hb => by
  obtain ⟨ps, hp, _⟩ := hT
  obtain ⟨st, wo, m, h1, h2, h3⟩ := h
  rcases (h3 T).mp hb with z | z | z | z
  · obtain ⟨dx, h4⟩ := h1.ins
    rw [← z, hp] at h4
    cases h4
  · have h4 := h1.sta
    rw [← z, hp] at h4
    cases h4
  · rw [← z, hp] at h2
    cases h2
  · obtain ⟨q, hq, e⟩ := List.mem_map.mp z
    have h4 := h1.md.ls q hq
    rw [show q.2 = T from e, hp] at h4
    cases h4
theorem TabG.ch {T : Addr} {M A A' : Ads} {H H' : Hp} (h : TabG H T) (c : Ch M A A' H H') (n : ¬ A T) (m : ¬ M T) : TabG H' T := by
  obtain ⟨ps, h1, h2⟩ := h
  exact ⟨ps, c.s _ _ n m h1, h2⟩
theorem WrAt.sameT {CW T : Addr} {H H' : Hp} {A : Ads} {wp : Addr} {puts : Prs} (h : WrAt CW H A wp puts) (hT : TabG H T) (s : SameT T H H') : WrAt CW H' A wp puts := (wr_loc CW wp puts).frame h (fun b hb => by
  obtain ⟨o, ho⟩ := (wr_loc CW wp puts).has h hb
  rw [ho, s.at' b o (fun z => wr_notab h hT (by rw [← z]; exact hb)) ho]) fun b xs e => s.kept hT e fun ps z => by cases z
theorem word_ne : ¬ (("read" : Str) = "write") ∧ ¬ (("read" : Str) = "back") ∧ ¬ (("under" : Str) = "write") ∧ ¬ (("under" : Str) = "back") ∧ ¬ (("under" : Str) = "read") ∧ ¬ (("back" : Str) = "write") := by decide +kernel
theorem strF {a b : Str} (h : ¬ a = b) : decide (V.str a = V.str b) = false := decide_eq_false fun e => h (V.str.inj e)
theorem strT {a : Str} : decide (V.str a = V.str a) = true := decide_eq_true rfl
theorem rowRight_at {left : Str → V} : ∀ {ds : List Deed} {puts : Prs} {j : Nat} {d : Deed}, RowRight left puts ds → ds[j]? = some d → Right left (endP puts (ds.take j)) d
  | [], _, _, _, _, h => by simp at h
  | x :: r, puts, 0, d, h, e => by
    have ex : x = d := by simpa using e
    rw [← ex]
    exact h.1
  | x :: r, puts, j + 1, d, h, e => rowRight_at (ds := r) (puts := nextP puts x) (j := j) h.2 (by simpa using e)
theorem rowFits_at : ∀ {ds : List Deed} {puts : Prs} {j : Nat} {d : Deed}, RowFits puts ds → ds[j]? = some d → Fits (endP puts (ds.take j)) d
  | [], _, _, _, _, h => by simp at h
  | x :: r, puts, 0, d, h, e => by
    have ex : x = d := by simpa using e
    rw [← ex]
    exact h.1
  | x :: r, puts, j + 1, d, h, e => rowFits_at (ds := r) (puts := nextP puts x) (j := j) h.2 (by simpa using e)
theorem rowsRight_at : ∀ {rs : List (List Deed)} {left : Str → V} {i : Nat} {ds : List Deed}, RowsRight left rs → rs[i]? = some ds → RowRight (rowsLeft left (rs.take i)) [] ds
  | [], _, _, _, _, h => by simp at h
  | x :: r, left, 0, d, h, e => by
    have ex : x = d := by simpa using e
    rw [← ex]
    exact h.1
  | x :: r, left, i + 1, d, h, e => rowsRight_at (rs := r) (left := readV left (endP [] x)) (i := i) h.2 (by simpa using e)
theorem rowsFit_at : ∀ {rs : List (List Deed)} {i : Nat} {ds : List Deed}, RowsFit rs → rs[i]? = some ds → RowFits [] ds
  | [], _, _, _, h => by simp at h
  | x :: r, 0, d, h, e => by
    have ex : x = d := by simpa using e
    rw [← ex]
    exact h.1
  | x :: r, i + 1, d, h, e => rowsFit_at (rs := r) (i := i) h.2 (by simpa using e)
theorem ok_endP : ∀ {ds : List Deed} {puts : Prs}, Ok puts → (∀ d ∈ ds, DeedOk d) → Ok (endP puts ds)
  | [], _, h, _ => h
  | x :: r, puts, h, k => ok_endP (ds := r) (puts := nextP puts x) (ok_next h (k x List.mem_cons_self)) fun d hd => k d (List.mem_cons_of_mem _ hd)
theorem len_endP : ∀ (ds : List Deed) (puts : Prs), (endP puts ds).length ≤ puts.length + ds.length
  | [], puts => Nat.le_refl _
  | x :: r, puts => by
    have h1 := len_endP r (nextP puts x)
    have h2 := len_next puts x
    show (endP (nextP puts x) r).length ≤ puts.length + (r.length + 1)
    omega
theorem take_succ {α : Type} {l : List α} {i : Nat} {x : α} (h : l[i]? = some x) : l.take (i + 1) = l.take i ++ [x] := by
  rw [List.take_add_one, h]
  rfl
theorem tells_overs (m puts : Prs) : tells (putAll m (overs puts "" (keysOf puts).length)) = readV (tells m) puts := funext fun n => by
  rw [tells_all]
  unfold readV
  rw [overs_val]
  by_cases k : n ∈ keysOf puts
  · rw [if_pos ⟨k, pre_nil n⟩, keysOf_some k]
  · rw [if_neg (fun z => k z.1), valV_none (m := putAll [] puts) k]
theorem ok_overs {puts : Prs} (h : Ok puts) (hd : Str) (i : Nat) : Ok (overs puts hd i) := fun q hq => by
  unfold overs at hq
  obtain ⟨n, hn, e⟩ := List.mem_map.mp hq
  have hn2 : n ∈ keysOf puts := List.mem_of_mem_take (List.mem_filter.mp hn).1
  rw [← e]
  exact ⟨val_name (ok_putAll ok_nil h) (keysOf_some hn2), val_ok (ok_putAll ok_nil h) (keysOf_some hn2)⟩
/-- how a walk stands: what is left at L -/
structure Wk (T L : Addr) (H H' : Hp) (m : Prs) : Prop where
  k : ∀ b o, ¬ b ∈ [T] → H b = some o → H' b = some o
  t : TabG H' T
  n : ∀ b, H' b = none → H b = none
  l : H' L = some (.dK (dk m))
  nl : H L = none
  nd : (m.map (·.1)).Nodup
  okm : Ok m
theorem Wk.on {T L : Addr} {H H' : Hp} {m : Prs} (w : Wk T L H H' m) : On (footOf [T]) H H' := ⟨fun b hb => by rw [List.mem_singleton.mp hb]; exact w.t, fun b o e => by
  obtain ⟨e1, e2⟩ := cut_iff.mp e
  exact cut_iff.mpr ⟨e1, w.k b o e1 e2⟩⟩
theorem Wk.to {T L : Addr} {H H' : Hp} {m : Prs} (w : Wk T L H H' m) : Same (Cut (footOf [T]).M H) H' := fun b o e => w.k b o (cut_iff.mp e).1 (cut_iff.mp e).2
theorem Wk.ch {T L : Addr} {H H' H2 : Hp} {m : Prs} {A A' : Ads} (w : Wk T L H H' m) (c : Ch (footOf [T]).M A A' H' H2) (t : TabG H2 T) (fA : ∀ b, A b → H b = none) (nL : ¬ A L) : Wk T L H H2 m ∧ (∀ b, A' b → H b = none) ∧ ¬ A' L := by
  have nLT : ¬ (footOf [T]).M L := fun z => by
    obtain ⟨ps, h1, _⟩ := w.t
    rw [← List.mem_singleton.mp z, w.l] at h1
    cases h1
  refine ⟨⟨fun b o n e => c.s b o (fun z => by rw [fA b z] at e; cases e) n (w.k b o n e), t, fun b z => w.n b (c.n b z), c.s _ _ nL nLT w.l, w.nl, w.nd, w.okm⟩, fun b z => (c.g b z).elim (fA b) (w.n b), fun z => (c.g L z).elim nL fun y => ?_⟩
  rw [w.l] at y
  cases y
theorem Wk.same {T L : Addr} {H H' H2 : Hp} {m : Prs} (w : Wk T L H H' m) (s : Same H' H2) : Wk T L H H2 m := ⟨fun b o n e => s _ _ (w.k b o n e), TabG.same w.t s, fun b z => w.n b (s.free z), s _ _ w.l, w.nl, w.nd, w.okm⟩
end Kt

namespace Kt
open PySem PySem.Spec PyProof.Rows L2
def topS (i : Nat) : Stmt := PySem.Challenge.pw_keptrow_k03_rows_walked.main.body.getD i (.Pass ⟨0, 0, 0, 0⟩)
abbrev s_is_under : Stmt := topS 12
theorem sc_is_under : FnScope ["name", "head"] ["name", "head"] (defScope s_is_under) := ⟨rfl, rfl, rfl, by decide +kernel, rfl, by decide +kernel, by decide +kernel⟩
abbrev s_Writes___init__ : Stmt := inClass (topS 14) 0
theorem sc_Writes___init__ : FnScope ["self"] ["self"] (defScope s_Writes___init__) := ⟨rfl, rfl, rfl, by decide +kernel, rfl, by decide +kernel, by decide +kernel⟩
abbrev s_Writes_add_write : Stmt := inClass (topS 14) 1
theorem sc_Writes_add_write : FnScope ["self", "name", "value"] ["self", "name", "value"] (defScope s_Writes_add_write) := ⟨rfl, rfl, rfl, by decide +kernel, rfl, by decide +kernel, by decide +kernel⟩
abbrev s_Writes_many : Stmt := inClass (topS 14) 2
theorem sc_Writes_many : FnScope ["self"] ["self"] (defScope s_Writes_many) := ⟨rfl, rfl, rfl, by decide +kernel, rfl, by decide +kernel, by decide +kernel⟩
abbrev s_Writes_names : Stmt := inClass (topS 14) 3
theorem sc_Writes_names : FnScope ["self"] ["self"] (defScope s_Writes_names) := ⟨rfl, rfl, rfl, by decide +kernel, rfl, by decide +kernel, by decide +kernel⟩
abbrev s_Writes_touches : Stmt := inClass (topS 14) 4
theorem sc_Writes_touches : FnScope ["self", "name"] ["self", "name"] (defScope s_Writes_touches) := ⟨rfl, rfl, rfl, by decide +kernel, rfl, by decide +kernel, by decide +kernel⟩
abbrev s_Writes_last : Stmt := inClass (topS 14) 5
theorem sc_Writes_last : FnScope ["self", "name"] ["self", "name"] (defScope s_Writes_last) := ⟨rfl, rfl, rfl, by decide +kernel, rfl, by decide +kernel, by decide +kernel⟩
abbrev s_Writes_cut : Stmt := inClass (topS 14) 6
theorem sc_Writes_cut : FnScope ["self", "many", "gone", "freed", "name"] ["self", "many"] (defScope s_Writes_cut) := ⟨rfl, rfl, rfl, by decide +kernel, rfl, by decide +kernel, by decide +kernel⟩
abbrev s_Writes_told : Stmt := inClass (topS 14) 7
theorem sc_Writes_told : FnScope ["self", "name", "before"] ["self", "name", "before"] (defScope s_Writes_told) := ⟨rfl, rfl, rfl, by decide +kernel, rfl, by decide +kernel, by decide +kernel⟩
abbrev s_Writes_told_under : Stmt := inClass (topS 14) 8
theorem sc_Writes_told_under : FnScope ["self", "head", "before", "name", "found"] ["self", "head", "before"] (defScope s_Writes_told_under) := ⟨rfl, rfl, rfl, by decide +kernel, rfl, by decide +kernel, by decide +kernel⟩
abbrev s_pairs_of : Stmt := topS 15
theorem sc_pairs_of : FnScope ["values", "name"] ["values"] (defScope s_pairs_of) := ⟨rfl, rfl, rfl, by decide +kernel, rfl, by decide +kernel, by decide +kernel⟩
abbrev s_walked : Stmt := topS 17
theorem sc_walked : FnScope ["rows", "left", "deeds", "writes", "deed", "name"] ["rows"] (defScope s_walked) := ⟨rfl, rfl, rfl, by decide +kernel, rfl, by decide +kernel, by decide +kernel⟩
abbrev s_do_again : Stmt := topS 18
theorem sc_do_again : FnScope ["deed", "writes", "left", "word"] ["deed", "writes", "left"] (defScope s_do_again) := ⟨rfl, rfl, rfl, by decide +kernel, rfl, by decide +kernel, by decide +kernel⟩
abbrev s_read_again : Stmt := topS 19
theorem sc_read_again : FnScope ["deed", "writes", "left", "_", "name", "said"] ["deed", "writes", "left"] (defScope s_read_again) := ⟨rfl, rfl, rfl, by decide +kernel, rfl, by decide +kernel, by decide +kernel⟩
abbrev s_read_under_again : Stmt := topS 20
theorem sc_read_under_again : FnScope ["deed", "writes", "left", "_", "head", "before", "said", "told", "name"] ["deed", "writes", "left"] (defScope s_read_under_again) := ⟨rfl, rfl, rfl, by decide +kernel, rfl, by decide +kernel, by decide +kernel⟩
abbrev s_is_same : Stmt := topS 21
theorem sc_is_same : FnScope ["told", "said"] ["told", "said"] (defScope s_is_same) := ⟨rfl, rfl, rfl, by decide +kernel, rfl, by decide +kernel, by decide +kernel⟩
abbrev s_law_whole : Stmt := topS 23
theorem sc_law_whole : FnScope ["_law_found"] ["_law_found"] (defScope s_law_whole) := ⟨rfl, rfl, rfl, by decide +kernel, rfl, by decide +kernel, by decide +kernel⟩
abbrev s_law_cell_at : Stmt := topS 24
theorem sc_law_cell_at : FnScope ["_law_script", "_law_k"] ["_law_script", "_law_k"] (defScope s_law_cell_at) := ⟨rfl, rfl, rfl, by decide +kernel, rfl, by decide +kernel, by decide +kernel⟩
abbrev s_law_mixed : Stmt := topS 25
theorem sc_law_mixed : FnScope ["_law_number"] ["_law_number"] (defScope s_law_mixed) := ⟨rfl, rfl, rfl, by decide +kernel, rfl, by decide +kernel, by decide +kernel⟩
abbrev s_law_name_by : Stmt := topS 26
theorem sc_law_name_by : FnScope ["_law_cell", "_law_some", "_law_name", "_law_number", "_law_k"] ["_law_cell"] (defScope s_law_name_by) := ⟨rfl, rfl, rfl, by decide +kernel, rfl, by decide +kernel, by decide +kernel⟩
abbrev s_law_twin : Stmt := topS 27
theorem sc_law_twin : FnScope ["_law_name", "_law_cell", "_law_some", "_law_at", "_law_step"] ["_law_name", "_law_cell"] (defScope s_law_twin) := ⟨rfl, rfl, rfl, by decide +kernel, rfl, by decide +kernel, by decide +kernel⟩
abbrev s_law_pool : Stmt := topS 28
theorem sc_law_pool : FnScope ["_law_one", "_law_two", "_law_first", "_law_second", "_law_pool_here", "_law_k"] ["_law_one", "_law_two"] (defScope s_law_pool) := ⟨rfl, rfl, rfl, by decide +kernel, rfl, by decide +kernel, by decide +kernel⟩
abbrev s_law_value_by : Stmt := topS 29
theorem sc_law_value_by : FnScope ["_law_cell"] ["_law_cell"] (defScope s_law_value_by) := ⟨rfl, rfl, rfl, by decide +kernel, rfl, by decide +kernel, by decide +kernel⟩
abbrev s_law_same : Stmt := topS 30
theorem sc_law_same : FnScope ["_law_told", "_law_due"] ["_law_told", "_law_due"] (defScope s_law_same) := ⟨rfl, rfl, rfl, by decide +kernel, rfl, by decide +kernel, by decide +kernel⟩
abbrev s_law_pairs : Stmt := topS 31
theorem sc_law_pairs : FnScope ["_law_told", "_law_due", "_law_k"] ["_law_told", "_law_due"] (defScope s_law_pairs) := ⟨rfl, rfl, rfl, by decide +kernel, rfl, by decide +kernel, by decide +kernel⟩
abbrev s_law_last : Stmt := topS 32
theorem sc_law_last : FnScope ["_law_puts", "_law_found", "_law_put"] ["_law_puts"] (defScope s_law_last) := ⟨rfl, rfl, rfl, by decide +kernel, rfl, by decide +kernel, by decide +kernel⟩
abbrev s_law_told_under : Stmt := topS 33
theorem sc_law_told_under : FnScope ["_law_left", "_law_own", "_law_head", "_law_names", "_law_low", "_law_name"] ["_law_left", "_law_own", "_law_head"] (defScope s_law_told_under) := ⟨rfl, rfl, rfl, by decide +kernel, rfl, by decide +kernel, by decide +kernel⟩
abbrev s_law_deed_by : Stmt := topS 34
theorem sc_law_deed_by : FnScope ["_law_left", "_law_puts", "_law_pool_here", "_law_more", "_law_cell", "_law_name", "_law_own", "_law_head"] ["_law_left", "_law_puts", "_law_pool_here", "_law_more", "_law_cell"] (defScope s_law_deed_by) := ⟨rfl, rfl, rfl, by decide +kernel, rfl, by decide +kernel, by decide +kernel⟩
abbrev s_law_spoiled : Stmt := topS 35
theorem sc_law_spoiled : FnScope ["_law_deed", "_law_way", "_law_pairs_here", "_law_at", "_law_pair"] ["_law_deed", "_law_way"] (defScope s_law_spoiled) := ⟨rfl, rfl, rfl, by decide +kernel, rfl, by decide +kernel, by decide +kernel⟩
abbrev s_law_rows_by : Stmt := topS 36
theorem sc_law_rows_by : FnScope ["_law_cells", "_law_pool_here", "_law_rows", "_law_left", "_law_puts", "_law_turn", "_law_cell", "_law_more", "_law_deed"] ["_law_cells", "_law_pool_here"] (defScope s_law_rows_by) := ⟨rfl, rfl, rfl, by decide +kernel, rfl, by decide +kernel, by decide +kernel⟩
abbrev s_law_alike : Stmt := topS 37
theorem sc_law_alike : FnScope ["_law_rows", "_law_others", "_law_deed", "_law_deeds"] ["_law_rows", "_law_others"] (defScope s_law_alike) := ⟨rfl, rfl, rfl, by decide +kernel, rfl, by decide +kernel, by decide +kernel⟩
abbrev s_law_copied : Stmt := topS 38
theorem sc_law_copied : FnScope ["_law_deed"] ["_law_deed"] (defScope s_law_copied) := ⟨rfl, rfl, rfl, by decide +kernel, rfl, by decide +kernel, by decide +kernel⟩
abbrev s_law_refused_by_any : Stmt := topS 39
theorem sc_law_refused_by_any : FnScope ["_law_rows", "e", "_law_told"] ["_law_rows"] (defScope s_law_refused_by_any) := ⟨rfl, rfl, rfl, by decide +kernel, rfl, by decide +kernel, by decide +kernel⟩
abbrev s_law : Stmt := topS 40
theorem sc_law : FnScope ["_law_script", "_law_pool_here", "_law_made", "_law_rows", "_law_spots", "_law_j", "_law_deeds", "_law_good", "_law_spot", "_law_deed", "_law_handed", "_law_found", "_law_refused", "_law_due", "_law_k"] ["_law_script"] (defScope s_law) := ⟨rfl, rfl, rfl, by decide +kernel, rfl, by decide +kernel, by decide +kernel⟩
end Kt

namespace Kt
open PySem PySem.Spec PyProof.Rows L2 GxR Kr
section
variable {P : Program} {w : World} {K : PySem.W.Frag} {mg : Str → Option Value} {base : Heap}
/-! ### _law_whole -/
theorem ok_law_whole (D : Def K mg "_law_whole" s_law_whole ["_law_found"]) (m_isinstance : mg "isinstance" = none) (m_int : mg "int" = none) (m_bool : mg "bool" = none) :
    FnOk P w K mg base CX0 1 D.f D.fd ["_law_found"] sp_law_whole := by
  refine D.F.ok sc_law_whole (fun vs H Q E h => ?_) (fun cdv A outer s H vs Q E hr h => ?_)
  · obtain ⟨x, rfl, _⟩ := h
    rfl
  · obtain ⟨x, rfl, hx, q⟩ := h
    refine ⟨_, (pss_one (ps_ret (pe_and (pe_callB call_isi (by rfl) m_isinstance (by decide +kernel) (pa_cons (pv 0) (pa_cons (pe_bltn (by rfl) m_int (by decide +kernel) (v := .ty "int") rfl) pa_nil))) (pe_one (pe_not (pe_callB call_isi (by rfl) m_isinstance (by decide +kernel) (pa_cons (pv 0) (pa_cons (pe_bltn (by rfl) m_bool (by decide +kernel) (v := .ty "bool") rfl) pa_nil)))))))), ?_⟩
    obtain ⟨t, ht, k1, k2, k3⟩ := ty_of (K := K) hx
    refine ⟨x, rfl, x, .ty "int", _, _, _, rfl, .ty _, ht, kit_ty k3, _, rfl, ?_⟩
    cases hx with
    | non => exact iteF q
    | bl b => exact iteT ⟨_, rfl, _, .ty "bool", _, _, _, rfl, .ty _, ht, kit_ty k2, _, rfl, q⟩
    | int i => exact iteT ⟨_, rfl, _, .ty "bool", _, _, _, rfl, .ty _, ht, kit_ty k2, _, rfl, q⟩
    | str z h => exact iteF q
    | lst h => exact iteF q
    | tup h => exact iteF q
/-! ### _law_cell_at, _law_mixed -/
theorem ok_law_cell_at (D : Def K mg "_law_cell_at" s_law_cell_at ["_law_script", "_law_k"]) (m_len : mg "len" = none) : FnOk P w K mg base CX0 1 D.f D.fd ["_law_script", "_law_k"] (spCell K) := by
  refine D.F.ok sc_law_cell_at (fun vs H Q E h => ?_) (fun cdv A outer s H vs Q E hr h => ?_)
  · obtain ⟨l, ns, j, rfl, _⟩ := h
    rfl
  · obtain ⟨l, ns, j, rfl, hs, q⟩ := h
    refine ⟨_, (pss_cons (ps_if (pt_cmpR op_lt (pv 1) (pe_callB call_len_seq (by rfl) m_len PySem.boot_len (pa_cons (pv 0) pa_nil)) (nomark _)) (pss_one (ps_ret (pe_ix ix_list (pv 0) (pv 1) (fun _ _ => rfl)))) pss_nil)
      (pss_one (ps_ret pe_int))), ?_⟩
    refine ⟨_, rfl, _, rfl, l, _, rfl, .inl hs, _, _, rfl, rfl, _, rfl, ite2 (fun e => ?_) (fun e => ?_)⟩
    · have e1 := of_decide_eq_true e
      rw [List.length_map] at e1
      have hj : j < ns.length := by omega
      exact ⟨_, rfl, _, rfl, l, _, _, _, rfl, rfl, hs, atI_cell hj, q⟩
    · have hj : ¬ j < ns.length := fun z => e (decide_eq_true (by rw [List.length_map]; omega))
      rw [cell_out hj] at q
      exact q
end
end Kt

namespace Kt
open PySem PySem.Spec PyProof.Rows L2 GxR Kr
section
variable {P : Program} {w : World} {K : PySem.W.Frag} {mg : Str → Option Value} {base : Heap}
theorem ok_law_mixed (D : Def K mg "_law_mixed" s_law_mixed ["_law_number"]) : FnOk P w K mg base CX0 1 D.f D.fd ["_law_number"] sp_law_mixed := by
  refine D.F.ok sc_law_mixed (fun vs H Q E h => ?_) (fun cdv A outer s H vs Q E hr h => ?_)
  · obtain ⟨n, rfl, _⟩ := h
    rfl
  · obtain ⟨n, rfl, q⟩ := h
    refine ⟨_, (pss_one (ps_ret (pe_op op_mod (pe_op op_add (pe_op op_mul (pv 0) pe_int) pe_int) pe_int))), ?_⟩
    exact ⟨_, rfl, _, _, rfl, rfl, .inr ⟨by decide, by decide⟩, _, _, rfl, rfl, _, _, rfl, rfl, (by show (0 : Int) < 2147483647; decide), q⟩
/-! ### _law_name_by: some name -/
theorem ok_law_name_by (D : Def K mg "_law_name_by" s_law_name_by ["_law_cell"]) (D_law_mixed : Def K mg "_law_mixed" s_law_mixed ["_law_number"]) (m_range : mg "range" = none) :
    FnOk P w K mg base CX0 2 D.f D.fd ["_law_cell"] sp_law_name_by := by
  have G_law_mixed := ok_law_mixed (P := P) (w := w) (base := base) D_law_mixed
  refine D.F.ok sc_law_name_by (fun vs H Q E h => ?_) (fun cdv A outer s H vs Q E hr h => ?_)
  · obtain ⟨c, rfl, _⟩ := h
    rfl
  · obtain ⟨c, rfl, q⟩ := h
    refine ⟨_, (pss_cons (ps_set (i := 1) sc_law_name_by.nd rfl (.inl rfl) pe_str)
      (pss_cons (ps_set (i := 2) sc_law_name_by.nd rfl (.inl rfl) pe_str)
      (pss_cons (ps_set (i := 3) sc_law_name_by.nd rfl (.inl rfl) (pv 0))
      (pss_cons (ps_for PassesOwn.never rfl (pi_range1 (by rfl) m_range (pa_cons (pe_op op_add pe_int (pe_op op_mod (pv 0) pe_int)) pa_nil)) (pg_name (i := 4) sc_law_name_by.nd rfl (.inl rfl))
        (pss_cons (ps_set (i := 3) sc_law_name_by.nd rfl (.inl rfl) (pe_call G_law_mixed (hr.mono (by omega)) (by rfl) D_law_mixed.g D_law_mixed.F.kp D_law_mixed.b .nil pass0 (pa_cons (pv 3) pa_nil)))
      (pss_one (ps_set (i := 2) sc_law_name_by.nd rfl (.inl rfl) (pe_op op_add_str (pv 2) (pe_ix ix_str (pv 1) (pe_op op_mod (pv 3) pe_int) (fun _ _ => rfl)))))))
      (pss_one (ps_ret (pv 2))))))), ?_⟩
    have c0 : 0 ≤ c % 12 := Int.emod_nonneg _ (by decide)
    have c1 : c % 12 < 12 := Int.emod_lt_of_pos _ (by decide)
    refine ⟨_, rfl, _, rfl, _, _, rfl, rfl, (by show (0 : Int) < 12; decide), _, _, rfl, rfl, 1 + c % 12, rfl, by omega, by omega,
      for_range (lo := 0) (n := (1 + c % 12).toNat) (fun i σ H' => H' = H ∧ ∃ (z : Str) (m : Int) (k : Option V), z.length = i ∧ Good z ∧ σ = [some (.int c), some (.str signsS), some (.str z), some (.int m), k])
        ⟨rfl, "", c, none, rfl, (fun c hc => by cases hc), rfl⟩ ?_ ?_⟩
    · rintro i σ H' hi ⟨rfl, z, m, k, hz, hg, rfl⟩
      refine ⟨_, rfl, m, rfl, ?_⟩
      obtain ⟨ch, hch⟩ := at_has (l := signsS.cps.toList) (i := mixZ m % 37) (Int.emod_nonneg _ (by decide)) (by rw [signs_len]; exact Int.emod_lt_of_pos _ (by decide))
      refine ⟨_, rfl, _, rfl, _, rfl, _, _, rfl, rfl, (by show (0 : Int) < 37; decide), signsS, _, ch, rfl, rfl, (by rw [signs_len2]; decide), hch, z, _, rfl, rfl, ?_, rfl, _, _, _, ?_, good_app hg (good_at hch), rfl⟩
      · show z.length + 1 ≤ sizeLine
        exact small_line (by omega)
      · rw [len_app, hz]
        rfl
    · rintro σ H' ⟨rfl, z, m, k, hz, hg, rfl⟩
      exact ⟨_, rfl, q z ⟨hg, by omega, by omega⟩⟩
/-! ### _law_twin: a name like it -/
theorem ok_law_twin (D : Def K mg "_law_twin" s_law_twin ["_law_name", "_law_cell"]) (m_len : mg "len" = none) : FnOk P w K mg base CX0 1 D.f D.fd ["_law_name", "_law_cell"] sp_law_twin := by
  refine D.F.ok sc_law_twin (fun vs H Q E h => ?_) (fun cdv A outer s H vs Q E hr h => ?_)
  · obtain ⟨z, c, rfl, _⟩ := h
    rfl
  · obtain ⟨z, c, rfl, hz, q⟩ := h
    refine ⟨_, (pss_cons (ps_set (i := 2) sc_law_twin.nd rfl (.inl rfl) pe_str)
      (pss_cons (ps_set (i := 3) sc_law_twin.nd rfl (.inl rfl) (pe_op op_modN (pv 1) (pe_callB call_len_str (by rfl) m_len PySem.boot_len (pa_cons (pv 0) pa_nil))))
      (pss_cons (ps_set (i := 4) sc_law_twin.nd rfl (.inl rfl) (pe_op op_add (pe_op op_add (pe_m1 PySem.F.slot_str_find PySem.F.type_str_find mt_find (pv 2) (pe_ix ix_str (pv 0) (pv 3) (fun _ _ => rfl))) pe_int) (pe_op op_mod (pe_op op_fdiv (pv 1) pe_int) pe_int)))
      (pss_one (ps_ret (pe_op op_add_str (pe_op op_add_str (pe_slice sl_str (pv 0) po_none (po_some (pv 3))) (pe_ix ix_str (pv 2) (pe_op op_mod (pv 4) pe_int) (fun _ _ => rfl))) (pe_slice sl_str (pv 0) (po_some (pe_op op_add (pv 3) pe_int)) po_none))))))), ?_⟩
    have z1 := hz.lo
    have z2 := hz.hi
    have hsl : z.length ≤ sizeLine := small_line (by omega)
    have hem : c.fmod (z.length : Int) = c % (z.length : Int) := Int.fmod_eq_emod_of_nonneg _ (by omega)
    have i0 : 0 ≤ c.fmod (z.length : Int) := by
      rw [hem]
      exact Int.emod_nonneg _ (by omega)
    have i1 : c.fmod (z.length : Int) < (z.length : Int) := by
      rw [hem]
      exact Int.emod_lt_of_pos _ (by omega)
    obtain ⟨ch, hch⟩ := at_has (l := z.cps.toList) (i := c.fmod (z.length : Int)) i0 (by rw [len_list]; exact i1)
    refine ⟨_, rfl, _, rfl, z, rfl, hsl, _, _, rfl, rfl, (by omega), ?_⟩
    refine ⟨_, rfl, ⟨_, rfl⟩, _, rfl, _, rfl, z, _, ch, rfl, rfl, hsl, hch, _, _, rfl, rfl, _, _, rfl, rfl, ?_⟩
    refine ⟨_, rfl, _, _, rfl, rfl, ⟨by decide, by decide⟩, _, _, rfl, rfl, (by show (0 : Int) < 36; decide), _, _, rfl, rfl, ?_⟩
    obtain ⟨dh, hdh⟩ := at_has (l := signsS.cps.toList) (i := (Txt.find signsS ⟨#[ch]⟩ + 1 + c / 12 % 36) % 37) (Int.emod_nonneg _ (by decide)) (by rw [signs_len]; exact Int.emod_lt_of_pos _ (by decide))
    obtain ⟨j, hj⟩ : ∃ j : Nat, c.fmod (z.length : Int) = (j : Int) := ⟨(c.fmod (z.length : Int)).toNat, by omega⟩
    have jl : j < z.length := by omega
    have l1 : (cutS z none (some (c.fmod (z.length : Int)))).length = j := by
      rw [hj, cut_len, HT.sIx_none, HT.sIx_nat]
      omega
    have l2 : (cutS z (some (c.fmod (z.length : Int) + 1)) none).length = z.length - j - 1 := by
      rw [hj, cut_len, HT.sIx_none, show (j : Int) + 1 = ((j + 1 : Nat) : Int) by omega, HT.sIx_nat]
      omega
    have l3 : (⟨#[dh]⟩ : Str).length = 1 := rfl
    refine ⟨_, rfl, _, rfl, _, rfl, z, rfl, hsl, _, rfl, _, rfl, _, _, rfl, rfl, (by show (0 : Int) < 37; decide), signsS, _, dh, rfl, rfl, (by rw [signs_len2]; decide), hdh, _, _, rfl, rfl, small_line (by omega), ?_⟩
    refine ⟨_, rfl, _, rfl, _, _, rfl, rfl, _, rfl, z, rfl, hsl, _, _, rfl, rfl, ?_, q _ ⟨good_app (good_app (good_cut hz.good _ _) (good_at hdh)) (good_cut hz.good _ _), ?_, ?_⟩⟩
    · rw [len_app]
      exact small_line (by omega)
    · rw [len_app, len_app]
      omega
    · rw [len_app, len_app]
      omega
end
end Kt

namespace Kt
open PySem PySem.Spec PyProof.Rows L2 GxR Kr
section
variable {P : Program} {w : World} {K : PySem.W.Frag} {mg : Str → Option Value} {base : Heap}
/-! ### _law_pool: some names -/
theorem ok_law_pool (D : Def K mg "_law_pool" s_law_pool ["_law_one", "_law_two"]) (D_law_name_by : Def K mg "_law_name_by" s_law_name_by ["_law_cell"]) (D_law_twin : Def K mg "_law_twin" s_law_twin ["_law_name", "_law_cell"])
    (D_law_mixed : Def K mg "_law_mixed" s_law_mixed ["_law_number"]) (m_range : mg "range" = none) (m_len : mg "len" = none) (m_str : mg "str" = none) : FnOk P w K mg base CX0 3 D.f D.fd ["_law_one", "_law_two"] sp_law_pool := by
  have G_law_name_by := ok_law_name_by (P := P) (w := w) (base := base) D_law_name_by D_law_mixed m_range
  have G_law_twin := ok_law_twin (P := P) (w := w) (base := base) D_law_twin m_len
  refine D.F.ok sc_law_pool (fun vs H Q E h => ?_) (fun cdv A outer s H vs Q E hr h => ?_)
  · obtain ⟨a, b, rfl, _⟩ := h
    rfl
  · obtain ⟨a, b, rfl, q⟩ := h
    refine ⟨_, (pss_cons (ps_set (i := 2) sc_law_pool.nd rfl (.inl rfl) (pe_call G_law_name_by (hr.mono (by omega)) (by rfl) D_law_name_by.g D_law_name_by.F.kp D_law_name_by.b .nil pass0 (pa_cons (pv 0) pa_nil)))
      (pss_cons (ps_set (i := 3) sc_law_pool.nd rfl (.inl rfl) (pe_call G_law_name_by (hr.mono (by omega)) (by rfl) D_law_name_by.g D_law_name_by.F.kp D_law_name_by.b .nil pass0 (pa_cons (pv 1) pa_nil)))
      (pss_cons (ps_set (i := 4) sc_law_pool.nd rfl (.inl rfl) (pe_lst (pa_cons (pv 2) (pa_cons (pe_call G_law_twin (hr.mono (by omega)) (by rfl) D_law_twin.g D_law_twin.F.kp D_law_twin.b .nil pass0 (pa_cons (pv 2) (pa_cons (pv 1) pa_nil))) (pa_cons (pv 3) (pa_cons (pe_slice sl_str (pe_op op_add_str (pv 2) (pv 3)) po_none (po_some pe_int)) (pa_cons (pe_slice sl_str (pv 2) po_none (po_some (pe_op op_add pe_int (pe_op op_modN (pv 1) (pe_callB call_len_str (by rfl) m_len PySem.boot_len (pa_cons (pv 2) pa_nil)))))) pa_nil)))))))
      (C8.pss_cut (ps_set (i := 4) sc_law_pool.nd rfl (.inl rfl) (pe_slice sl_list (pe_op op_cat (pv 4) (pe_lst (pa_cons (pe_slice sl_str (pe_op op_add_str (pv 3) pe_str) po_none (po_some pe_int)) (pa_cons (pe_slice sl_str (pe_op op_add_str (pe_op op_add_str (pv 3) pe_str) (pv 2)) po_none (po_some pe_int)) pa_nil)))) po_none (po_some (pe_op op_add pe_int (pe_op op_mod (pe_op op_fdiv (pv 0) pe_int) pe_int)))))
      (pss_cons (ps_if (pt_cmpR op_eq (pe_op op_mod (pe_op op_fdiv (pv 1) pe_int) pe_int) pe_int (nomark _)) (pss_one (ps_set (i := 4) sc_law_pool.nd rfl (.inl rfl) (pe_op op_cat (pv 4) (pe_lc (own := [("_law_k", 5)]) (g := gName 5) (tt := tYes) rfl sc_law_pool.nd (pi_range1 (by rfl) m_range (pa_cons (pe_op op_mod (pe_op op_fdiv (pv 1) pe_int) pe_int) pa_nil)) (blkOk_by (N := ["_law_one", "_law_two", "_law_first", "_law_second", "_law_pool_here", "_law_k"]) (sc := defScope s_law_pool) (by decide +kernel)) (fun _ _ _ _ _ => pg_name (i := 5) sc_law_pool.nd rfl (Or.inl rfl)) (fun _ _ _ _ _ => pts_nil) (fun _ _ _ _ _ => (pe_op op_add_str pe_str (pe_callTy call_str_int (by rfl) m_str (by decide +kernel) (pa_cons (pv 5) pa_nil)))))))) pss_nil)
      (pss_one (ps_ret (pv 4)))))))), ?_⟩
    refine ⟨_, rfl, a, rfl, fun f hf => ⟨_, rfl, b, rfl, fun g hg => ?_⟩⟩
    have f1 := hf.lo
    have f2 := hf.hi
    have g1 := hg.lo
    have g2 := hg.hi
    refine ⟨_, rfl, _, rfl, _, rfl, f, b, rfl, hf, fun t ht => ?_⟩
    have fl := small_line (n := f.length) (by omega)
    have fm : b.fmod (f.length : Int) = b % (f.length : Int) := Int.fmod_eq_emod_of_nonneg _ (by omega)
    obtain ⟨k5, hk5, hk6⟩ : ∃ k : Nat, 1 + b.fmod (f.length : Int) = (k : Int) ∧ 1 ≤ k ∧ k ≤ 12 := by
      have e0 : 0 ≤ b % (f.length : Int) := Int.emod_nonneg _ (by omega)
      have e1 : b % (f.length : Int) < (f.length : Int) := Int.emod_lt_of_pos _ (by omega)
      exact ⟨(1 + b % (f.length : Int)).toNat, by omega, by omega, by omega⟩
    have gfg : Good (f ++ g) := good_app hf.good hg.good
    have n12 : ∀ z : Str, Good z → 1 ≤ z.length → Name (cutS z none (some 12)) := fun z hz h1 => cut_name hz 12 (by omega) (by omega) h1
    have hd : Good (Str.ofString ".") := fun c hc => by
      have e : c = 46 := by simpa using (show c ∈ [46] from hc)
      rw [e]
      decide +kernel
    have ha : Good (Str.ofString "a") := fun c hc => by
      have e : c = 97 := by simpa using (show c ∈ [97] from hc)
      rw [e]
      decide +kernel
    have ld : (Str.ofString ".").length = 1 := rfl
    have la : (Str.ofString "a").length = 1 := rfl
    have N2 : Name (cutS (f ++ g) none (some 12)) := n12 _ gfg (by rw [len_app]; omega)
    have N3 : Name (cutS f none (some (1 + b.fmod (f.length : Int)))) := by
      rw [hk5]
      exact cut_name hf.good k5 hk6.1 hk6.2 f1
    have N4 : Name (cutS (g ++ Str.ofString ".") none (some 12)) := n12 _ (good_app hg.good hd) (by rw [len_app]; omega)
    have N5 : Name (cutS (g ++ Str.ofString "a" ++ f) none (some 12)) := n12 _ (good_app (good_app hg.good ha) hf.good) (by rw [len_app]; omega)
    refine ⟨_, rfl, _, rfl, _, rfl, _, _, rfl, rfl, small_line (by omega), 12, rfl, _, rfl, small_line (by rw [len_app]; omega), ?_⟩
    refine ⟨_, rfl, _, rfl, _, rfl, _, rfl, fl, _, _, rfl, rfl, (by omega), _, _, rfl, rfl, _, rfl, _, rfl, fl, small_line (by show 5 ≤ 1000000; decide), fun p1 n1 => ?_⟩
    refine ⟨fun σ H' => ∃ (p : Addr) (ns : List Str), σ = [some (.int a), some (.int b), some (.str f), some (.str g), some (.ref p), none] ∧ Same H H' ∧ H p = none ∧
      H' p = some (.lst (ns.map V.str)) ∧ 1 ≤ ns.length ∧ ns.length ≤ 7 ∧ ∀ z ∈ ns, Name z, ?_, ?_⟩
    · refine ⟨_, rfl, _, rfl, _, _, rfl, rfl, small_line (by omega), 12, rfl, _, rfl, small_line (by rw [len_app]; omega), ?_⟩
      refine ⟨_, rfl, _, _, rfl, rfl, small_line (by omega), _, rfl, _, _, rfl, rfl, small_line (by rw [len_app]; omega), 12, rfl, _, rfl, small_line (by rw [len_app, len_app]; omega), small_line (by show 2 ≤ 1000000; decide), fun p2 n2 => ?_⟩
      have ne21 : p1 ≠ p2 := ne_of_none (H := upd H p1 _) upd_same n2
      have s1 : Same H (upd H p1 (.lst ([f, t, g, cutS (f ++ g) none (some 12), cutS f none (some (1 + b.fmod (f.length : Int)))].map V.str))) := same_new n1
      have s2 := s1.trans (same_new (o := .lst ([cutS (g ++ Str.ofString ".") none (some 12), cutS (g ++ Str.ofString "a" ++ f) none (some 12)].map V.str)) n2)
      refine ⟨p1, p2, [f, t, g, cutS (f ++ g) none (some 12), cutS f none (some (1 + b.fmod (f.length : Int)))].map V.str, [cutS (g ++ Str.ofString ".") none (some 12), cutS (g ++ Str.ofString "a" ++ f) none (some 12)].map V.str,
        rfl, rfl, (by rw [upd_ne ne21]; exact upd_same), upd_same, small_line (by show 7 ≤ 1000000; decide), fun p3 n3 => ?_⟩
      have s3 := s2.trans (same_new (o := .lst ([f, t, g, cutS (f ++ g) none (some 12), cutS f none (some (1 + b.fmod (f.length : Int))), cutS (g ++ Str.ofString ".") none (some 12), cutS (g ++ Str.ofString "a" ++ f) none (some 12)].map V.str)) n3)
      obtain ⟨k7, hk7, hk8⟩ : ∃ k : Nat, 1 + a / 7 % 7 = (k : Int) ∧ 1 ≤ k ∧ k ≤ 7 := by
        have e0 : 0 ≤ a / 7 % 7 := Int.emod_nonneg _ (by decide)
        have e1 : a / 7 % 7 < 7 := Int.emod_lt_of_pos _ (by decide)
        exact ⟨(1 + a / 7 % 7).toNat, by omega, by omega, by omega⟩
      refine ⟨_, rfl, _, _, rfl, rfl, ⟨by decide, by decide⟩, _, _, rfl, rfl, (by show (0 : Int) < 7; decide), _, _, rfl, rfl, _, rfl, p3, _, rfl, SqL.of upd_same, fun p4 n4 => ?_⟩
      have cutE : cutV ([f, t, g, cutS (f ++ g) none (some 12), cutS f none (some (1 + b.fmod (f.length : Int))), cutS (g ++ Str.ofString ".") none (some 12), cutS (g ++ Str.ofString "a" ++ f) none (some 12)].map V.str) none (some (1 + a / 7 % 7)) = (([f, t, g, cutS (f ++ g) none (some 12), cutS f none (some (1 + b.fmod (f.length : Int))), cutS (g ++ Str.ofString ".") none (some 12), cutS (g ++ Str.ofString "a" ++ f) none (some 12)].take k7).map V.str) := by
        unfold cutV
        rw [HT.sIx_none, hk7, HT.sIx_nat, List.drop_zero, Nat.sub_zero, List.map_take]
        show List.take (min k7 7) _ = _
        rw [Nat.min_eq_left hk8.2]
      have s4 := s3.trans (same_new (o := .lst (cutV ([f, t, g, cutS (f ++ g) none (some 12), cutS f none (some (1 + b.fmod (f.length : Int))), cutS (g ++ Str.ofString ".") none (some 12), cutS (g ++ Str.ofString "a" ++ f) none (some 12)].map V.str) none (some (1 + a / 7 % 7)))) n4)
      refine ⟨p4, [f, t, g, cutS (f ++ g) none (some 12), cutS f none (some (1 + b.fmod (f.length : Int))), cutS (g ++ Str.ofString ".") none (some 12), cutS (g ++ Str.ofString "a" ++ f) none (some 12)].take k7, rfl, s4, s3.free n4, ?_, ?_, ?_, fun z hz => ?_⟩
      · rw [← cutE]
        exact upd_same
      · rw [List.length_take]
        show 1 ≤ min k7 7
        omega
      · rw [List.length_take]
        show min k7 7 ≤ 7
        omega
      · have hm := List.mem_of_mem_take hz
        have h7 : z = f ∨ z = t ∨ z = g ∨ z = cutS (f ++ g) none (some 12) ∨ z = cutS f none (some (1 + b.fmod (f.length : Int))) ∨ z = cutS (g ++ Str.ofString ".") none (some 12) ∨ z = cutS (g ++ Str.ofString "a" ++ f) none (some 12) := by simpa using hm
        rcases h7 with e | e | e | e | e | e | e <;> (subst e; assumption)
    rintro σ H1 ⟨p, ns, rfl, s1, np, hp, nlo, nhi, nok⟩
    refine ⟨_, rfl, _, _, rfl, rfl, ⟨by decide, by decide⟩, _, _, rfl, rfl, (by show (0 : Int) < 4; decide), rfl, _, rfl, ite2 (fun e => ?_) (fun e => ?_)⟩
    · have m0 : 0 ≤ b / 28 % 130 := Int.emod_nonneg _ (by decide)
      have m1 : b / 28 % 130 < 130 := Int.emod_lt_of_pos _ (by decide)
      refine ⟨_, rfl, _, rfl, _, _, rfl, rfl, ⟨by decide, by decide⟩, _, _, rfl, rfl, (by show (0 : Int) < 130; decide), b / 28 % 130, rfl, by omega, by omega, fun D nD => ?_⟩
      refine lc_range (lo := 0) (n := (b / 28 % 130).toNat) (fun i H' => Same H1 H' ∧ H' D = some (.lst ((numbered i).map V.str))) ⟨same_new nD, upd_same⟩ ?_ ?_
      · rintro i H2 hi ⟨s2, hD⟩
        refine ⟨rfl, _, rfl, 0 + (i : Int), rfl, ?_, _, _, rfl, rfl, ?_, _, hD, ?_, ?_⟩
        · refine Nat.lt_of_le_of_lt (Nat.log2_le_self _) ?_
          omega
        · rw [Int.zero_add]
          have h3 := (digits_good i (by omega)).2.1
          rw [len_app] at h3
          exact small_line (by omega)
        · rw [List.length_map, numbered_len]
          exact Nat.lt_of_le_of_lt (by omega : i ≤ 1000) (by decide)
        · have ne : ∀ c o, H1 c = some o → c ≠ D := fun c o e => ne_of_none e nD
          refine ⟨fun c o e => by rw [upd_ne (ne c o e)]; exact s2 c o e, ?_⟩
          rw [upd_same, numbered_succ, List.map_append, Int.zero_add]
          rfl
      · rintro H2 ⟨s2, hD⟩
        refine ⟨p, D, ns.map V.str, _, rfl, rfl, s2 _ _ hp, hD, ?_, fun r nr => ?_⟩
        · rw [List.length_map, List.length_map, numbered_len]
          exact small_line (by omega)
        · have s3 := (s1.trans s2).trans (same_new (o := .lst (ns.map V.str ++ (numbered (b / 28 % 130).toNat).map V.str)) nr)
          refine ⟨_, rfl, q r (ns ++ numbered (b / 28 % 130).toNat) _ s3 ((s1.trans s2).free nr) ⟨by rw [List.map_append]; exact upd_same, ?_, ?_, fun z hz => ?_⟩⟩
          · rw [List.length_append]
            omega
          · rw [List.length_append, numbered_len]
            omega
          · rcases List.mem_append.mp hz with h | h
            · exact nok z h
            · obtain ⟨k, hk, e⟩ := List.mem_map.mp h
              rw [← e]
              exact digits_name k (by have := List.mem_range.mp hk; omega)
    · exact ⟨_, rfl, q p ns _ s1 np ⟨hp, nlo, by omega, nok⟩⟩
end
end Kt

namespace Kt
open PySem PySem.Spec PyProof.Rows L2 GxR Kr
section
variable {P : Program} {w : World} {K : PySem.W.Frag} {mg : Str → Option Value} {base : Heap}
theorem ok_law_value_by (D : Def K mg "_law_value_by" s_law_value_by ["_law_cell"]) : FnOk P w K mg base CX0 1 D.f D.fd ["_law_cell"] sp_law_value_by := by
  refine D.F.ok sc_law_value_by (fun vs H Q E h => ?_) (fun cdv A outer s H vs Q E hr h => ?_)
  · obtain ⟨c, rfl, _⟩ := h
    rfl
  · obtain ⟨c, rfl, q⟩ := h
    refine ⟨_, (pss_cons (ps_if (pt_cmpR op_eq (pe_op op_mod (pv 0) pe_int) pe_int (nomark _)) (pss_one (ps_ret pe_non)) pss_nil)
      (pss_cons (ps_if (pt_cmpR op_eq (pe_op op_mod (pv 0) pe_int) pe_int (nomark _)) (pss_one (ps_ret (pe_ix ix_list (pe_lst (pa_cons pe_int (pa_cons pe_int (pa_cons (pe_un un_neg pe_int) (pa_cons (pe_op op_pow pe_int pe_int) (pa_cons (pe_un un_neg (pe_op op_pow pe_int pe_int)) pa_nil)))))) (pe_op op_mod (pe_op op_fdiv (pv 0) pe_int) pe_int) (fun _ _ => rfl)))) pss_nil)
      (pss_cons (ps_if (pt_cmpR op_eq (pe_op op_mod (pv 0) pe_int) pe_int (nomark _)) (pss_one (ps_ret (pe_op op_mod (pe_op op_fdiv (pv 0) pe_int) pe_int))) pss_nil)
      (pss_one (ps_ret (pe_op op_sub (pe_op op_modN (pe_op op_fdiv (pv 0) pe_int) (pe_op op_add (pe_op op_mul pe_int (pe_op op_pow pe_int pe_int)) pe_int)) (pe_op op_pow pe_int pe_int))))))), ?_⟩
    refine ⟨_, rfl, _, _, rfl, rfl, (by show (0 : Int) < 7; decide), rfl, _, rfl, ite2 (fun e => ?_) (fun e => ?_)⟩
    · have h3 : c % 7 = 3 := V.int.inj (of_decide_eq_true e)
      have q2 := q H (Same.refl H)
      unfold valBy at q2
      rw [if_pos h3] at q2
      exact q2
    have h3 : ¬ c % 7 = 3 := fun z => e (decide_eq_true (by show V.int (c % 7) = V.int 3; rw [z]))
    refine ⟨_, rfl, _, _, rfl, rfl, (by show (0 : Int) < 7; decide), rfl, _, rfl, ite2 (fun e => ?_) (fun e => ?_)⟩
    · have h4 : c % 7 = 4 := V.int.inj (of_decide_eq_true e)
      obtain ⟨v, ev, hv⟩ := five (c / 7 % 5) (Int.emod_nonneg _ (by decide)) (Int.emod_lt_of_pos _ (by decide))
      have e2 : valBy c = v := by
        unfold valBy
        rw [if_neg h3, if_pos h4, ev]
        rfl
      rw [e2] at q
      refine ⟨_, rfl, _, _, rfl, rfl, ⟨by decide, by decide, by decide⟩, _, _, rfl, rfl, ⟨by decide, by decide, by decide⟩, _, rfl, small_line (by show 5 ≤ 1000000; decide), fun p np => ?_⟩
      exact ⟨_, rfl, _, _, rfl, rfl, ⟨by decide, by decide⟩, _, _, rfl, rfl, (by show (0 : Int) < 5; decide), p, _, _, v, rfl, rfl, SqL.of upd_same, ev, q _ (same_new np)⟩
    have h4 : ¬ c % 7 = 4 := fun z => e (decide_eq_true (by show V.int (c % 7) = V.int 4; rw [z]))
    refine ⟨_, rfl, _, _, rfl, rfl, (by show (0 : Int) < 7; decide), rfl, _, rfl, ite2 (fun e => ?_) (fun e => ?_)⟩
    · have h5 : c % 7 = 5 := V.int.inj (of_decide_eq_true e)
      have q2 := q H (Same.refl H)
      unfold valBy at q2
      rw [if_neg h3, if_neg h4, if_pos h5] at q2
      exact ⟨_, rfl, _, _, rfl, rfl, ⟨by decide, by decide⟩, _, _, rfl, rfl, (by show (0 : Int) < 9; decide), q2⟩
    have h5 : ¬ c % 7 = 5 := fun z => e (decide_eq_true (by show V.int (c % 7) = V.int 5; rw [z]))
    have q2 := q H (Same.refl H)
    unfold valBy at q2
    rw [if_neg h3, if_neg h4, if_neg h5] at q2
    exact ⟨_, rfl, _, _, rfl, rfl, ⟨by decide, by decide⟩, _, _, rfl, rfl, ⟨by decide, by decide, by decide⟩, _, _, rfl, rfl, .inl ⟨by decide, by decide⟩, _, _, rfl, rfl, _, _, rfl, rfl, (by show (2 * 10 ^ Int.toNat 30 + 1 : Int) ≠ 0; decide), _, _, rfl, rfl, ⟨by decide, by decide, by decide⟩, _, _, rfl, rfl, q2⟩
/-! ### _law_same -/
theorem ok_law_same (D : Def K mg "_law_same" s_law_same ["_law_told", "_law_due"]) (D_law_whole : Def K mg "_law_whole" s_law_whole ["_law_found"]) (m_isinstance : mg "isinstance" = none) (m_int : mg "int" = none) (m_bool : mg "bool" = none) :
    FnOk P w K mg base CX0 2 D.f D.fd ["_law_told", "_law_due"] sp_law_same := by
  have G_law_whole := ok_law_whole (P := P) (w := w) (base := base) D_law_whole m_isinstance m_int m_bool
  refine D.F.ok sc_law_same (fun vs H Q E h => ?_) (fun cdv A outer s H vs Q E hr h => ?_)
  · obtain ⟨a, b, rfl, _⟩ := h
    rfl
  · obtain ⟨a, b, rfl, ha, hb, q⟩ := h
    refine ⟨_, (pss_cons (ps_if (PW.pt (pw_or (pt_cmpR op_isN (pv 1) pe_non (nomark _)) (pw_or1 (pt_cmpR op_isN (pv 0) pe_non (nomark _))))) (pss_one (ps_ret (pe_and (pe_cmpR op_isN (pv 1) pe_non (nomark _)) (pe_one (pe_cmpR op_isN (pv 0) pe_non (nomark _)))))) pss_nil)
      (pss_one (ps_ret (pe_and (pe_call G_law_whole (hr.mono (by omega)) (by rfl) D_law_whole.g D_law_whole.F.kp D_law_whole.b .nil pass0 (pa_cons (pv 0) pa_nil)) (pe_one (pe_cmpR op_eq (pv 0) (pv 1) (nomark _))))))), ?_⟩
    refine ⟨_, rfl, rfl, _, rfl, ?_⟩
    rcases hb with hb | ⟨j, hb⟩
    · subst hb
      refine iteT (iteT ⟨_, rfl, rfl, _, rfl, ?_⟩)
      refine iteT ⟨_, rfl, rfl, ?_⟩
      exact q
    · subst hb
      refine iteF ⟨_, rfl, rfl, _, rfl, ?_⟩
      rcases ha with ha | ⟨i, ha⟩
      · subst ha
        refine iteT ⟨_, rfl, rfl, _, rfl, ?_⟩
        exact iteF q
      · subst ha
        refine iteF ⟨_, rfl, _, rfl, .int i, _, rfl, iteT ⟨_, rfl, _, rfl, rfl, ?_⟩⟩
        exact q
end
end Kt

namespace Kt
open PySem PySem.Spec PyProof.Rows L2 GxR Kr
section
variable {P : Program} {w : World} {K : PySem.W.Frag} {mg : Str → Option Value} {base : Heap}
/-! ### _law_pairs -/
theorem ok_law_pairs (D : Def K mg "_law_pairs" s_law_pairs ["_law_told", "_law_due"]) (D_law_same : Def K mg "_law_same" s_law_same ["_law_told", "_law_due"]) (D_law_whole : Def K mg "_law_whole" s_law_whole ["_law_found"])
    (m_isinstance : mg "isinstance" = none) (m_int : mg "int" = none) (m_bool : mg "bool" = none) (m_list : mg "list" = none) (m_tuple : mg "tuple" = none) (m_str : mg "str" = none) (m_len : mg "len" = none) (m_range : mg "range" = none) :
    FnOk P w K mg base CX0 3 D.f D.fd ["_law_told", "_law_due"] sp_law_pairs := by
  have G_law_same := ok_law_same (P := P) (w := w) (base := base) D_law_same D_law_whole m_isinstance m_int m_bool
  refine D.F.ok sc_law_pairs (fun vs H Q E h => ?_) (fun cdv A outer s H vs Q E hr h => ?_)
  · obtain ⟨a, b, ps, qs, rfl, _⟩ := h
    rfl
  · obtain ⟨a, b, ps, qs, rfl, ha, hb, va, vb, hl, q⟩ := h
    refine ⟨_, (pss_cons (ps_if (PW.pt (pw_or (pt_not (pt_val (pe_callB call_isi (by rfl) m_isinstance (by decide +kernel) (pa_cons (pv 0) (pa_cons (pe_bltn (by rfl) m_list (by decide +kernel) (v := .ty "list") rfl) pa_nil))))) (pw_or1 (pt_cmpR op_ne (pe_callB call_len_seq (by rfl) m_len PySem.boot_len (pa_cons (pv 0) pa_nil)) (pe_callB call_len_seq (by rfl) m_len PySem.boot_len (pa_cons (pv 1) pa_nil)) (nomark _))))) (pss_one (ps_ret pe_bl)) pss_nil)
      (pss_cons (ps_for PassesOwn.never rfl (pi_range1 (by rfl) m_range (pa_cons (pe_callB call_len_seq (by rfl) m_len PySem.boot_len (pa_cons (pv 1) pa_nil)) pa_nil)) (pg_name (i := 2) sc_law_pairs.nd rfl (.inl rfl))
        (pss_cons (ps_if (PW.pt (pw_or (pt_not (pt_val (pe_callB call_isi (by rfl) m_isinstance (by decide +kernel) (pa_cons (pe_ix ix_list (pv 0) (pv 2) (fun _ _ => rfl)) (pa_cons (pe_bltn (by rfl) m_tuple (by decide +kernel) (v := .ty "tuple") rfl) pa_nil))))) (pw_or (pt_cmpR op_ne (pe_callB call_len_seq (by rfl) m_len PySem.boot_len (pa_cons (pe_ix ix_list (pv 0) (pv 2) (fun _ _ => rfl)) pa_nil)) pe_int (nomark _)) (pw_or1 (pt_not (pt_val (pe_callB call_isi (by rfl) m_isinstance (by decide +kernel) (pa_cons (pe_ix ix_tup (pe_ix ix_list (pv 0) (pv 2) (fun _ _ => rfl)) pe_int (fun _ _ => rfl)) (pa_cons (pe_bltn (by rfl) m_str (by decide +kernel) (v := .ty "str") rfl) pa_nil))))))))) (pss_one (ps_ret pe_bl)) pss_nil)
      (pss_one (ps_if (PW.pt (pw_or (pt_cmpR op_ne (pe_ix ix_tup (pe_ix ix_list (pv 0) (pv 2) (fun _ _ => rfl)) pe_int (fun _ _ => rfl)) (pe_ix ix_tup (pe_ix ix_list (pv 1) (pv 2) (fun _ _ => rfl)) pe_int (fun _ _ => rfl)) (nomark _)) (pw_or1 (pt_not (pt_val (pe_call G_law_same (hr.mono (by omega)) (by rfl) D_law_same.g D_law_same.F.kp D_law_same.b .nil pass0 (pa_cons (pe_ix ix_tup (pe_ix ix_list (pv 0) (pv 2) (fun _ _ => rfl)) pe_int (fun _ _ => rfl)) (pa_cons (pe_ix ix_tup (pe_ix ix_list (pv 1) (pv 2) (fun _ _ => rfl)) pe_int (fun _ _ => rfl)) pa_nil)))))))) (pss_one (ps_ret pe_bl)) pss_nil))))
      (pss_one (ps_ret pe_bl)))), ?_⟩
    obtain ⟨as, ha1, ha2⟩ := ha
    obtain ⟨bs, hb1, hb2⟩ := hb
    have la : (as.map V.ref).length = ps.length := by rw [List.length_map, ha2.length]
    have lb : (bs.map V.ref).length = qs.length := by rw [List.length_map, hb2.length]
    refine ⟨_, rfl, _, .ty "list", _, _, _, rfl, .ty _, .base (.lst ha1), kit_ty (show kitB "list" "list" = some true by decide +kernel), _, rfl, ?_⟩
    refine iteF ⟨_, rfl, a, _, rfl, .inl (SqL.of ha1), _, rfl, b, _, rfl, .inl (SqL.of hb1), rfl, _, rfl, ?_⟩
    by_cases hne : ps.length = qs.length
    · refine ite2 (fun e => ?_) (fun _ => ?_)
      · rw [la, lb, hne] at e
        exact absurd e (by simp)
      refine ⟨_, rfl, b, _, rfl, .inl (SqL.of hb1), _, rfl, (by omega), (by rw [lb]; omega), ?_⟩
      refine for_range (lo := 0) (n := _) (fun i σ H' => H' = H ∧ ps.take i = qs.take i ∧ ∃ k : Option V, σ = [some (.ref a), some (.ref b), k]) ⟨rfl, rfl, none, rfl⟩ ?_ ?_
      · rintro i σ H' hi ⟨rfl, ht, k, rfl⟩
        rw [lb, Int.toNat_natCast] at hi
        obtain ⟨y, hy⟩ : ∃ y, qs[i]? = some y := ⟨_, List.getElem?_eq_getElem hi⟩
        obtain ⟨x, hx⟩ : ∃ x, ps[i]? = some x := ⟨_, List.getElem?_eq_getElem (by omega)⟩
        obtain ⟨ta, hta, ea⟩ := paired_get ha2 hx
        obtain ⟨tb, htb, eb⟩ := paired_get hb2 hy
        have aa : ∀ (c : Int), c = 0 + (i : Int) → atI (as.map V.ref) c = some (.ref ta) := fun c hc => at_of (j := i) (by omega) (by rw [List.getElem?_map, hta]; rfl)
        have ab : ∀ (c : Int), c = 0 + (i : Int) → atI (bs.map V.ref) c = some (.ref tb) := fun c hc => at_of (j := i) (by omega) (by rw [List.getElem?_map, htb]; rfl)
        refine ⟨_, rfl, _, rfl, a, _, _, _, rfl, rfl, SqL.of ha1, aa _ rfl, _, .ty "tuple", _, _, _, rfl, .ty _, .base (.tup ea), kit_ty (show kitB "tuple" "tuple" = some true by decide +kernel), _, rfl, ?_⟩
        refine iteF ⟨_, rfl, _, rfl, a, _, _, _, rfl, rfl, SqL.of ha1, aa _ rfl, ta, _, rfl, .inr (SqT.of ea), rfl, _, rfl, iteF ?_⟩
        refine ⟨_, rfl, _, rfl, a, _, _, _, rfl, rfl, SqL.of ha1, aa _ rfl, ta, _, _, _, rfl, rfl, SqT.of ea, atI_nat (j := 0) rfl, _, .ty "str", _, _, _, rfl, .ty _, .base (.str _), kit_ty (show kitB "str" "str" = some true by decide +kernel), _, rfl, iteF ?_⟩
        refine ⟨_, rfl, _, rfl, a, _, _, _, rfl, rfl, SqL.of ha1, aa _ rfl, ta, _, _, _, rfl, rfl, SqT.of ea, atI_nat (j := 0) rfl, _, rfl, _, rfl, b, _, _, _, rfl, rfl, SqL.of hb1, ab _ rfl, tb, _, _, _, rfl, rfl, SqT.of eb, atI_nat (j := 0) rfl, rfl, _, rfl, ?_⟩
        by_cases hn : x.1 = y.1
        · refine ite2 (fun e => absurd e (by rw [hn]; simp)) (fun _ => ?_)
          refine ⟨_, rfl, _, rfl, a, _, _, _, rfl, rfl, SqL.of ha1, aa _ rfl, ta, _, _, _, rfl, rfl, SqT.of ea, atI_nat (j := 1) rfl, _, rfl, _, rfl, b, _, _, _, rfl, rfl, SqL.of hb1, ab _ rfl, tb, _, _, _, rfl, rfl, SqT.of eb, atI_nat (j := 1) rfl, x.2, y.2, rfl, va x (List.mem_of_getElem? hx), vb y (List.mem_of_getElem? hy), _, rfl, ?_⟩
          by_cases hv : x.2 = y.2
          · have exy : x = y := Prod.ext hn hv
            rw [decide_eq_true hv]
            refine iteF ⟨rfl, take_eq_succ ht hx (by rw [exy]; exact hy), _, rfl⟩
          · rw [decide_eq_false hv]
            refine iteT ?_
            have e : ¬ ps = qs := fun z => hv (by
              rw [z, hy] at hx
              rw [Option.some.inj hx])
            rw [decide_eq_false e] at q
            exact q
        · refine ite2 (fun _ => ?_) (fun e => absurd e (by rw [decide_eq_false (fun z => hn (V.str.inj z))]; simp))
          have e : ¬ ps = qs := fun z => hn (by
            rw [z, hy] at hx
            rw [Option.some.inj hx])
          rw [decide_eq_false e] at q
          exact q
      · rintro σ H' ⟨rfl, ht, k, rfl⟩
        rw [lb, Int.toNat_natCast, List.take_of_length_le (Nat.le_of_eq hne), List.take_of_length_le (Nat.le_refl _)] at ht
        rw [decide_eq_true ht] at q
        exact q
    · refine ite2 (fun _ => ?_) (fun e => ?_)
      · have e : ¬ ps = qs := fun z => hne (by rw [z])
        rw [decide_eq_false e] at q
        exact q
      · refine absurd ?_ e
        rw [la, lb, decide_eq_false (fun z => hne (by have z2 := V.int.inj z; omega))]
        rfl
end
end Kt

namespace Kt
open PySem PySem.Spec PyProof.Rows L2 GxR Kr
section
variable {P : Program} {w : World} {K : PySem.W.Frag} {mg : Str → Option Value} {base : Heap}
/-! ### _law_last -/
theorem ok_law_last (D : Def K mg "_law_last" s_law_last ["_law_puts"]) : FnOk P w K mg base CX0 1 D.f D.fd ["_law_puts"] sp_law_last := by
  refine D.F.ok sc_law_last (fun vs H Q E h => ?_) (fun cdv A outer s H vs Q E hr h => ?_)
  · obtain ⟨a, ps, rfl, _⟩ := h
    rfl
  · obtain ⟨a, ps, rfl, ha, hl, q⟩ := h
    refine ⟨_, (pss_cons (ps_set (i := 1) sc_law_last.nd rfl (.inl rfl) pe_dnewK)
      (pss_cons (ps_for PassesOwn.never rfl (pi_list (pv 0)) (pg_name (i := 2) sc_law_last.nd rfl (.inl rfl))
        (pss_one (ps_dput (hu_of hr) (pv 1) (pe_ix ix_tup (pv 2) pe_int (fun _ _ => rfl)) (pe_ix ix_tup (pv 2) pe_int (fun _ _ => rfl)) rfl)))
      (pss_one (ps_ret (pv 1))))), ?_⟩
    obtain ⟨as, ha1, ha2⟩ := ha
    have la : (as.map V.ref).length = ps.length := by rw [List.length_map, ha2.length]
    intro d nd
    have s0 : Same H (upd H d (.dK [])) := same_new nd
    refine ⟨_, rfl, a, rfl, ⟨_, SqL.of (s0 _ _ ha1)⟩, for_list (K := K) (a := a) (xs := as.map V.ref) (fun i σ H' => Same H H' ∧ H' d = some (.dK (dk (putAll [] (ps.take i)))) ∧ ∃ k : Option V, σ = [some (.ref a), some (.ref d), k])
      ⟨s0, upd_same, none, rfl⟩ (fun i σ H' _ h => SqL.of (h.1 _ _ ha1)) ?_ ?_⟩
    · rintro i y σ H' hy ⟨s1, hd, k, rfl⟩
      obtain ⟨t, ht, rfl⟩ : ∃ t, as[i]? = some t ∧ y = V.ref t := by
        rw [List.getElem?_map] at hy
        cases e : as[i]? with
        | none =>
          rw [e] at hy
          cases hy
        | some t =>
          rw [e] at hy
          exact ⟨t, rfl, (Option.some.inj hy).symm⟩
      obtain ⟨x, hx, et⟩ := paired_at ha2 ht
      have et1 := s1 _ _ et
      have hil : i < ps.length := (List.getElem?_eq_some_iff.mp hx).1
      have hm : (putAll [] (ps.take i)).length ≤ i := by
        have h1 := putAll_len (ps.take i) []
        rw [List.length_take] at h1
        have h2 : ([] : Prs).length = 0 := rfl
        omega
      have e1 : ps.take (i + 1) = ps.take i ++ [x] := by rw [List.take_add_one, hx]; rfl
      refine ⟨_, rfl, t, _, _, _, rfl, rfl, SqT.of et1, atI_nat (j := 1) rfl, _, rfl, _, rfl, t, _, _, _, rfl, rfl, SqT.of et1, atI_nat (j := 0) rfl, d, _, rfl, DPut.k (k := Sum.inr x.1) hd ?_, ?_, ?_, _, rfl⟩
      · rw [dk_len]
        exact Nat.lt_of_le_of_lt (by omega : _ ≤ 1000000) (by decide)
      · intro c o e
        rw [upd_ne (ne_of_none e nd)]
        exact s1 c o e
      · rw [upd_same, e1, putAll_snoc, dk_put]
    · rintro σ H' ⟨s1, hd, k, rfl⟩
      rw [la, List.take_length] at hd
      exact ⟨_, rfl, q d H' s1 nd ⟨hd, putAll_keys ps List.nodup_nil⟩⟩
/-! ### _law_told_under -/
theorem ok_law_told_under (D : Def K mg "_law_told_under" s_law_told_under ["_law_left", "_law_own", "_law_head"]) (m_dict : mg "dict" = none) (m_sorted : mg "sorted" = none) (m_len : mg "len" = none) :
    FnOk P w K mg base CX0 1 D.f D.fd ["_law_left", "_law_own", "_law_head"] sp_law_told_under := by
  refine D.F.ok sc_law_told_under (fun vs H Q E h => ?_) (fun cdv A outer s H vs Q E hr h => ?_)
  · obtain ⟨a, b, m, l, hd, rfl, _⟩ := h
    rfl
  · obtain ⟨a, b, m, l, hd, rfl, ha, hb, hl, hml, hk, q⟩ := h
    refine ⟨_, (pss_cons (ps_set (i := 3) sc_law_told_under.nd rfl (.inr rfl) (pe_callTy call_dictD (by rfl) m_dict (by decide +kernel) (pa_cons (pv 0) pa_nil)))
      (pss_cons (ps_expr (pe_bm PySem.F.plainAttrs_dict PySem.F.slot_dict_update PySem.F.type_dict_update Kr.mt_updD (pv 3) (pa_cons (pv 1) pa_nil)))
      (pss_cons (ps_setLc (i := 4) (own := [("_law_name", 5)]) (g := gName 5) rfl sc_law_told_under.nd rfl rfl (sw_true rfl rfl rfl (by decide +kernel)) (pi_list (pe_callB (Kr.cr_sortedDx rfl) (by rfl) m_sorted (by decide +kernel) (pa_cons (pv 3) pa_nil))) (blkOk_by (N := ["_law_left", "_law_own", "_law_head", "_law_names", "_law_low", "_law_name"]) (sc := defScope s_law_told_under) (by decide +kernel)) (fun _ _ _ _ _ => pg_name (i := 5) sc_law_told_under.nd rfl (Or.inl rfl)) (fun _ _ _ _ _ => (pts_one (pt_cmpR op_eq (pe_slice sl_str (pv 5) po_none (po_some (pe_callB call_len_str (by rfl) m_len PySem.boot_len (pa_cons (pv 2) pa_nil)))) (pv 2) (nomark _)))) (fun _ _ _ _ _ => (pv 5)))
      (pss_one (ps_ret (pe_lc (own := [("_law_name", 5)]) (g := gName 5) rfl sc_law_told_under.nd (pi_list (pv 4)) (blkOk_by (N := ["_law_left", "_law_own", "_law_head", "_law_names", "_law_low", "_law_name"]) (sc := defScope s_law_told_under) (by decide +kernel)) (fun _ _ _ _ _ => pg_name (i := 5) sc_law_told_under.nd rfl (Or.inl rfl)) (fun _ _ _ _ _ => (pts_one (pt_cmpR op_notN (pe_dget (hu_of hr) (pv 3) (pv 5) (fun _ _ => rfl)) pe_non (nomark _)))) (fun _ _ _ _ _ => (pe_tup (pa_cons (pv 5) (pa_cons (pe_dget (hu_of hr) (pv 3) (pv 5) (fun _ _ => rfl)) pa_nil)))))))))), ?_⟩
    have hlen := putAll_len l m
    have hnd : ((putAll m l).map (·.1)).Nodup := putAll_keys l ha.nd
    refine ⟨_, rfl, a, _, rfl, Rd.of ha.at', fun d nd => ?_⟩
    have ndb : d ≠ b := (ne_of_none hb.at' nd).symm
    refine ⟨_, rfl, .inr (.inr (.inl ⟨rfl, .inl ⟨_, upd_same⟩⟩)), _, rfl, d, b, dk m, dk l, rfl, rfl, upd_same, Rd.of (by rw [upd_ne ndb.symm]; exact hb.at'), ndb, (by rw [dk_len, dk_len]; exact small_line hml), ?_⟩
    have s2 : Same H (upd (upd H d (.dK (dk m))) d (.dK (mergeK (dk m) (dk l)))) := fun c o e => by
      rw [upd_ne (ne_of_none e nd), upd_ne (ne_of_none e nd)]
      exact e
    have d2 : (upd (upd H d (.dK (dk m))) d (.dK (mergeK (dk m) (dk l)))) d = some (.dK (dk (putAll m l))) := by rw [upd_same, dk_merge]
    refine ⟨_, rfl, d, _, (putAll m l).map (·.1), rfl, Rd.of d2, dk_keys _, fun ys p yp up np => ?_⟩
    have s3 := s2.trans (same_new (o := .lst (ys.map V.str)) np)
    have d3 := (same_new (o := .lst (ys.map V.str)) np) _ _ d2
    have yl : ys.length ≤ m.length + l.length := by
      rw [yp.length_eq, List.length_map]
      exact hlen
    have yk : ∀ y ∈ ys, ∃ v, valV (putAll m l) y = some v := fun y hy => by
      obtain ⟨x, hx, ex⟩ := List.mem_map.mp (yp.mem_iff.mp hy)
      subst ex
      exact ⟨x.2, (val_mem hnd).mp hx⟩
    have yz : ∀ y ∈ ys, y.length ≤ 1000000 := fun y hy => by
      obtain ⟨x, hx, ex⟩ := List.mem_map.mp (yp.mem_iff.mp hy)
      subst ex
      exact hk x hx
    refine ⟨p, rfl, ⟨_, SqL.of upd_same⟩, fun C nC => lc_list (K := K) (a := p) (xs := ys.map V.str) (fun i H' => Same _ H' ∧ H' C = some (.lst (((ys.take i).filter (pre hd)).map V.str))) ⟨same_new nC, upd_same⟩
      (fun i H' _ h => SqL.of (h.1 _ _ upd_same)) ?_ ?_⟩
    · rintro i x H' hx ⟨s4, hC⟩
      obtain ⟨y, hy, rfl⟩ : ∃ y, ys[i]? = some y ∧ x = V.str y := by
        rw [List.getElem?_map] at hx
        cases e : ys[i]? with
        | none =>
          rw [e] at hx
          cases hx
        | some y =>
          rw [e] at hx
          exact ⟨y, rfl, (Option.some.inj hx).symm⟩
      have ym := List.mem_of_getElem? hy
      have e1 : ys.take (i + 1) = ys.take i ++ [y] := by rw [List.take_add_one, hy]; rfl
      refine ⟨rfl, _, rfl, _, rfl, hd, rfl, small_line hl, _, rfl, y, rfl, small_line (yz y ym), _, rfl, rfl, _, rfl, ?_⟩
      rw [under_eq]
      cases hp : pre hd y with
      | true =>
        refine iteT ⟨_, rfl, _, hC, ?_, ?_, ?_⟩
        · rw [List.length_map]
          have h1 := List.length_filter_le (pre hd) (ys.take i)
          rw [List.length_take] at h1
          exact Nat.lt_of_le_of_lt (by omega : _ ≤ 1000000) (by decide)
        · intro c o e
          rw [upd_ne (ne_of_none e nC)]
          exact s4 c o e
        · rw [upd_same, e1, List.filter_append, List.map_append, List.filter_cons, hp]
          rfl
      | false =>
        refine iteF ⟨s4, ?_⟩
        rw [e1, List.filter_append, List.filter_cons, hp]
        show _ = some (HO.lst (List.map V.str (List.filter (pre hd) (List.take i ys) ++ [])))
        rw [List.append_nil]
        exact hC
    rintro H4 ⟨s4, hC⟩
    rw [List.length_map, List.take_length] at hC
    have s5 := s3.trans s4
    have d4 := s4 _ _ d3
    refine ⟨_, rfl, C, rfl, ⟨_, SqL.of hC⟩, fun B nB => ?_⟩
    refine lc_list (K := K) (a := C) (xs := (ys.filter (pre hd)).map V.str) (fun i H' => Same H4 H' ∧ ∃ as : List Addr, H' B = some (.lst (as.map V.ref)) ∧
      Paired (fun (a : Addr) (q : Str × V) => Fresh H H' a = some (.tup [.str q.1, q.2])) as ((((ys.filter (pre hd)).take i).map fun n => (n, tells (putAll m l) n)).filter fun q => !decide (q.2 = .non)))
      ⟨same_new nB, [], upd_same, .nil⟩ (fun i H' _ h => SqL.of (h.1 _ _ hC)) ?_ ?_
    · rintro i x H' hx ⟨s6, as, hB, hP⟩
      obtain ⟨y, hy, rfl⟩ : ∃ y, (ys.filter (pre hd))[i]? = some y ∧ x = V.str y := by
        rw [List.getElem?_map] at hx
        cases e : (ys.filter (pre hd))[i]? with
        | none =>
          rw [e] at hx
          cases hx
        | some y =>
          rw [e] at hx
          exact ⟨y, rfl, (Option.some.inj hx).symm⟩
      have ym := (List.mem_filter.mp (List.mem_of_getElem? hy)).1
      obtain ⟨v, hv⟩ := yk y ym
      have ht : tells (putAll m l) y = v := by
        unfold tells
        rw [hv]
        rfl
      have e1 : (ys.filter (pre hd)).take (i + 1) = (ys.filter (pre hd)).take i ++ [y] := by rw [List.take_add_one, hy]; rfl
      have g : ∀ {H' : Hp}, H' d = some (.dK (dk (putAll m l))) → DGet H' d (.str y) (some v) := fun {H'} e => by
        have q := DGet.k (k := (Sum.inr y : Key)) e
        rw [dk_val, hv] at q
        exact q
      refine ⟨rfl, _, rfl, _, rfl, d, v, rfl, g (s6 _ _ d4), rfl, _, rfl, ?_⟩
      by_cases hn : v = .non
      · rw [decide_eq_true hn]
        refine iteF ⟨s6, as, hB, ?_⟩
        rw [e1, List.map_append, List.filter_append]
        show Paired _ as (_ ++ List.filter _ [(y, tells (putAll m l) y)])
        rw [List.filter_cons, ht, decide_eq_true hn]
        show Paired _ as (_ ++ [])
        rw [List.append_nil]
        exact hP
      · rw [decide_eq_false hn]
        refine iteT ⟨_, rfl, _, rfl, _, rfl, d, v, rfl, g (s6 _ _ d4), small_line (by show 2 ≤ 1000000; decide), fun t nt => ?_⟩
        have s7 := s6.trans (same_new (o := .tup [.str y, v]) nt)
        have hB2 := (same_new (o := .tup [.str y, v]) nt) _ _ hB
        have tB : t ≠ B := (ne_of_none hB nt).symm
        refine ⟨_, hB2, ?_, ?_, as ++ [t], ?_, ?_⟩
        · rw [List.length_map, hP.length]
          have h1 := List.length_filter_le (fun q : Str × V => !decide (q.2 = .non)) (((ys.filter (pre hd)).take i).map fun n => (n, tells (putAll m l) n))
          have h2 := List.length_filter_le (pre hd) ys
          rw [List.length_map, List.length_take] at h1
          exact Nat.lt_of_le_of_lt (by omega : _ ≤ 1000000) (by decide)
        · intro c o e
          rw [upd_ne (ne_of_none e nB)]
          exact s7 c o e
        · rw [upd_same, List.map_append]
          rfl
        · have keep : ∀ c o, c ≠ B → Fresh H H' c = some o → Fresh H (upd (upd H' t (.tup [.str y, v])) B (.lst (as.map V.ref ++ [V.ref t]))) c = some o := fun c o n e => by
            obtain ⟨e1, e2⟩ := fresh_iff.mp e
            refine fresh_iff.mpr ⟨e1, ?_⟩
            rw [upd_ne n, upd_ne (ne_of_none e2 nt)]
            exact e2
          rw [e1, List.map_append, List.filter_append]
          show Paired _ (as ++ [t]) (_ ++ List.filter _ [(y, tells (putAll m l) y)])
          rw [List.filter_cons, ht, decide_eq_false hn]
          refine Paired.snoc (Paired.mono (fun c q e => keep c _ (fun z => ?_) e) hP) ?_
          · have e2 := (fresh_iff.mp e).2
            rw [z, hB] at e2
            cases e2
          · exact fresh_iff.mpr ⟨(s5.trans s6).free nt, by rw [upd_ne tB, upd_same]⟩
    · rintro H6 ⟨s6, as, hB, hP⟩
      rw [List.length_map, List.take_length] at hP
      refine q B _ H6 (s5.trans s6) (s5.free nB) ⟨as, fresh_iff.mpr ⟨s5.free nB, hB⟩, hP⟩ ⟨?_, fun n v => ?_⟩ ?_
      · have h1 : ys.Pairwise Lt := by
          have nd : ys.Nodup := yp.nodup_iff.mpr hnd
          exact (up.and nd).imp fun {x y} h => by
            rcases Decidable.em (Lt x y) with z | z
            · exact z
            · exact absurd (Lt.tri z h.1) h.2
        refine List.Pairwise.filter _ (List.pairwise_map.mpr ?_)
        exact (h1.filter _).imp fun {x y} h => h
      · rw [List.mem_filter, List.mem_map]
        constructor
        · rintro ⟨⟨k, hk1, hk2⟩, hk3⟩
          cases hk2
          obtain ⟨hk4, hk5⟩ := List.mem_filter.mp hk1
          exact ⟨by simpa using hk3, rfl, hk5⟩
        · rintro ⟨h1, h2, h3⟩
          refine ⟨⟨n, List.mem_filter.mpr ⟨yp.mem_iff.mpr ?_, h3⟩, by rw [h2]⟩, by simpa using h1⟩
          cases e : valV (putAll m l) n with
          | none =>
            refine absurd ?_ h1
            rw [← h2]
            unfold tells
            rw [e]
            rfl
          | some u => exact valV_in e
      · have h1 := List.length_filter_le (fun q : Str × V => !decide (q.2 = .non)) ((ys.filter (pre hd)).map fun n => (n, tells (putAll m l) n))
        have h2 := List.length_filter_le (pre hd) ys
        rw [List.length_map] at h1
        omega
end
end Kt


namespace Kt
open PySem PySem.Spec PyProof.Rows L2 GxR Kr
section
variable {P : Program} {w : World} {K : PySem.W.Frag} {mg : Str → Option Value} {base : Heap}
/-! ### _law_deed_by: some deed that fits and tells what it would -/
theorem ok_law_deed_by (D : Def K mg "_law_deed_by" s_law_deed_by ["_law_left", "_law_puts", "_law_pool_here", "_law_more", "_law_cell"]) (D_law_last : Def K mg "_law_last" s_law_last ["_law_puts"])
    (D_law_told_under : Def K mg "_law_told_under" s_law_told_under ["_law_left", "_law_own", "_law_head"]) (D_law_value_by : Def K mg "_law_value_by" s_law_value_by ["_law_cell"])
    (m_dict : mg "dict" = none) (m_sorted : mg "sorted" = none) (m_len : mg "len" = none) : FnOk P w K mg base CX0 2 D.f D.fd ["_law_left", "_law_puts", "_law_pool_here", "_law_more", "_law_cell"] sp_law_deed_by := by
  have G_law_last := ok_law_last (P := P) (w := w) (base := base) D_law_last
  have G_law_told_under := ok_law_told_under (P := P) (w := w) (base := base) D_law_told_under m_dict m_sorted m_len
  have G_law_value_by := ok_law_value_by (P := P) (w := w) (base := base) D_law_value_by
  refine D.F.ok sc_law_deed_by (fun vs H Q E h => ?_) (fun cdv A outer s H vs Q E hr h => ?_)
  · obtain ⟨l, p, po, m, ps, ns, x, c, rfl, _⟩ := h
    rfl
  · obtain ⟨l, p, po, m, ps, ns, x, c, rfl, hm, hp, hpo, om, op, hx, hsz, q⟩ := h
    refine ⟨_, (pss_cons (ps_set (i := 5) sc_law_deed_by.nd rfl (.inl rfl) (pe_ix ix_list (pv 2) (pe_op op_modN (pe_op op_fdiv (pv 3) pe_int) (pe_callB call_len_seq (by rfl) m_len PySem.boot_len (pa_cons (pv 2) pa_nil))) (fun _ _ => rfl)))
      (pss_cons (ps_set (i := 6) sc_law_deed_by.nd rfl (.inl rfl) (pe_call G_law_last (hr.mono (by omega)) (by rfl) D_law_last.g D_law_last.F.kp D_law_last.b .nil pass0 (pa_cons (pv 1) pa_nil)))
      (pss_cons (ps_if (pt_cmpR op_lt (pe_op op_mod (pv 3) pe_int) pe_int (nomark _)) (pss_one (ps_ret (pe_tup (pa_cons pe_str (pa_cons (pv 5) (pa_cons (pe_dget2 (hu_of hr) (pv 6) (pv 5) (pe_dget1 (hu_of hr) (pv 0) (pv 5) ⟨rfl, rfl, rfl, rfl⟩) ⟨rfl, rfl, rfl, rfl⟩) pa_nil)))))) pss_nil)
      (pss_cons (ps_if (pt_cmpR op_lt (pe_op op_mod (pv 3) pe_int) pe_int (nomark _)) (pss_cons (ps_set (i := 7) sc_law_deed_by.nd rfl (.inl rfl) (pe_slice sl_str (pv 5) po_none (po_some (pe_op op_modN (pe_op op_fdiv (pv 3) pe_int) (pe_op op_add (pe_callB call_len_str (by rfl) m_len PySem.boot_len (pa_cons (pv 5) pa_nil)) pe_int)))))
      (pss_one (ps_ret (pe_tup (pa_cons pe_str (pa_cons (pv 7) (pa_cons (pe_call G_law_told_under (hr.mono (by omega)) (by rfl) D_law_told_under.g D_law_told_under.F.kp D_law_told_under.b .nil pass0 (pa_cons (pv 0) (pa_cons (pv 6) (pa_cons (pv 7) pa_nil)))) pa_nil))))))) pss_nil)
      (pss_cons (ps_if (pt_cmpR op_lt (pe_op op_mod (pv 3) pe_int) pe_int (nomark _)) (pss_one (ps_ret (pe_tup (pa_cons pe_str (pa_cons (pv 5) (pa_cons (pe_call G_law_value_by (hr.mono (by omega)) (by rfl) D_law_value_by.g D_law_value_by.F.kp D_law_value_by.b .nil pass0 (pa_cons (pv 4) pa_nil)) pa_nil)))))) pss_nil)
      (pss_one (ps_ret (pe_tup (pa_cons pe_str (pa_cons (pe_op op_modN (pe_op op_fdiv (pv 3) pe_int) (pe_op op_add (pe_callB call_len_seq (by rfl) m_len PySem.boot_len (pa_cons (pv 1) pa_nil)) pe_int)) pa_nil)))))))))), ?_⟩
    have nl := hpo.lo
    have hnl : (ns.map V.str).length = ns.length := List.length_map _
    have hem : (x / 16).fmod ((ns.map V.str).length : Int) = x / 16 % (ns.length : Int) := by
      rw [hnl]
      exact Int.fmod_eq_emod_of_nonneg _ (by omega)
    have i0 : 0 ≤ (x / 16).fmod ((ns.map V.str).length : Int) := by
      rw [hem]
      exact Int.emod_nonneg _ (by omega)
    have i1 : (x / 16).fmod ((ns.map V.str).length : Int) < (ns.length : Int) := by
      rw [hem]
      exact Int.emod_lt_of_pos _ (by omega)
    obtain ⟨j, hj⟩ : ∃ j : Nat, (x / 16).fmod ((ns.map V.str).length : Int) = (j : Int) := ⟨_, (Int.toNat_of_nonneg i0).symm⟩
    have jl : j < ns.length := by omega
    have nj : Name ns[j] := hpo.ok _ (List.getElem_mem jl)
    have aj : atI (ns.map V.str) ((x / 16).fmod ((ns.map V.str).length : Int)) = some (.str ns[j]) := at_of hj (by rw [List.getElem?_map, List.getElem?_eq_getElem jl]; rfl)
    generalize ns[j] = nm at nj aj
    have n1 := nj.lo
    have n2 := nj.hi
    refine ⟨_, rfl, _, rfl, _, _, rfl, rfl, ⟨by decide, by decide⟩, _, rfl, po, _, rfl, .inl (SqL.of hpo.at'), _, _, rfl, rfl, (by rw [hnl]; omega), po, _, _, _, rfl, rfl, SqL.of hpo.at', aj, ?_⟩
    refine ⟨_, rfl, p, ps, rfl, hp, by omega, fun d H1 s1 nd hd => ?_⟩
    have hm1 := hm.mono s1
    have ol := ok_putAll ok_nil op
    have okA : Ok (putAll m (putAll [] ps)) := ok_putAll om ol
    have rdE : ∀ n, readV (tells m) ps n = ((valV (putAll [] ps) n).getD (tells m n)) := fun n => by
      unfold readV
      cases valV (putAll [] ps) n <;> rfl
    refine ⟨_, rfl, _, _, rfl, rfl, (by show (0 : Int) < 16; decide), _, _, rfl, rfl, _, rfl, ite2 (fun e => ?_) (fun e => ?_)⟩
    · -- a reading
      have g1 : DGet H1 l (.str nm) (valV m nm) := by
        have q1 := DGet.k (k := (Sum.inr nm : Key)) hm1.at'
        rw [dk_val] at q1
        exact q1
      have g2 : DGet H1 d (.str nm) (valV (putAll [] ps) nm) := by
        have q1 := DGet.k (k := (Sum.inr nm : Key)) hd.at'
        rw [dk_val] at q1
        exact q1
      refine ⟨_, rfl, _, rfl, d, rfl, .inl ⟨_, Rd.of hd.at'⟩, _, rfl, _, rfl, l, rfl, .inl ⟨_, Rd.of hm1.at'⟩, _, rfl, _, g1, _, g2, small_line (by show 3 ≤ 1000000; decide), fun t nt => ?_⟩
      have s2 := s1.trans (same_new (o := .tup [.str (Str.ofString "read"), .str nm, (valV (putAll [] ps) nm).getD ((valV m nm).getD .non)]) nt)
      refine q t (.read nm (readV (tells m) ps nm)) _ s2 (s1.free nt) ?_ ⟨nj, ?_⟩ rfl trivial
      · show Fresh H (upd H1 t _) t = some (.tup [.str "read", .str nm, readV (tells m) ps nm])
        rw [fresh_at (s1.free nt), rdE]
        rfl
      · rw [← tells_fun]
        exact tells_ok (ok_putAll om op) nm
    refine ⟨_, rfl, _, _, rfl, rfl, (by show (0 : Int) < 16; decide), _, _, rfl, rfl, _, rfl, ite2 (fun e => ?_) (fun e => ?_)⟩
    · -- a head
      have hf : 0 ≤ (x / 1056).fmod ((nm.length : Int) + 1) := by
        rw [Int.fmod_eq_emod_of_nonneg _ (by omega)]
        exact Int.emod_nonneg _ (by omega)
      have hh := head_cut nj _ hf
      have hl := (headB_iff.mp hh).2
      refine ⟨_, rfl, _, rfl, _, _, rfl, rfl, ⟨by decide, by decide⟩, _, rfl, nm, rfl, small_line (by omega), _, _, rfl, rfl, _, _, rfl, rfl, (by omega), _, rfl, nm, rfl, small_line (by omega), ?_⟩
      have plen := putAll_len ps []
      have plen0 : ([] : Prs).length = 0 := rfl
      refine ⟨_, rfl, _, rfl, _, rfl, _, rfl, l, d, m, putAll [] ps, _, rfl, hm1, hd, by omega, by omega, okA.len, fun b qs H2 s2 nb hb tb _ => ⟨small_line (by show 3 ≤ 1000000; decide), fun t nt => ?_⟩⟩
      have tb2 : IsTold (readV (tells m) ps) (cutS nm none (some ((x / 1056).fmod ((nm.length : Int) + 1)))) qs := by
        have e1 : tells (putAll m (putAll [] ps)) = readV (tells m) ps := funext fun n => by
          rw [tells_all]
          unfold readV
          rw [show putAll [] (putAll [] ps) = putAll [] ps from putAll_idem ps]
        rw [← e1]
        exact tb
      have s3 := s2.trans (same_new (o := .tup [.str (Str.ofString "under"), .str (cutS nm none (some ((x / 1056).fmod ((nm.length : Int) + 1)))), .ref b]) nt)
      refine q t (.under _ qs) _ (s1.trans s3) ((s1.trans s2).free nt) ⟨b, fresh_at ((s1.trans s2).free nt), hb.mono (fun c o e => fresh_on (same_new nt) _ _ (Kt.fresh_back s1 _ _ e))⟩ ⟨hh, told_ok okA tb⟩ tb2 trivial
    refine ⟨_, rfl, _, _, rfl, rfl, (by show (0 : Int) < 16; decide), _, _, rfl, rfl, _, rfl, ite2 (fun e => ?_) (fun e => ?_)⟩
    · -- a write
      refine ⟨_, rfl, _, rfl, c, rfl, fun H2 s2 => ⟨small_line (by show 3 ≤ 1000000; decide), fun t nt => ?_⟩⟩
      exact q t (.write nm (valBy c)) _ (s1.trans (s2.trans (same_new nt))) ((s1.trans s2).free nt) (fresh_at ((s1.trans s2).free nt)) ⟨nj, valBy_ok c⟩ trivial trivial
    · -- a going back
      have hp1 := hp.mono s1
      obtain ⟨xs, hxs, hxl⟩ := hp1.len
      have hb0 : 0 ≤ (x / 16).fmod ((xs.length : Int) + 1) := by
        rw [Int.fmod_eq_emod_of_nonneg _ (by omega)]
        exact Int.emod_nonneg _ (by omega)
      have hb1 : (x / 16).fmod ((xs.length : Int) + 1) < (xs.length : Int) + 1 := by
        rw [Int.fmod_eq_emod_of_nonneg _ (by omega)]
        exact Int.emod_lt_of_pos _ (by omega)
      refine ⟨_, rfl, _, _, rfl, rfl, ⟨by decide, by decide⟩, _, rfl, p, xs, rfl, .inl (SqL.of hxs), _, _, rfl, rfl, _, _, rfl, rfl, (by omega), small_line (by show 2 ≤ 1000000; decide), fun t nt => ?_⟩
      refine q t (.back ((x / 16).fmod ((xs.length : Int) + 1)).toNat) _ (s1.trans (same_new nt)) (s1.free nt) ?_ trivial trivial ?_
      · show Fresh H (upd H1 t _) t = some (.tup [.str "back", .int _])
        rw [fresh_at (s1.free nt), Int.toNat_of_nonneg hb0]
      · show _ ≤ ps.length
        omega
end
end Kt

namespace Kt
open PySem PySem.Spec PyProof.Rows L2 GxR Kr
section
variable {P : Program} {w : World} {K : PySem.W.Frag} {mg : Str → Option Value} {base : Heap}
theorem ok_law_rows_by (D : Def K mg "_law_rows_by" s_law_rows_by ["_law_cells", "_law_pool_here"]) (D_law_mixed : Def K mg "_law_mixed" s_law_mixed ["_law_number"])
    (D_law_deed_by : Def K mg "_law_deed_by" s_law_deed_by ["_law_left", "_law_puts", "_law_pool_here", "_law_more", "_law_cell"]) (D_law_last : Def K mg "_law_last" s_law_last ["_law_puts"])
    (D_law_told_under : Def K mg "_law_told_under" s_law_told_under ["_law_left", "_law_own", "_law_head"]) (D_law_value_by : Def K mg "_law_value_by" s_law_value_by ["_law_cell"])
    (m_dict : mg "dict" = none) (m_sorted : mg "sorted" = none) (m_len : mg "len" = none) (m_enumerate : mg "enumerate" = none) : FnOk P w K mg base CX0 3 D.f D.fd ["_law_cells", "_law_pool_here"] (sp_law_rows_by K) := by
  have G_law_mixed := ok_law_mixed (P := P) (w := w) (base := base) D_law_mixed
  have G_law_last := ok_law_last (P := P) (w := w) (base := base) D_law_last
  have G_law_deed_by := ok_law_deed_by (P := P) (w := w) (base := base) D_law_deed_by D_law_last D_law_told_under D_law_value_by m_dict m_sorted m_len
  refine D.F.ok sc_law_rows_by (fun vs H Q E h => ?_) (fun cdv A outer s H vs Q E hr h => ?_)
  · obtain ⟨c, po, ns, zs, rfl, _⟩ := h
    rfl
  · obtain ⟨c, po, ns, zs, rfl, hc, hpo, hlen, q⟩ := h
    refine ⟨_, (pss_cons (ps_set (i := 2) sc_law_rows_by.nd rfl (.inl rfl) (pe_lst (pa_cons (pe_lst pa_nil) pa_nil)))
      (pss_cons (ps_set (i := 3) sc_law_rows_by.nd rfl (.inl rfl) pe_dnewK)
      (pss_cons (ps_set (i := 4) sc_law_rows_by.nd rfl (.inl rfl) (pe_lst pa_nil))
      (pss_cons (ps_for PassesOwn.never rfl (pi_enum (by rfl) m_enumerate (pa_cons (pv 0) pa_nil)) (pg_tup rfl (pgs_cons (pg_name (i := 5) sc_law_rows_by.nd rfl (.inl rfl)) (pgs_cons (pg_name (i := 6) sc_law_rows_by.nd rfl (.inl rfl)) pgs_nil)))
        (pss_cons (ps_set (i := 7) sc_law_rows_by.nd rfl (.inl rfl) (pe_call G_law_mixed (hr.mono (by omega)) (by rfl) D_law_mixed.g D_law_mixed.F.kp D_law_mixed.b .nil pass0 (pa_cons (pe_op op_add (pv 6) (pe_op op_mul pe_int (pv 5))) pa_nil)))
      (pss_cons (ps_set (i := 8) sc_law_rows_by.nd rfl (.inl rfl) (pe_call G_law_deed_by (hr.mono (by omega)) (by rfl) D_law_deed_by.g D_law_deed_by.F.kp D_law_deed_by.b .nil pass0 (pa_cons (pv 3) (pa_cons (pv 4) (pa_cons (pv 1) (pa_cons (pv 7) (pa_cons (pv 6) pa_nil)))))))
      (C8.pss_cut (ps_expr (pe_bm PySem.F.plainAttrs_list PySem.F.slot_list_append PySem.F.type_list_append mt_append (pe_ix ix_list (pv 2) (pe_un un_neg pe_int) (fun _ _ => rfl)) (pa_cons (pv 8) pa_nil)))
      (C8.pss_cut (ps_if (pt_cmpR op_eq (pe_ix ix_tup (pv 8) pe_int (fun _ _ => rfl)) pe_str (nomark _)) (pss_one (ps_expr (pe_bm PySem.F.plainAttrs_list PySem.F.slot_list_append PySem.F.type_list_append mt_append (pv 4) (pa_cons (pe_tup (pa_cons (pe_ix ix_tup (pv 8) pe_int (fun _ _ => rfl)) (pa_cons (pe_ix ix_tup (pv 8) pe_int (fun _ _ => rfl)) pa_nil))) pa_nil)))) pss_nil)
      (C8.pss_cut (ps_if (pt_cmpR op_eq (pe_ix ix_tup (pv 8) pe_int (fun _ _ => rfl)) pe_str (nomark _)) (pss_one (ps_set (i := 4) sc_law_rows_by.nd rfl (.inl rfl) (pe_slice sl_list (pv 4) po_none (po_some (pe_ix ix_tup (pv 8) pe_int (fun _ _ => rfl)))))) pss_nil)
      (pss_one (ps_if (pt_cmpR op_eq (pe_op op_mod (pe_op op_fdiv (pv 7) pe_int) pe_int) pe_int (nomark _)) (pss_cons (ps_expr (pe_bm PySem.F.plainAttrs_dict PySem.F.slot_dict_update PySem.F.type_dict_update Kr.mt_updD (pv 3) (pa_cons (pe_call G_law_last (hr.mono (by omega)) (by rfl) D_law_last.g D_law_last.F.kp D_law_last.b .nil pass0 (pa_cons (pv 4) pa_nil)) pa_nil)))
      (pss_cons (ps_set (i := 4) sc_law_rows_by.nd rfl (.inl rfl) (pe_lst pa_nil))
      (pss_one (ps_expr (pe_bm PySem.F.plainAttrs_list PySem.F.slot_list_append PySem.F.type_list_append mt_append (pv 2) (pa_cons (pe_lst pa_nil) pa_nil)))))) pss_nil))))))))
      (pss_cons (ps_expr (pe_bm PySem.F.plainAttrs_dict PySem.F.slot_dict_update PySem.F.type_dict_update Kr.mt_updD (pv 3) (pa_cons (pe_call G_law_last (hr.mono (by omega)) (by rfl) D_law_last.g D_law_last.F.kp D_law_last.b .nil pass0 (pa_cons (pv 4) pa_nil)) pa_nil)))
      (pss_one (ps_ret (pe_tup (pa_cons (pv 2) (pa_cons (pv 3) pa_nil)))))))))), ?_⟩
    refine ⟨small_line (by show 0 ≤ 1000000; decide), fun r0 nr0 => ⟨small_line (by show 1 ≤ 1000000; decide), fun R nR => fun L nL => ⟨small_line (by show 0 ≤ 1000000; decide), fun p np => ?_⟩⟩⟩
    have s1 := same_new (o := .lst []) nr0
    have s2 := s1.trans (same_new (o := .lst [.ref r0]) nR)
    have s3 := s2.trans (same_new (o := .dK []) nL)
    have s4 := s3.trans (same_new (o := .lst []) np)
    have e0 : ∀ {X : Hp} {a b : Addr} {o : HO}, X a = some o → X b = none → a ≠ b := fun h1 h2 => ne_of_none h1 h2
    have B0 : RB H (upd (upd (upd (upd H r0 (.lst [])) R (.lst [.ref r0])) L (.dK [])) p (.lst [])) R L p [r0] [[]] [] [] := by
      have hR := (same_new (o := .lst []) np) _ _ ((same_new (o := .dK []) nL) _ _ (upd_same (H := upd H r0 (.lst [])) (a := R) (o := .lst [.ref r0])))
      have hr0 := (same_new (o := .lst []) np) _ _ ((same_new (o := .dK []) nL) _ _ ((same_new (o := .lst [.ref r0]) nR) _ _ (upd_same (H := H) (a := r0) (o := .lst []))))
      refine { same := s4, nR := s1.free nR, nL := s2.free nL, np := s3.free np, na := ?_, nd := List.nodup_cons.mpr ⟨by simp, List.nodup_nil⟩, dR := ?_, dp := ?_, dRp := ?_, hR := hR, hL := (same_new (o := .lst []) np) _ _ upd_same, ndm := List.nodup_nil, row := .cons ⟨[], hr0, .nil⟩ .nil, hp := ⟨[], upd_same, .nil⟩, okm := ok_nil, okp := ok_nil }
      · intro a ha
        rw [List.mem_singleton.mp ha]
        exact nr0
      · intro h
        rw [List.mem_singleton.mp h] at nR
        rw [upd_same] at nR
        cases nR
      · intro h
        rw [List.mem_singleton.mp h] at np
        rw [(same_new (o := .dK []) nL) _ _ ((same_new (o := .lst [.ref r0]) nR) _ _ (upd_same (H := H) (a := r0) (o := .lst [])))] at np
        cases np
      · intro h
        rw [← h] at np
        rw [(same_new (o := .dK []) nL) _ _ (upd_same (H := upd H r0 (.lst [])) (a := R) (o := .lst [.ref r0]))] at np
        cases np
    refine ⟨_, rfl, c, ns.map V.int, rfl, s4.seq hc, for_it walk_enum (fun i σ H' => ∃ (p : Addr) (as : List Addr) (done : List (List Deed)) (cur : List Deed) (m ps : Prs) (k1 k2 k3 k4 : Option V),
        σ = [some (.ref c), some (.ref po), some (.ref R), some (.ref L), some (.ref p), k1, k2, k3, k4] ∧ RB H H' R L p as (done ++ [cur]) m ps ∧ (∀ ds ∈ done ++ [cur], ∀ d ∈ ds, Fine d) ∧ RowsFit done ∧ RowFits [] cur ∧
        RowsRight noLeft done ∧ RowRight (tells m) [] cur ∧ rowsLeft noLeft done = tells m ∧ endP [] cur = ps ∧ done.length ≤ i ∧ (∀ ds ∈ done ++ [cur], ds.length ≤ i) ∧ ps.length ≤ i ∧ m.length ≤ 100 * i)
      ⟨p, [r0], [], [], [], [], none, none, none, none, rfl, B0, (fun ds hds d hd => by rw [List.mem_singleton.mp hds] at hd; cases hd), trivial, trivial, trivial, trivial, rfl, rfl, Nat.zero_le _, (fun ds hds => by rw [List.mem_singleton.mp hds]; exact Nat.zero_le _), Nat.zero_le _, Nat.zero_le _⟩
      (fun i σ H' _ h => by obtain ⟨p, as, done, cur, m, ps, _, _, _, _, _, b, _⟩ := h; exact b.same.seq hc) ?_ ?_⟩
    · rintro i x σ H1 H2 hi ⟨p, as, done, cur, m, ps, k1, k2, k3, k4, rfl, B, okd, f1, f2, r1, r2, lf, ep, b1, b2, b3, b4⟩ ⟨T, x1, x2, rfl, nT, rfl, e1, e2⟩
      obtain ⟨z, rfl, hz⟩ := int_at e2
      cases Option.some.inj e1
      have hi2 : i < ns.length := by
        rw [List.length_map] at hi
        exact hi
      have sT := same_new (o := .tup [.int (i : Nat), .int z]) nT
      have BT := B.on sT
      refine ⟨T, [.int (i : Nat), .int z], rfl, .inl (.inl upd_same), rfl, .int (i : Nat), [.int z], rfl, .int z, [], rfl, rfl, ?_⟩
      refine ⟨_, rfl, _, rfl, _, _, rfl, rfl, .inl ⟨by decide, by decide⟩, _, _, rfl, rfl, _, rfl, ?_⟩
      -- the deed
      have hPp : PairsAt (upd H1 T (.tup [.int (i : Nat), .int z])) p ps := by
        obtain ⟨qs, h1, h2⟩ := BT.hp
        exact ⟨qs, h1, Paired.mono (fun a q e => (fresh_iff.mp (cut_iff.mp e).2).2) h2⟩
      refine ⟨_, rfl, _, rfl, _, rfl, _, rfl, _, rfl, L, p, po, m, ps, zs, _, z, rfl, ⟨BT.hL, BT.ndm⟩, hPp, ⟨BT.same _ _ hpo.at', hpo.lo, hpo.hi, hpo.ok⟩, B.okm, B.okp, mixZ_lo _, by omega, fun a d H2 u1 na da dok dr df => ?_⟩
      have B2 := BT.on u1
      have da2 : DeedAt (Cut (Mu R L p as) (Fresh H H2)) a d := da.mono (cutF_new BT.same BT.there)
      obtain ⟨as', r, xs, eas, hr2, hxl, B3⟩ := B2.add da2
      have dn : DeedAt H2 a d := da.mono (fresh_to _ _)
      have nra : ∀ {o : HO}, (upd H1 T (.tup [.int (i : Nat), .int z])) r = some o → a ≠ r := fun h => (ne_of_none h na).symm
      obtain ⟨orr, hrT⟩ := BT.there r (.inr (.inr (.inr (by rw [eas]; simp))))
      have nar := nra hrT
      -- it is put into the last row
      refine ⟨fun σ H' => RB H H' R L p as (done ++ [cur ++ [d]]) m ps ∧ DeedAt (Cut (Mu R L p as) (Fresh H H')) a d ∧
        σ = [some (.ref c), some (.ref po), some (.ref R), some (.ref L), some (.ref p), some (.int (i : Nat)), some (.int z), some (.int (mixZ (z + 131 * (i : Nat)))), some (.ref a)], ?_, ?_⟩
      · have hat : atI (as.map V.ref) (-1) = some (.ref r) := by
          rw [eas, List.map_append]
          exact atI_last _ _
        have hcl := b2 cur (List.mem_append_right _ (List.mem_singleton.mpr rfl))
        refine ⟨_, rfl, 1, rfl, R, _, _, _, rfl, rfl, SqL.of B2.hR, hat, .inl ⟨rfl, _, SqL.of hr2⟩, _, rfl, r, xs, _, rfl, rfl, hr2, Nat.lt_of_le_of_lt (by omega : _ ≤ 1000000) (by decide), B3, ?_, rfl⟩
        exact da2.mono (cutF_upd (.inr (.inr (.inr (by rw [eas]; simp)))))
      rintro σ3 H3 ⟨B4, da3, rfl⟩
      have okd2 : ∀ ds ∈ done ++ [cur ++ [d]], ∀ e ∈ ds, Fine e := fun ds hds e he => by
        rcases List.mem_append.mp hds with h | h
        · exact okd ds (List.mem_append_left _ h) e he
        · rw [List.mem_singleton.mp h] at he
          rcases List.mem_append.mp he with h2 | h2
          · exact okd cur (List.mem_append_right _ (List.mem_singleton.mpr rfl)) e h2
          · rw [List.mem_singleton.mp h2]
            exact fine_of dok dr (by omega)
      have ndD : ∀ {x y : Str}, decide (x = y) = false → decide (V.str x = V.str y) = false := fun h => decide_eq_false fun e => by
        rw [V.str.inj e, decide_eq_true rfl] at h
        cases h
      -- a write is noted
      refine ⟨fun σ H' => ∃ ps2 : Prs, (match d with | .write n v => ps2 = ps ++ [(n, v)] | _ => ps2 = ps) ∧ RB H H' R L p as (done ++ [cur ++ [d]]) m ps2 ∧ DeedAt (Cut (Mu R L p as) (Fresh H H')) a d ∧
        σ = [some (.ref c), some (.ref po), some (.ref R), some (.ref L), some (.ref p), some (.int (i : Nat)), some (.int z), some (.int (mixZ (z + 131 * (i : Nat)))), some (.ref a)], ?_, ?_⟩
      · cases d with
        | read n v =>
          have ha := (fresh_iff.mp (cut_iff.mp da3).2).2
          refine ⟨_, rfl, a, _, _, _, rfl, rfl, SqT.of ha, atI_nat (j := 0) rfl, rfl, _, rfl, ?_⟩
          rw [ndD (by decide +kernel)]
          exact iteF ⟨ps, rfl, B4, da3, rfl⟩
        | under g qs =>
          obtain ⟨b, h1, h2⟩ := id da3
          have ha := (fresh_iff.mp (cut_iff.mp h1).2).2
          refine ⟨_, rfl, a, _, _, _, rfl, rfl, SqT.of ha, atI_nat (j := 0) rfl, rfl, _, rfl, ?_⟩
          rw [ndD (by decide +kernel)]
          exact iteF ⟨ps, rfl, B4, da3, rfl⟩
        | write n v =>
          have ha := (fresh_iff.mp (cut_iff.mp da3).2).2
          refine ⟨_, rfl, a, _, _, _, rfl, rfl, SqT.of ha, atI_nat (j := 0) rfl, rfl, _, rfl, ?_⟩
          rw [decide_eq_true rfl]
          obtain ⟨ys, hp1, _⟩ := B4.put (t := a) (n := n) (v := v) |> fun _ => (by obtain ⟨qs, h1, h2⟩ := B4.hp; exact ⟨qs.map V.ref, h1, by rw [List.length_map, h2.length]⟩ : ∃ ys : List V, H3 p = some (.lst ys) ∧ ys.length = ps.length)
          refine iteT ⟨_, rfl, .inl ⟨rfl, _, SqL.of hp1⟩, _, rfl, a, _, _, _, rfl, rfl, SqT.of ha, atI_nat (j := 1) rfl, _, rfl, a, _, _, _, rfl, rfl, SqT.of ha, atI_nat (j := 2) rfl, small_line (by show 2 ≤ 1000000; decide), fun t nt => ?_⟩
          obtain ⟨xs2, h1, h2, B5⟩ := B4.put nt dok.1 dok.2
          refine ⟨p, xs2, _, rfl, rfl, (same_new nt) _ _ h1, Nat.lt_of_le_of_lt (by omega : _ ≤ 1000000) (by decide), _, rfl, B5, ?_, rfl⟩
          exact (da3.mono (cutF_same (same_new nt))).mono (cutF_upd (.inr (.inr (.inl rfl))))
        | back k =>
          have ha := (fresh_iff.mp (cut_iff.mp da3).2).2
          refine ⟨_, rfl, a, _, _, _, rfl, rfl, SqT.of ha, atI_nat (j := 0) rfl, rfl, _, rfl, ?_⟩
          rw [ndD (by decide +kernel)]
          exact iteF ⟨ps, rfl, B4, da3, rfl⟩
      rintro σ4 H4 ⟨ps2, eps, B5, da4, rfl⟩
      -- a going back
      refine ⟨fun σ H' => ∃ p2, RB H H' R L p2 as (done ++ [cur ++ [d]]) m (nextP ps d) ∧
        σ = [some (.ref c), some (.ref po), some (.ref R), some (.ref L), some (.ref p2), some (.int (i : Nat)), some (.int z), some (.int (mixZ (z + 131 * (i : Nat)))), some (.ref a)], ?_, ?_⟩
      · cases d with
        | read n v =>
          have ha := (fresh_iff.mp (cut_iff.mp da4).2).2
          refine ⟨_, rfl, a, _, _, _, rfl, rfl, SqT.of ha, atI_nat (j := 0) rfl, rfl, _, rfl, ?_⟩
          rw [ndD (by decide +kernel)]
          cases eps
          exact iteF ⟨p, B5, rfl⟩
        | under g qs =>
          obtain ⟨b, h1, h2⟩ := id da4
          have ha := (fresh_iff.mp (cut_iff.mp h1).2).2
          refine ⟨_, rfl, a, _, _, _, rfl, rfl, SqT.of ha, atI_nat (j := 0) rfl, rfl, _, rfl, ?_⟩
          rw [ndD (by decide +kernel)]
          cases eps
          exact iteF ⟨p, B5, rfl⟩
        | write n v =>
          have ha := (fresh_iff.mp (cut_iff.mp da4).2).2
          refine ⟨_, rfl, a, _, _, _, rfl, rfl, SqT.of ha, atI_nat (j := 0) rfl, rfl, _, rfl, ?_⟩
          rw [ndD (by decide +kernel)]
          cases eps
          exact iteF ⟨p, B5, rfl⟩
        | back k =>
          have ha := (fresh_iff.mp (cut_iff.mp da4).2).2
          refine ⟨_, rfl, a, _, _, _, rfl, rfl, SqT.of ha, atI_nat (j := 0) rfl, rfl, _, rfl, ?_⟩
          rw [decide_eq_true rfl]
          cases eps
          obtain ⟨qs, h1, h2⟩ := B5.hp
          refine iteT ⟨_, rfl, _, rfl, a, _, _, _, rfl, rfl, SqT.of ha, atI_nat (j := 1) rfl, (k : Int), rfl, p, _, rfl, SqL.of h1, fun p2 n2 => ?_⟩
          have hk : k ≤ qs.length := by
            rw [h2.length]
            exact df
          have ec : cutV (qs.map V.ref) none (some (k : Int)) = (qs.take k).map V.ref := by
            unfold cutV
            rw [HT.sIx_none, HT.sIx_nat, List.drop_zero, Nat.sub_zero, List.length_map, Nat.min_eq_left hk, List.map_take]
          rw [ec]
          exact ⟨p2, B5.turn n2 (paired_take h2 k) (ok_take B5.okp k), rfl⟩
      rintro σ5 H5 ⟨p2, B6, rfl⟩
      have en : endP [] (cur ++ [d]) = nextP ps d := by rw [endP_snoc, ep]
      have f3 : RowFits [] (cur ++ [d]) := (rowFits_snoc cur [] d).mpr ⟨f2, by rw [ep]; exact df⟩
      have r3 : RowRight (tells m) [] (cur ++ [d]) := (rowRight_snoc (tells m) cur [] d).mpr ⟨r2, by rw [ep]; exact dr⟩
      have ln := len_next ps d
      have bl : ∀ ds ∈ done ++ [cur ++ [d]], ds.length ≤ i + 1 := fun ds hds => by
        rcases List.mem_append.mp hds with h | h
        · have h2 := b2 ds (List.mem_append_left _ h)
          omega
        · rw [List.mem_singleton.mp h, List.length_append]
          have h2 := b2 cur (List.mem_append_right _ (List.mem_singleton.mpr rfl))
          show cur.length + 1 ≤ i + 1
          omega
      -- its end
      refine ⟨_, rfl, _, _, rfl, rfl, ⟨by decide, by decide⟩, _, _, rfl, rfl, (by show (0 : Int) < 9; decide), rfl, _, rfl, ite2 (fun e => ?_) (fun e => ?_)⟩
      · have hPp2 : PairsAt H5 p2 (nextP ps d) := by
          obtain ⟨qs, h1, h2⟩ := B6.hp
          exact ⟨qs, h1, Paired.mono (fun a q e => (fresh_iff.mp (cut_iff.mp e).2).2) h2⟩
        refine ⟨_, rfl, .inr (.inr (.inl ⟨rfl, .inl ⟨_, B6.hL⟩⟩)), _, rfl, p2, _, rfl, hPp2, by omega, fun g H6 u6 ng hg => ?_⟩
        have B7 := B6.on u6
        have ng2 : L ≠ g := ne_of_none B6.hL ng
        have lp := putAll_len (nextP ps d) []
        have l0 : ([] : Prs).length = 0 := rfl
        have B8 := B7.leave (l := putAll [] (nextP ps d)) (ok_putAll ok_nil B7.okp)
        refine ⟨L, g, dk m, dk (putAll [] (nextP ps d)), rfl, rfl, B7.hL, Rd.of hg.at', ng2, (by rw [dk_len, dk_len]; exact small_line (by omega)), small_line (by show 0 ≤ 1000000; decide), fun p3 n3 => ?_⟩
        have B9 := B8.turn (qs := []) (ps2 := []) n3 .nil ok_nil
        refine ⟨_, rfl, .inl ⟨rfl, _, SqL.of B9.hR⟩, small_line (by show 0 ≤ 1000000; decide), fun r9 nr9 => ?_⟩
        have B10 := B9.fresh nr9
        have sR := (same_new (o := .lst []) nr9) _ _ B9.hR
        refine ⟨R, as.map V.ref, _, rfl, rfl, sR, ?_, ?_⟩
        · have h1 := B9.row.length
          rw [List.length_map, h1, List.length_append]
          exact Nat.lt_of_le_of_lt (show done.length + 1 ≤ 300000 by omega) (by decide)
        · have tl : tells (putAll m (putAll [] (nextP ps d))) = readV (tells m) (nextP ps d) := funext fun n => by
            rw [tells_all]
            unfold readV
            rw [putAll_idem]
          have lf2 : rowsLeft noLeft (done ++ [cur ++ [d]]) = tells (putAll m (putAll [] (nextP ps d))) := by
            rw [rowsLeft_snoc, lf, en, tl]
          have lq := putAll_len (putAll [] (nextP ps d)) m
          refine ⟨p3, as ++ [r9], done ++ [cur ++ [d]], [], _, [], _, _, _, _, rfl, B10, ?_, (rowsFit_snoc done _).mpr ⟨f1, f3⟩, trivial, (rowsRight_snoc done _ _).mpr ⟨r1, by rw [lf]; exact r3⟩, trivial, lf2, rfl, ?_, ?_, ?_, ?_⟩
          · intro ds hds e he
            rcases List.mem_append.mp hds with h | h
            · exact okd2 ds h e he
            · rw [List.mem_singleton.mp h] at he
              cases he
          · rw [List.length_append]
            show done.length + 1 ≤ i + 1
            omega
          · intro ds hds
            rcases List.mem_append.mp hds with h | h
            · exact bl ds h
            · rw [List.mem_singleton.mp h]
              exact Nat.zero_le _
          · exact Nat.zero_le _
          · omega
      · exact ⟨p2, as, done, cur ++ [d], m, nextP ps d, _, _, _, _, rfl, B6, okd2, f1, f3, r1, r3, lf, en, by omega, bl, by omega, by omega⟩
    · rintro σ H1 ⟨p, as, done, cur, m, ps, k1, k2, k3, k4, rfl, B, okd, f1, f2, r1, r2, lf, ep, b1, b2, b3, b4⟩
      rw [List.length_map] at b1 b2 b3 b4
      have hPp : PairsAt H1 p ps := by
        obtain ⟨qs, h1, h2⟩ := B.hp
        exact ⟨qs, h1, Paired.mono (fun a q e => (fresh_iff.mp (cut_iff.mp e).2).2) h2⟩
      refine ⟨_, rfl, .inr (.inr (.inl ⟨rfl, .inl ⟨_, B.hL⟩⟩)), _, rfl, p, _, rfl, hPp, by omega, fun g H6 u6 ng hg => ?_⟩
      have B7 := B.on u6
      have ng2 : L ≠ g := ne_of_none B.hL ng
      have lp := putAll_len ps []
      have l0 : ([] : Prs).length = 0 := rfl
      have lq := putAll_len (putAll [] ps) m
      have B8 := B7.leave (l := putAll [] ps) (ok_putAll ok_nil B7.okp)
      refine ⟨L, g, dk m, dk (putAll [] ps), rfl, rfl, B7.hL, Rd.of hg.at', ng2, (by rw [dk_len, dk_len]; exact small_line (by omega)), ?_⟩
      refine ⟨_, rfl, _, rfl, small_line (by show 2 ≤ 1000000; decide), fun t nt => ?_⟩
      have tl : tells (putAll m (putAll [] ps)) = readV (tells m) ps := funext fun n => by
        rw [tells_all]
        unfold readV
        rw [putAll_idem]
      refine q t R L p as (done ++ [cur]) _ ps _ (B8.on (same_new nt)) (B8.same.free nt) upd_same ⟨okd, by simp, (rowsFit_snoc done _).mpr ⟨f1, f2⟩, (rowsRight_snoc done _ _).mpr ⟨r1, by rw [lf]; exact r2⟩, ?_, ?_, ?_, ?_⟩
      · rw [rowsLeft_snoc, lf, ep, tl]
      · rw [List.length_append]
        show done.length + 1 ≤ 300
        omega
      · intro ds hds
        have h2 := b2 ds hds
        omega
      · omega
end
end Kt


namespace Kt
open PySem PySem.Spec PyProof.Rows L2 GxR Kr
section
variable {P : Program} {w : World} {K : PySem.W.Frag} {mg : Str → Option Value} {base : Heap}
theorem ok_law_spoiled (D : Def K mg "_law_spoiled" s_law_spoiled ["_law_deed", "_law_way"]) (m_int : mg "int" = none) (m_list : mg "list" = none) (m_len : mg "len" = none) (m_reversed : mg "reversed" = none) :
    FnOk P w K mg base CX0 1 D.f D.fd ["_law_deed", "_law_way"] sp_law_spoiled := by
  refine D.F.ok sc_law_spoiled (fun vs H Q E h => ?_) (fun cdv A outer s H vs Q E hr h => ?_)
  · obtain ⟨M, a, d, x, rfl, _⟩ := h
    rfl
  · obtain ⟨M, a, d, x, rfl, hM, hd, dok, rd, q⟩ := h
    refine ⟨_, (pss_cons (ps_if (pt_cmpR op_eq (pe_ix ix_tup (pv 0) pe_int (fun _ _ => rfl)) pe_str (nomark _)) (pss_one (ps_ret (pe_tup (pa_cons pe_str (pa_cons (pe_ix ix_tup (pv 0) pe_int (fun _ _ => rfl)) (pa_cons (pe_ix ix_list (pe_lst (pa_cons pe_int (pa_cons pe_non pa_nil))) (pe_callTy call_int1 (by rfl) m_int (by decide +kernel) (pa_cons (pe_and (pe_cmpR op_notN (pe_ix ix_tup (pv 0) pe_int (fun _ _ => rfl)) pe_non (nomark _)) (pe_one (pe_cmpR op_eq (pe_op op_mod (pv 1) pe_int) pe_int (nomark _)))) pa_nil)) (fun _ _ => rfl)) pa_nil)))))) pss_nil)
      (pss_cons (ps_set (i := 2) sc_law_spoiled.nd rfl (.inl rfl) (pe_callTy call_list_of (by rfl) m_list (by decide +kernel) (pa_cons (pe_ix ix_tup (pv 0) pe_int (fun _ _ => rfl)) pa_nil)))
      (pss_cons (ps_if (PW.pt (pw_or (pt_cmpR (op_eqD hr.units) (pv 2) (pe_lst pa_nil) (nomark _)) (pw_or1 (pt_cmpR op_eq (pe_op op_mod (pv 1) pe_int) pe_int (nomark _))))) (pss_one (ps_ret (pe_tup (pa_cons pe_str (pa_cons (pe_ix ix_tup (pv 0) pe_int (fun _ _ => rfl)) (pa_cons (pe_op op_cat (pv 2) (pe_lst (pa_cons (pe_tup (pa_cons pe_str (pa_cons pe_int pa_nil))) pa_nil))) pa_nil)))))) pss_nil)
      (pss_cons (ps_set (i := 3) sc_law_spoiled.nd rfl (.inl rfl) (pe_op op_modN (pe_op op_fdiv (pv 1) pe_int) (pe_callB call_len_seq (by rfl) m_len PySem.boot_len (pa_cons (pv 2) pa_nil))))
      (pss_cons (ps_set (i := 4) sc_law_spoiled.nd rfl (.inl rfl) (pe_ix ix_list (pv 2) (pv 3) (fun _ _ => rfl)))
      (pss_cons (ps_if (pt_cmpR op_eq (pe_op op_mod (pv 1) pe_int) pe_int (nomark _)) (pss_one (ps_ret (pe_tup (pa_cons pe_str (pa_cons (pe_ix ix_tup (pv 0) pe_int (fun _ _ => rfl)) (pa_cons (pe_op op_cat (pe_slice sl_list (pv 2) po_none (po_some (pv 3))) (pe_slice sl_list (pv 2) (po_some (pe_op op_add (pv 3) pe_int)) po_none)) pa_nil)))))) pss_nil)
      (pss_cons (ps_if (pt_cmpR op_eq (pe_op op_mod (pv 1) pe_int) pe_int (nomark _)) (pss_one (ps_ret (pe_tup (pa_cons pe_str (pa_cons (pe_ix ix_tup (pv 0) pe_int (fun _ _ => rfl)) (pa_cons (pe_op op_cat (pe_op op_cat (pe_slice sl_list (pv 2) po_none (po_some (pv 3))) (pe_lst (pa_cons (pv 4) pa_nil))) (pe_slice sl_list (pv 2) (po_some (pv 3)) po_none)) pa_nil)))))) pss_nil)
      (pss_cons (ps_if (pt_cmpR op_eq (pe_op op_mod (pv 1) pe_int) pe_int (nomark _)) (pss_one (ps_ret (pe_tup (pa_cons pe_str (pa_cons (pe_ix ix_tup (pv 0) pe_int (fun _ _ => rfl)) (pa_cons (pe_op op_cat (pe_op op_cat (pe_slice sl_list (pv 2) po_none (po_some (pv 3))) (pe_lst (pa_cons (pe_tup (pa_cons (pe_ix ix_tup (pv 4) pe_int (fun _ _ => rfl)) (pa_cons (pe_op op_sub (pe_op op_add (pe_ix ix_tup (pv 4) pe_int (fun _ _ => rfl)) pe_int) (pe_op op_mul pe_int (pe_callTy call_int1 (by rfl) m_int (by decide +kernel) (pa_cons (pe_cmpR op_gt (pe_ix ix_tup (pv 4) pe_int (fun _ _ => rfl)) pe_int (nomark _)) pa_nil)))) pa_nil))) pa_nil))) (pe_slice sl_list (pv 2) (po_some (pe_op op_add (pv 3) pe_int)) po_none)) pa_nil)))))) pss_nil)
      (pss_cons (ps_if (pt_cmpR op_eq (pe_op op_mod (pv 1) pe_int) pe_int (nomark _)) (pss_one (ps_ret (pe_tup (pa_cons pe_str (pa_cons (pe_ix ix_tup (pv 0) pe_int (fun _ _ => rfl)) (pa_cons (pe_op op_cat (pe_op op_cat (pe_slice sl_list (pv 2) po_none (po_some (pv 3))) (pe_lst (pa_cons (pe_tup (pa_cons (pe_slice sl_str (pe_op op_add_str pe_str (pe_ix ix_tup (pv 4) pe_int (fun _ _ => rfl))) po_none (po_some pe_int)) (pa_cons (pe_ix ix_tup (pv 4) pe_int (fun _ _ => rfl)) pa_nil))) pa_nil))) (pe_slice sl_list (pv 2) (po_some (pe_op op_add (pv 3) pe_int)) po_none)) pa_nil)))))) pss_nil)
      (pss_cons (ps_if (pt_cmpR op_eq (pe_op op_mod (pv 1) pe_int) pe_int (nomark _)) (pss_one (ps_ret (pe_tup (pa_cons pe_str (pa_cons (pe_ix ix_tup (pv 0) pe_int (fun _ _ => rfl)) (pa_cons (pe_op op_cat (pe_slice sl_list (pv 2) (po_some pe_int) po_none) (pe_slice sl_list (pv 2) po_none (po_some pe_int))) pa_nil)))))) pss_nil)
      (pss_one (ps_ret (pe_tup (pa_cons pe_str (pa_cons (pe_ix ix_tup (pv 0) pe_int (fun _ _ => rfl)) (pa_cons (Kr.pe_lstRev rfl (by rfl) m_list (by rfl) m_reversed (pv 2)) pa_nil)))))))))))))))), ?_⟩
    have toH : ∀ {H1 : Hp} {c : Addr} {o : HO}, Cut M H1 c = some o → H1 c = some o := fun h => (cut_iff.mp h).2
    have newC : ∀ {H1 : Hp} {c : Addr} {o : HO}, H c = none → H1 c = some o → Cut M H1 c = some o := fun {H1 c o} h1 h2 => by
      refine cut_iff.mpr ⟨fun z => ?_, h2⟩
      obtain ⟨u, e⟩ := hM _ z
      rw [h1] at e
      cases e
    have ndD : ∀ {x y : Str}, decide (x = y) = false → decide (V.str x = V.str y) = false := fun h => decide_eq_false fun e => by
      rw [V.str.inj e, decide_eq_true rfl] at h
      cases h
    cases d with
    | write n v => exact rd.elim
    | back m => exact rd.elim
    | read n v =>
      have ha := toH hd
      refine ⟨_, rfl, a, _, _, _, rfl, rfl, SqT.of ha, atI_nat (j := 0) rfl, rfl, _, rfl, ?_⟩
      rw [decide_eq_true rfl]
      refine iteT ⟨_, rfl, a, _, _, _, rfl, rfl, SqT.of ha, atI_nat (j := 1) rfl, small_line (by show 2 ≤ 1000000; decide), fun p np => ?_⟩
      have s1 := same_new (o := .lst [.int 5, .non]) np
      have ha1 := s1 _ _ ha
      have fin : ∀ k : Bool, ∃ y, valueV y = true ∧ atI [V.int 5, V.non] (b2i k) = some y := fun k => by
        cases k with
        | true => exact ⟨.non, rfl, atI_nat (j := 1) rfl⟩
        | false => exact ⟨.int 5, by decide, atI_nat (j := 0) rfl⟩
      have go : ∀ (k : Bool) (R : VK), (∀ y, valueV y = true → R y (upd H p (.lst [.int 5, .non]))) → rIxL K (.ref p) (.int (b2i k)) (upd H p (.lst [.int 5, .non])) R := fun k R hR => by
        obtain ⟨y, hy, e⟩ := fin k
        exact ⟨p, _, _, y, rfl, rfl, SqL.of upd_same, e, hR y hy⟩
      have tl : ∀ y, valueV y = true → (3 ≤ sizeLine ∧ ∀ t, (upd H p (.lst [.int 5, .non])) t = none → Q (.ref t) (upd (upd H p (.lst [.int 5, .non])) t (.tup [.str (Str.ofString "read"), .str n, y]))) := fun y hy =>
        ⟨small_line (by decide), fun t nt => q t (.read n y) _ (s1.trans (same_new nt)) (s1.free nt) (newC (s1.free nt) upd_same) ⟨dok.1, hy⟩ rfl⟩
      refine ⟨_, rfl, a, _, _, _, rfl, rfl, SqT.of ha1, atI_nat (j := 2) rfl, rfl, _, rfl, ?_⟩
      by_cases hv : v = .non
      · rw [decide_eq_true hv]
        exact iteF (.inr ⟨false, rfl, go false _ tl⟩)
      · rw [decide_eq_false hv]
        exact iteT ⟨_, rfl, _, _, rfl, rfl, (by show (0 : Int) < 2; decide), rfl, .inr ⟨_, rfl, go _ _ tl⟩⟩
    | under g ps =>
      obtain ⟨b, h1, as, hb, hp⟩ := hd
      have ha := toH h1
      have hb1 := toH hb
      refine ⟨_, rfl, a, _, _, _, rfl, rfl, SqT.of ha, atI_nat (j := 0) rfl, rfl, _, rfl, ?_⟩
      rw [ndD (by decide +kernel)]
      refine iteF ⟨_, rfl, a, _, _, _, rfl, rfl, SqT.of ha, atI_nat (j := 2) rfl, b, _, rfl, .inl (SqL.of hb1), fun c nc => ?_⟩
      have s1 := same_new (o := .lst (as.map V.ref)) nc
      have hc := upd_same (H := H) (a := c) (o := .lst (as.map V.ref))
      have ha1 := s1 _ _ ha
      have len : as.length = ps.length := Paired.length hp
      have okp : Ok ps := dok.2
      obtain ⟨pl, pint⟩ := rd
      generalize upd H c (.lst (as.map V.ref)) = H1 at s1 hc ha1
      have P1 : Prd (Cut M H1) as ps := Prd.mono hp (cut_same s1)
      -- the end: a new list of pairs is told
      have fin : ∀ (y : Addr) (bs : List Addr) (qs : Prs) (H2 : Hp), Same H H2 → H y = none → H2 y = some (.lst (bs.map V.ref)) → Prd (Cut M H2) bs qs → Ok qs →
          (3 ≤ sizeLine ∧ ∀ t, H2 t = none → Q (.ref t) (upd H2 t (.tup [.str (Str.ofString "under"), .str g, .ref y]))) := fun y bs qs H2 s2 ny hy hq ok =>
        ⟨small_line (by decide), fun t nt => by
          have s3 := same_new (o := .tup [.str (Str.ofString "under"), .str g, .ref y]) nt
          exact q t (.under g qs) _ (s2.trans s3) (s2.free nt) ⟨y, newC (s2.free nt) upd_same, bs, newC ny (s3 _ _ hy), Prd.mono hq (cut_same s3)⟩ ⟨dok.1, ok⟩ rfl⟩
      refine ⟨_, rfl, small_line (by show 0 ≤ 1000000; decide), fun p2 n2 => ?_⟩
      have s2 := same_new (o := .lst []) n2
      have prk : ∀ q ∈ ps, PrOk q := fun q hq => prOk_of (okp q hq)
      have DP : Dp K (upd H1 p2 (.lst [])) (.ref c) (psD ps) := PairsAt.dp ⟨as, s2 _ _ hc, Paired.mono (fun _ _ e => s2 _ _ (toH e)) P1⟩ prk
      refine ⟨_, _, DP, .lst (SqL.of upd_same) .nil, (psD_sd prk).shaped (by decide), rfl, ?_⟩
      rw [psD_nil]
      by_cases hps : ps = []
      · rw [decide_eq_true hps]
        refine ⟨_, rfl, iteT (iteT ?_)⟩
        refine ⟨_, rfl, a, _, _, _, rfl, rfl, SqT.of (s2 _ _ ha1), atI_nat (j := 1) rfl, _, rfl, small_line (by show 2 ≤ 1000000; decide), fun t1 nt1 => ⟨small_line (by show 1 ≤ 1000000; decide), fun l1 nl1 => ?_⟩⟩
        have u1 := same_new (o := .tup [.str (Str.ofString "zz"), .int 7]) nt1
        have u2 := same_new (o := .lst [.ref t1]) nl1
        refine ⟨c, l1, _, _, rfl, rfl, u2 _ _ (u1 _ _ (s2 _ _ hc)), upd_same, small_line (by rw [List.length_map]; show as.length + 1 ≤ 1000000; omega), fun y ny => ?_⟩
        have u3 := same_new (o := .lst (as.map V.ref ++ [V.ref t1])) ny
        have U := s1.trans (s2.trans (u1.trans u2))
        refine fin y (as ++ [t1]) (ps ++ [(Str.ofString "zz", .int 7)]) _ (U.trans u3) (U.free ny) (by rw [upd_same, List.map_append]; rfl) ?_ (ok_app okp fun z hz => by rw [List.mem_singleton.mp hz]; exact ⟨zz_name, by decide⟩)
        exact Prd.app (P1.mono (cut_same (s2.trans (u1.trans (u2.trans u3))))) (.cons (newC ((s1.trans s2).free nt1) (u3 _ _ (u2 _ _ upd_same))) .nil)
      rw [decide_eq_false hps]
      refine ⟨_, rfl, iteF ⟨_, rfl, _, _, rfl, rfl, (by show (0 : Int) < 7; decide), rfl, _, rfl, ite2 (fun e => ?_) (fun e => ?_)⟩⟩
      · skip
        refine ⟨_, rfl, a, _, _, _, rfl, rfl, SqT.of (s2 _ _ ha1), atI_nat (j := 1) rfl, _, rfl, small_line (by show 2 ≤ 1000000; decide), fun t1 nt1 => ⟨small_line (by show 1 ≤ 1000000; decide), fun l1 nl1 => ?_⟩⟩
        have u1 := same_new (o := .tup [.str (Str.ofString "zz"), .int 7]) nt1
        have u2 := same_new (o := .lst [.ref t1]) nl1
        refine ⟨c, l1, _, _, rfl, rfl, u2 _ _ (u1 _ _ (s2 _ _ hc)), upd_same, small_line (by rw [List.length_map]; show as.length + 1 ≤ 1000000; omega), fun y ny => ?_⟩
        have u3 := same_new (o := .lst (as.map V.ref ++ [V.ref t1])) ny
        have U := s1.trans (s2.trans (u1.trans u2))
        refine fin y (as ++ [t1]) (ps ++ [(Str.ofString "zz", .int 7)]) _ (U.trans u3) (U.free ny) (by rw [upd_same, List.map_append]; rfl) ?_ (ok_app okp fun z hz => by rw [List.mem_singleton.mp hz]; exact ⟨zz_name, by decide⟩)
        exact Prd.app (P1.mono (cut_same (s2.trans (u1.trans (u2.trans u3))))) (.cons (newC ((s1.trans s2).free nt1) (u3 _ _ (u2 _ _ upd_same))) .nil)
      -- the place
      have n0 : 0 < ps.length := List.length_pos_iff.mpr hps
      have hal : (as.map V.ref).length = ps.length := by rw [List.length_map, len]
      have k0 : 0 ≤ (x / 7).fmod ((as.map V.ref).length : Int) := by
        rw [hal, Int.fmod_eq_emod_of_nonneg _ (by omega)]
        exact Int.emod_nonneg _ (by omega)
      have k1 : (x / 7).fmod ((as.map V.ref).length : Int) < (ps.length : Int) := by
        rw [hal, Int.fmod_eq_emod_of_nonneg _ (by omega)]
        exact Int.emod_lt_of_pos _ (by omega)
      obtain ⟨j, hj⟩ : ∃ j : Nat, (x / 7).fmod ((as.map V.ref).length : Int) = (j : Int) := ⟨_, (Int.toNat_of_nonneg k0).symm⟩
      have jl : j < ps.length := by omega
      have jl2 : j < as.length := by omega
      have hc2 := s2 _ _ hc
      have ha2 := s2 _ _ ha1
      have S2 := s1.trans s2
      have P2 := P1.mono (cut_same s2)
      generalize upd H1 p2 (.lst []) = H2 at s2 hc2 ha2 S2 P2 DP
      obtain ⟨pa, hpa⟩ : ∃ pa, as[j]? = some pa := ⟨_, List.getElem?_eq_getElem jl2⟩
      obtain ⟨q0, hq0, hpq⟩ := paired_at P2 hpa
      have hpa2 := toH hpq
      have q0m := List.mem_of_getElem? hq0
      obtain ⟨i0, hi0⟩ := pint q0 q0m
      have okq := okp q0 q0m
      refine ⟨_, rfl, _, _, rfl, rfl, ⟨by decide, by decide⟩, _, rfl, c, _, rfl, .inl (SqL.of hc2), _, _, rfl, rfl, (by rw [hal]; omega), ?_⟩
      refine ⟨_, rfl, _, rfl, c, _, _, _, rfl, rfl, SqL.of hc2, at_of hj (by rw [List.getElem?_map, hpa]; rfl), ?_⟩
      have cTo : cutV (as.map V.ref) none (some ((x / 7).fmod ((as.map V.ref).length : Int))) = (as.take j).map V.ref := by
        rw [hj]
        exact cutR_to as j (by omega)
      have cFrom : cutV (as.map V.ref) (some ((x / 7).fmod ((as.map V.ref).length : Int))) none = (as.drop j).map V.ref := by
        rw [hj]
        exact cutR_from as j (by omega)
      have cFrom1 : cutV (as.map V.ref) (some ((x / 7).fmod ((as.map V.ref).length : Int) + 1)) none = (as.drop (j + 1)).map V.ref := by
        rw [hj, show (j : Int) + 1 = ((j + 1 : Nat) : Int) by omega]
        exact cutR_from as (j + 1) (by omega)
      have lT : ((as.take j).map V.ref).length ≤ as.length := by
        rw [List.length_map, List.length_take]
        omega
      have lD : ∀ k, ((as.drop k).map V.ref).length ≤ as.length := fun k => by
        rw [List.length_map, List.length_drop]
        omega
      -- one of them left out
      refine ⟨_, rfl, _, _, rfl, rfl, (by show (0 : Int) < 7; decide), rfl, _, rfl, ite2 (fun e => ?_) (fun e => ?_)⟩
      · refine ⟨_, rfl, a, _, _, _, rfl, rfl, SqT.of ha2, atI_nat (j := 1) rfl, _, rfl, _, rfl, _, rfl, c, _, rfl, SqL.of hc2, fun l1 m1 => ?_⟩
        have u1 := same_new (o := .lst (cutV (as.map V.ref) none (some ((x / 7).fmod ((as.map V.ref).length : Int))))) m1
        refine ⟨_, rfl, _, rfl, _, _, rfl, rfl, _, rfl, c, _, rfl, SqL.of (u1 _ _ hc2), fun l2 m2 => ?_⟩
        rw [cTo] at u1 m2 ⊢
        rw [cFrom1]
        have u2 := same_new (o := .lst ((as.drop (j + 1)).map V.ref)) m2
        refine ⟨l1, l2, _, _, rfl, rfl, u2 _ _ upd_same, upd_same, ?_, fun y ny => ?_⟩
        · have h9 := lD (j + 1)
          exact small_line (by omega)
        have u3 := same_new (o := .lst ((as.take j).map V.ref ++ (as.drop (j + 1)).map V.ref)) ny
        have U := S2.trans (u1.trans u2)
        refine fin y (as.take j ++ as.drop (j + 1)) (ps.take j ++ ps.drop (j + 1)) _ (U.trans u3) (U.free ny) (by rw [upd_same, List.map_append]) ?_ (ok_app (ok_take okp _) (ok_drop okp _))
        exact Prd.mono (Prd.app (paired_take P2 j) (paired_drop P2 (j + 1))) (cut_same (u1.trans (u2.trans u3)))
      -- one of them twice
      refine ⟨_, rfl, _, _, rfl, rfl, (by show (0 : Int) < 7; decide), rfl, _, rfl, ite2 (fun e => ?_) (fun e => ?_)⟩
      · refine ⟨_, rfl, a, _, _, _, rfl, rfl, SqT.of ha2, atI_nat (j := 1) rfl, _, rfl, _, rfl, _, rfl, c, _, rfl, SqL.of hc2, fun l1 m1 => ?_⟩
        have u1 := same_new (o := .lst (cutV (as.map V.ref) none (some ((x / 7).fmod ((as.map V.ref).length : Int))))) m1
        rw [cTo] at u1 ⊢
        refine ⟨_, rfl, small_line (by show 1 ≤ 1000000; decide), fun l2 m2 => ?_⟩
        have u2 := same_new (o := .lst [.ref pa]) m2
        refine ⟨l1, l2, _, _, rfl, rfl, u2 _ _ upd_same, upd_same, ?_, fun l3 m3 => ?_⟩
        · show _ + 1 ≤ _
          exact small_line (by omega)
        have u3 := same_new (o := .lst ((as.take j).map V.ref ++ [V.ref pa])) m3
        refine ⟨_, rfl, _, rfl, _, rfl, c, _, rfl, SqL.of (u3 _ _ (u2 _ _ (u1 _ _ hc2))), fun l4 m4 => ?_⟩
        rw [cFrom]
        have u4 := same_new (o := .lst ((as.drop j).map V.ref)) m4
        refine ⟨l3, l4, _, _, rfl, rfl, u4 _ _ upd_same, upd_same, ?_, fun y ny => ?_⟩
        · have h9 := lD j
          rw [List.length_append]
          show _ + 1 + _ ≤ _
          exact small_line (by omega)
        have u5 := same_new (o := .lst ((as.take j).map V.ref ++ [V.ref pa] ++ (as.drop j).map V.ref)) ny
        have U := S2.trans (u1.trans (u2.trans (u3.trans u4)))
        refine fin y (as.take j ++ [pa] ++ as.drop j) (ps.take j ++ [q0] ++ ps.drop j) _ (U.trans u5) (U.free ny) (by rw [upd_same, List.map_append, List.map_append]; rfl) ?_ (ok_app (ok_app (ok_take okp _) fun z hz => by rw [List.mem_singleton.mp hz]; exact okq) (ok_drop okp _))
        exact Prd.mono (Prd.app (Prd.app (paired_take P2 j) (.cons hpq .nil)) (paired_drop P2 j)) (cut_same (u1.trans (u2.trans (u3.trans (u4.trans u5)))))
      -- another one in its place
      have other : ∀ (n : Str) (z : Int) (R : V → Hp → Prop), Name n → valueV (.int z) = true → True := fun _ _ _ _ _ => trivial
      refine ⟨_, rfl, _, _, rfl, rfl, (by show (0 : Int) < 7; decide), rfl, _, rfl, ite2 (fun e => ?_) (fun e => ?_)⟩
      · refine ⟨_, rfl, a, _, _, _, rfl, rfl, SqT.of ha2, atI_nat (j := 1) rfl, _, rfl, _, rfl, _, rfl, c, _, rfl, SqL.of hc2, fun l1 m1 => ?_⟩
        have u1 := same_new (o := .lst (cutV (as.map V.ref) none (some ((x / 7).fmod ((as.map V.ref).length : Int))))) m1
        rw [cTo] at u1 ⊢
        have hpa3 := u1 _ _ hpa2
        rw [hi0] at hpa3
        refine ⟨_, rfl, pa, _, _, _, rfl, rfl, SqT.of hpa3, atI_nat (j := 0) rfl, _, rfl, pa, _, _, _, rfl, rfl, SqT.of hpa3, atI_nat (j := 1) rfl, _, _, rfl, rfl, _, rfl, pa, _, _, _, rfl, rfl, SqT.of hpa3, atI_nat (j := 1) rfl, _, _, rfl, rfl, .inr ⟨_, rfl, _, _, rfl, rfl, .inl ⟨by decide, by decide⟩, _, _, rfl, rfl, small_line (by show 2 ≤ 1000000; decide), fun t1 nt1 => ⟨small_line (by show 1 ≤ 1000000; decide), fun l2 m2 => ?_⟩⟩⟩
        have ut := same_new (o := .tup [.str q0.1, .int (i0 + 1 - 2 * b2i (decide (0 < i0)))]) nt1
        have u2 := same_new (o := .lst [.ref t1]) m2
        refine ⟨l1, l2, _, _, rfl, rfl, u2 _ _ (ut _ _ upd_same), upd_same, ?_, fun l3 m3 => ?_⟩
        · show _ + 1 ≤ _
          exact small_line (by omega)
        have u3 := same_new (o := .lst ((as.take j).map V.ref ++ [V.ref t1])) m3
        refine ⟨_, rfl, _, rfl, _, _, rfl, rfl, _, rfl, c, _, rfl, SqL.of (u3 _ _ (u2 _ _ (ut _ _ (u1 _ _ hc2)))), fun l4 m4 => ?_⟩
        rw [cFrom1]
        have u4 := same_new (o := .lst ((as.drop (j + 1)).map V.ref)) m4
        refine ⟨l3, l4, _, _, rfl, rfl, u4 _ _ upd_same, upd_same, ?_, fun y ny => ?_⟩
        · have h9 := lD (j + 1)
          rw [List.length_append]
          show _ + 1 + _ ≤ _
          exact small_line (by omega)
        have u5 := same_new (o := .lst ((as.take j).map V.ref ++ [V.ref t1] ++ (as.drop (j + 1)).map V.ref)) ny
        have U := S2.trans (u1.trans (ut.trans (u2.trans (u3.trans u4))))
        have hv : valueV (.int (i0 + 1 - 2 * b2i (decide (0 < i0)))) = true := by
          have h8 := okq.2
          rw [hi0] at h8
          have h9 := Bool.and_eq_true_iff.mp (show (decide (-(10 ^ 30) ≤ i0) && decide (i0 ≤ 10 ^ 30)) = true from h8)
          have g1 := of_decide_eq_true h9.1
          have g2 := of_decide_eq_true h9.2
          show (decide _ && decide _) = true
          by_cases hp0 : 0 < i0
          · rw [decide_eq_true hp0]
            show (decide (-(10 ^ 30) ≤ i0 + 1 - 2 * 1) && decide (i0 + 1 - 2 * 1 ≤ 10 ^ 30)) = true
            rw [decide_eq_true (by omega), decide_eq_true (by omega)]
            rfl
          · rw [decide_eq_false hp0]
            show (decide (-(10 ^ 30) ≤ i0 + 1 - 2 * 0) && decide (i0 + 1 - 2 * 0 ≤ 10 ^ 30)) = true
            rw [decide_eq_true (by omega), decide_eq_true (by omega)]
            rfl
        refine fin y (as.take j ++ [t1] ++ as.drop (j + 1)) (ps.take j ++ [(q0.1, .int (i0 + 1 - 2 * b2i (decide (0 < i0))))] ++ ps.drop (j + 1)) _ (U.trans u5) (U.free ny) (by rw [upd_same, List.map_append, List.map_append]; rfl) ?_
          (ok_app (ok_app (ok_take okp _) fun z hz => by rw [List.mem_singleton.mp hz]; exact ⟨okq.1, hv⟩) (ok_drop okp _))
        have n1 : Cut M _ t1 = some _ := newC ((S2.trans u1).free nt1) (u5 _ _ (u4 _ _ (u3 _ _ (u2 _ _ upd_same))))
        exact Prd.app (Prd.app (Prd.mono (paired_take P2 j) (cut_same (u1.trans (ut.trans (u2.trans (u3.trans (u4.trans u5))))))) (.cons n1 .nil)) (Prd.mono (paired_drop P2 (j + 1)) (cut_same (u1.trans (ut.trans (u2.trans (u3.trans (u4.trans u5)))))))
      -- another name
      refine ⟨_, rfl, _, _, rfl, rfl, (by show (0 : Int) < 7; decide), rfl, _, rfl, ite2 (fun e => ?_) (fun e => ?_)⟩
      · refine ⟨_, rfl, a, _, _, _, rfl, rfl, SqT.of ha2, atI_nat (j := 1) rfl, _, rfl, _, rfl, _, rfl, c, _, rfl, SqL.of hc2, fun l1 m1 => ?_⟩
        have u1 := same_new (o := .lst (cutV (as.map V.ref) none (some ((x / 7).fmod ((as.map V.ref).length : Int))))) m1
        rw [cTo] at u1 ⊢
        have hpa3 := u1 _ _ hpa2
        have h12 := okq.1.hi
        refine ⟨_, rfl, pa, _, _, _, rfl, rfl, SqT.of hpa3, atI_nat (j := 0) rfl, _, _, rfl, rfl, ?_, 12, rfl, _, rfl, ?_, _, rfl, pa, _, _, _, rfl, rfl, SqT.of hpa3, atI_nat (j := 1) rfl, small_line (by show 2 ≤ 1000000; decide), fun t1 nt1 => ⟨small_line (by show 1 ≤ 1000000; decide), fun l2 m2 => ?_⟩⟩
        · show 1 + q0.1.length ≤ sizeLine
          exact small_line (by omega)
        · rw [len_app]
          show 1 + q0.1.length ≤ sizeLine
          exact small_line (by omega)
        have ut := same_new (o := .tup [.str (cutS (Str.ofString "q" ++ q0.1) none (some 12)), q0.2]) nt1
        have u2 := same_new (o := .lst [.ref t1]) m2
        refine ⟨l1, l2, _, _, rfl, rfl, u2 _ _ (ut _ _ upd_same), upd_same, ?_, fun l3 m3 => ?_⟩
        · show _ + 1 ≤ _
          exact small_line (by omega)
        have u3 := same_new (o := .lst ((as.take j).map V.ref ++ [V.ref t1])) m3
        refine ⟨_, rfl, _, rfl, _, _, rfl, rfl, _, rfl, c, _, rfl, SqL.of (u3 _ _ (u2 _ _ (ut _ _ (u1 _ _ hc2)))), fun l4 m4 => ?_⟩
        rw [cFrom1]
        have u4 := same_new (o := .lst ((as.drop (j + 1)).map V.ref)) m4
        refine ⟨l3, l4, _, _, rfl, rfl, u4 _ _ upd_same, upd_same, ?_, fun y ny => ?_⟩
        · have h9 := lD (j + 1)
          rw [List.length_append]
          show _ + 1 + _ ≤ _
          exact small_line (by omega)
        have u5 := same_new (o := .lst ((as.take j).map V.ref ++ [V.ref t1] ++ (as.drop (j + 1)).map V.ref)) ny
        have U := S2.trans (u1.trans (ut.trans (u2.trans (u3.trans u4))))
        refine fin y (as.take j ++ [t1] ++ as.drop (j + 1)) (ps.take j ++ [(cutS (Str.ofString "q" ++ q0.1) none (some 12), q0.2)] ++ ps.drop (j + 1)) _ (U.trans u5) (U.free ny) (by rw [upd_same, List.map_append, List.map_append]; rfl) ?_
          (ok_app (ok_app (ok_take okp _) fun z hz => by rw [List.mem_singleton.mp hz]; exact ⟨q_name okq.1, okq.2⟩) (ok_drop okp _))
        have n1 : Cut M _ t1 = some _ := newC ((S2.trans u1).free nt1) (u5 _ _ (u4 _ _ (u3 _ _ (u2 _ _ upd_same))))
        exact Prd.app (Prd.app (Prd.mono (paired_take P2 j) (cut_same (u1.trans (ut.trans (u2.trans (u3.trans (u4.trans u5))))))) (.cons n1 .nil)) (Prd.mono (paired_drop P2 (j + 1)) (cut_same (u1.trans (ut.trans (u2.trans (u3.trans (u4.trans u5)))))))
      -- turned by one
      refine ⟨_, rfl, _, _, rfl, rfl, (by show (0 : Int) < 7; decide), rfl, _, rfl, ite2 (fun e => ?_) (fun e => ?_)⟩
      · refine ⟨_, rfl, a, _, _, _, rfl, rfl, SqT.of ha2, atI_nat (j := 1) rfl, _, rfl, 1, rfl, c, _, rfl, SqL.of hc2, fun l1 m1 => ?_⟩
        have cA : cutV (as.map V.ref) (some 1) none = (as.drop 1).map V.ref := cutR_from as 1 (by omega)
        have cB : cutV (as.map V.ref) none (some 1) = (as.take 1).map V.ref := cutR_to as 1 (by omega)
        have u1 := same_new (o := .lst (cutV (as.map V.ref) (some 1) none)) m1
        rw [cA] at u1 ⊢
        refine ⟨_, rfl, 1, rfl, c, _, rfl, SqL.of (u1 _ _ hc2), fun l2 m2 => ?_⟩
        rw [cB]
        have u2 := same_new (o := .lst ((as.take 1).map V.ref)) m2
        refine ⟨l1, l2, _, _, rfl, rfl, u2 _ _ upd_same, upd_same, ?_, fun y ny => ?_⟩
        · have h9 := lD 1
          have h8 : ((as.take 1).map V.ref).length ≤ as.length := by
            rw [List.length_map, List.length_take]
            omega
          exact small_line (by omega)
        have u3 := same_new (o := .lst ((as.drop 1).map V.ref ++ (as.take 1).map V.ref)) ny
        have U := S2.trans (u1.trans u2)
        refine fin y (as.drop 1 ++ as.take 1) (ps.drop 1 ++ ps.take 1) _ (U.trans u3) (U.free ny) (by rw [upd_same, List.map_append]) ?_ (ok_app (ok_drop okp _) (ok_take okp _))
        exact Prd.mono (Prd.app (paired_drop P2 1) (paired_take P2 1)) (cut_same (u1.trans (u2.trans u3)))
      -- turned round
      · refine ⟨_, rfl, a, _, _, _, rfl, rfl, SqT.of ha2, atI_nat (j := 1) rfl, _, rfl, c, _, rfl, SqL.of hc2, fun y ny => ?_⟩
        have u1 := same_new (o := .lst (as.map V.ref).reverse) ny
        refine fin y as.reverse ps.reverse _ (S2.trans u1) (S2.free ny) (by rw [upd_same, List.map_reverse]) ?_ (fun z hz => okp z (List.mem_reverse.mp hz))
        exact Prd.mono (paired_rev P2) (cut_same u1)
end
end Kt

namespace Kt
open PySem PySem.Spec PyProof.Rows L2 GxR Kr
section
variable {P : Program} {w : World} {K : PySem.W.Frag} {mg : Str → Option Value} {base : Heap}
theorem ok_law_copied (D : Def K mg "_law_copied" s_law_copied ["_law_deed"]) (m_list : mg "list" = none) : FnOk P w K mg base CX0 1 D.f D.fd ["_law_deed"] sp_law_copied := by
  refine D.F.ok sc_law_copied (fun vs H Q E h => ?_) (fun cdv A outer s H vs Q E hr h => ?_)
  · obtain ⟨M, a, d, rfl, _⟩ := h
    rfl
  · obtain ⟨M, a, d, rfl, hM, hd, q⟩ := h
    refine ⟨_, (pss_cons (ps_if (pt_cmpR op_eq (pe_ix ix_tup (pv 0) pe_int (fun _ _ => rfl)) pe_str (nomark _)) (pss_one (ps_ret (pe_tup (pa_cons pe_str (pa_cons (pe_ix ix_tup (pv 0) pe_int (fun _ _ => rfl)) (pa_cons (pe_callTy call_list_of (by rfl) m_list (by decide +kernel) (pa_cons (pe_ix ix_tup (pv 0) pe_int (fun _ _ => rfl)) pa_nil)) pa_nil)))))) pss_nil)
      (pss_one (ps_ret (pv 0)))), ?_⟩
    have toH : ∀ {c : Addr} {o : HO}, Cut M H c = some o → H c = some o := fun h => (cut_iff.mp h).2
    cases d with
    | read n v =>
      have ha := toH hd
      refine ⟨_, rfl, a, _, _, _, rfl, rfl, SqT.of ha, atI_nat (j := 0) rfl, rfl, _, rfl, ?_⟩
      rw [str_dec (by decide +kernel)]
      exact iteF ⟨_, rfl, q a H (Same.refl H) hd⟩
    | write n v =>
      have ha := toH hd
      refine ⟨_, rfl, a, _, _, _, rfl, rfl, SqT.of ha, atI_nat (j := 0) rfl, rfl, _, rfl, ?_⟩
      rw [str_dec (by decide +kernel)]
      exact iteF ⟨_, rfl, q a H (Same.refl H) hd⟩
    | back m =>
      have ha := toH hd
      refine ⟨_, rfl, a, _, _, _, rfl, rfl, SqT.of ha, atI_nat (j := 0) rfl, rfl, _, rfl, ?_⟩
      rw [str_dec (by decide +kernel)]
      exact iteF ⟨_, rfl, q a H (Same.refl H) hd⟩
    | under h ps =>
      obtain ⟨p, h1, as, h2, h3⟩ := hd
      have ha := toH h1
      have hp := toH h2
      refine ⟨_, rfl, a, _, _, _, rfl, rfl, SqT.of ha, atI_nat (j := 0) rfl, rfl, _, rfl, ?_⟩
      rw [decide_eq_true rfl]
      refine iteT ⟨_, rfl, a, _, _, _, rfl, rfl, SqT.of ha, atI_nat (j := 1) rfl, _, rfl, a, _, _, _, rfl, rfl, SqT.of ha, atI_nat (j := 2) rfl, p, _, rfl, .inl (SqL.of hp), fun c nc => ?_⟩
      have s1 := same_new (o := .lst (as.map V.ref)) nc
      refine ⟨small_line (by show 3 ≤ 1000000; decide), fun t nt => ?_⟩
      have s2 := same_new (o := .tup [.str "under", .str h, .ref c]) nt
      have s := s1.trans s2
      exact q t _ s ⟨c, new_cut hM (s1.free nt) upd_same, as, new_cut hM nc (s2 _ _ upd_same), Paired.mono (fun a q e => cut_same s _ _ e) h3⟩
theorem ok_law_alike (D : Def K mg "_law_alike" s_law_alike ["_law_rows", "_law_others"]) (m_list : mg "list" = none) : FnOk P w K mg base CX0 1 D.f D.fd ["_law_rows", "_law_others"] sp_law_alike := by
  refine D.F.ok sc_law_alike (fun vs H Q E h => ?_) (fun cdv A outer s H vs Q E hr h => ?_)
  · obtain ⟨a, b, rs, rfl, _⟩ := h
    rfl
  · obtain ⟨a, b, rs, rfl, ha, hb, okd, hl, hll, q⟩ := h
    refine ⟨_, (pss_one (ps_ret (pe_cmpR (op_eqD hr.units) (pe_lc (own := [("_law_deeds", 3)]) (g := gName 3) (tt := tYes) rfl sc_law_alike.nd (pi_list (pv 0)) (blkOk_by (N := ["_law_rows", "_law_others", "_law_deed", "_law_deeds"]) (sc := defScope s_law_alike) (by decide +kernel)) (fun _ _ _ _ _ => pg_name (i := 3) sc_law_alike.nd rfl (Or.inl rfl)) (fun _ _ _ _ _ => pts_nil) (fun _ _ _ _ _ => (pe_lc (own := [("_law_deed", 2)]) (g := gName 2) (tt := tYes) rfl sc_law_alike.nd ((Kr.it_listK (K := K)) (pv 3)) (blkOk_by (N := ["_law_rows", "_law_others", "_law_deed", "_law_deeds"]) (sc := ({ kind := PySem.ScopeKind.function, names := [(PySem.Str.ofString ".0", PySem.NameKind.local), (PySem.Str.ofString "_law_deeds", PySem.NameKind.local)], isGenerator := false, isCoroutine := false, more := [] : PySem.Scope })) (by decide +kernel)) (fun _ _ _ _ _ => pg_name (i := 2) sc_law_alike.nd rfl (Or.inl rfl)) (fun _ _ _ _ _ => pts_nil) (fun _ _ _ _ _ => (pe_callTy (Kr.list_ofK (K := K)) (by rfl) m_list (by decide +kernel) (pa_cons (pv 2) pa_nil)))))) (pe_lc (own := [("_law_deeds", 3)]) (g := gName 3) (tt := tYes) rfl sc_law_alike.nd (pi_list (pv 1)) (blkOk_by (N := ["_law_rows", "_law_others", "_law_deed", "_law_deeds"]) (sc := defScope s_law_alike) (by decide +kernel)) (fun _ _ _ _ _ => pg_name (i := 3) sc_law_alike.nd rfl (Or.inl rfl)) (fun _ _ _ _ _ => pts_nil) (fun _ _ _ _ _ => (pe_lc (own := [("_law_deed", 2)]) (g := gName 2) (tt := tYes) rfl sc_law_alike.nd ((Kr.it_listK (K := K)) (pv 3)) (blkOk_by (N := ["_law_rows", "_law_others", "_law_deed", "_law_deeds"]) (sc := ({ kind := PySem.ScopeKind.function, names := [(PySem.Str.ofString ".0", PySem.NameKind.local), (PySem.Str.ofString "_law_deeds", PySem.NameKind.local)], isGenerator := false, isCoroutine := false, more := [] : PySem.Scope })) (by decide +kernel)) (fun _ _ _ _ _ => pg_name (i := 2) sc_law_alike.nd rfl (Or.inl rfl)) (fun _ _ _ _ _ => pts_nil) (fun _ _ _ _ _ => (pe_callTy (Kr.list_ofK (K := K)) (by rfl) m_list (by decide +kernel) (pa_cons (pv 2) pa_nil)))))) (nomark _)))), ?_⟩
    have turn : ∀ {as : List Addr} {D1 : Addr} {H0 : Hp} {i : Nat} {x : V} {H' : Hp} {σ : L2.St}, (as.map V.ref)[i]? = some x → Paired (DeedsAt H0) as rs → H0 D1 = none → Same H0 H' → σ[3]? = some (some x) → (wipe σ [2])[3]? = some (some x) → 2 < σ.length →
        ∀ es : List Addr, H' D1 = some (.lst (es.map V.ref)) → Paired (ListsAt K (Cut (· = D1) H')) es (rs.take i) →
        tLc (iList K (tVar 3)) (gName 2) tYes (tCB (fun xs H Q => ∃ p ys, xs = [V.ref p] ∧ (SqL K H p ys ∨ SqT K H p ys) ∧ ∀ l : Addr, H l = none → Q (.ref l) (upd H l (.lst ys))) (tCons (tVar 2) tNil)) [2] σ H' fun y H4 =>
        ∃ acc, H4 D1 = some (HO.lst acc) ∧ acc.length < sizeLine ∧ Same H0 (upd H4 D1 (HO.lst (acc ++ [y]))) ∧
          ∃ es, upd H4 D1 (HO.lst (acc ++ [y])) D1 = some (HO.lst (es.map V.ref)) ∧ Paired (ListsAt K (Cut (· = D1) (upd H4 D1 (HO.lst (acc ++ [y]))))) es (rs.take (i + 1)) := by
      intro as D1 H0 i x H' σ hx hp nD s1 k1 k2 k3 es hD hP
      obtain ⟨e, rfl, he⟩ := refs_at hx
      obtain ⟨ds, hd, hda⟩ := paired_at hp he
      have dm := List.mem_of_getElem? hd
      have there : ∀ b, b = D1 → ∃ o, H' b = some o := fun b z => by rw [z]; exact ⟨_, hD⟩
      have inC : Same H0 (Cut (· = D1) H') := fun b o z => cut_iff.mpr ⟨ne_of_none z nD, s1 _ _ z⟩
      refine lists_row (M := (· = D1)) (ds := ds) 3 2 k2 there (hda.mono inC) (okd ds dm) (hll ds dm) k3 (fun L H4 s2 nL hL => ⟨_, s2 _ _ hD, ?_, ?_, es ++ [L], ?_, ?_⟩) k1
      · rw [List.length_map, hP.length, List.length_take]
        exact Nat.lt_of_le_of_lt (by omega : _ ≤ 1000000) (by decide)
      · intro b o z
        rw [upd_ne (ne_of_none z nD)]
        exact s2 _ _ (s1 _ _ z)
      · rw [upd_same, List.map_append]
        rfl
      · rw [take_snoc hd]
        have g : Same (Cut (· = D1) H4) (Cut (· = D1) (upd H4 D1 (.lst (es.map V.ref ++ [.ref L])))) := cut_upd rfl
        exact paired_snoc (Paired.mono (fun a b z => (z.mono (cut_same s2)).mono g) hP) (hL.mono g)
    obtain ⟨as, ha1, ha2⟩ := ha
    obtain ⟨bs, hb1, hb2⟩ := hb
    refine ⟨_, rfl, a, rfl, ⟨_, SqL.of ha1⟩, fun D1 n1 => lc_list (K := K) (a := a) (xs := as.map V.ref) (fun i H' => Same H H' ∧ ∃ es : List Addr, H' D1 = some (.lst (es.map V.ref)) ∧ Paired (ListsAt K (Cut (· = D1) H')) es (rs.take i)) ⟨same_new n1, [], upd_same, .nil⟩
      (fun i H' _ h => SqL.of (h.1 _ _ ha1)) ?_ ?_⟩
    · rintro i x H' hx ⟨s1, es, hD, hP⟩
      exact ⟨rfl, turn hx ha2 n1 s1 rfl rfl (by show 2 < 4; decide) es hD hP⟩
    · rintro H1 ⟨s1, es, hD, hP⟩
      have hb3 := s1 _ _ hb1
      refine ⟨_, rfl, b, rfl, ⟨_, SqL.of hb3⟩, fun D2 n2 => lc_list (K := K) (a := b) (xs := bs.map V.ref) (fun i H' => Same H1 H' ∧ ∃ es : List Addr, H' D2 = some (.lst (es.map V.ref)) ∧ Paired (ListsAt K (Cut (· = D2) H')) es (rs.take i)) ⟨same_new n2, [], upd_same, .nil⟩
        (fun i H' _ h => SqL.of (h.1 _ _ hb3)) ?_ ?_⟩
      · rintro i x H' hx ⟨s2, es2, hD2, hP2⟩
        exact ⟨rfl, turn hx (Paired.mono (fun a ds z => z.mono s1) hb2) n2 s2 rfl rfl (by show 2 < 4; decide) es2 hD2 hP2⟩
      · rintro H2 ⟨s2, es2, hD2, hP2⟩
        have ea : rs.take (as.map V.ref).length = rs := by rw [List.length_map, ha2.length, List.take_length]
        have eb : rs.take (bs.map V.ref).length = rs := by rw [List.length_map, hb2.length, List.take_length]
        rw [ea] at hP
        rw [eb] at hP2
        have d1 : Dp K H2 (.ref D1) (rsD rs) := .lst (SqL.of (s2 _ _ hD)) (dp_paired (Paired.mono (fun a ds z => (z.mono ((cut_to _ _).trans s2)).dp) hP))
        have d2 : Dp K H2 (.ref D2) (rsD rs) := .lst (SqL.of hD2) (dp_paired (Paired.mono (fun a ds z => (z.mono (cut_to _ _)).dp) hP2))
        have sh := (rsD_sd okd).shaped (by decide)
        refine ⟨_, _, d1, d2, sh, sh, ?_⟩
        rw [(eqv_iff _ _ (rsD_plain okd) (rsD_plain okd)).mpr rfl]
        exact q H2 (s1.trans s2)
end
end Kt

namespace Kt
open PySem PySem.Spec PyProof.Rows L2 GxR Kr
section
variable {P : Program} {w : World} {K : PySem.W.Frag} {mg : Str → Option Value} {base : Heap}
theorem ok_law_refused_by_any {F : Foot} {C : Er → Addr} {k : Nat} (D : Def K mg "_law_refused_by_any" s_law_refused_by_any ["_law_rows"]) (D_walked : Def K mg "walked" s_walked ["rows"]) (G_walked : FnOk P w K mg base (L2.CX P w) k D_walked.f D_walked.fd ["rows"] (sp_walked F C)) (ER : Errs K C S10)
    (G_DealError : mg "DealError" = some (.ref (C .deal))) (G_NoDealing : mg "NoDealing" = some (.ref (C .noDealing))) (G_Over : mg "Over" = some (.ref (C .over))) (G_NoName : mg "NoName" = some (.ref (C .noName))) (G_NoValue : mg "NoValue" = some (.ref (C .noValue)))
    (G_NoMark : mg "NoMark" = some (.ref (C .noMark))) (G_Taken : mg "Taken" = some (.ref (C .taken))) (G_Late : mg "Late" = some (.ref (C .late))) (G_Crossed : mg "Crossed" = some (.ref (C .crossed)))
    (m_isinstance : mg "isinstance" = none) (m_ValueError : mg "ValueError" = none) : FnOk P w K mg base CX0 (k + 1) D.f D.fd ["_law_rows"] (sp_law_refused_by_any F) := by
  refine D.F.ok sc_law_refused_by_any (fun vs H Q E h => ?_) (fun cdv A outer s H vs Q E hr h => ?_)
  · obtain ⟨a, d, rfl, _⟩ := h
    rfl
  · obtain ⟨a, rs, rfl, fw, ha, okd, fit, l1, l2, nr, q⟩ := h
    refine ⟨_, (pss_cons (ps_try_as (i := 1) rfl rfl sc_law_refused_by_any.nd rfl rfl ⟨rfl, by decide, .inl G_DealError⟩ takes_none5 (fun W pn xe tk _ => (pss_one (ps_expr (pe_callS G_walked (hr.mono (by omega)) (by rfl) D_walked.g D_walked.F.kp D_walked.b (fun σ => passAt tk σ) (pa_cons (pv 0) pa_nil)))))
      (fun a oe cls d pn hz hf => pss_when (D := C .unlike) (fun hz => (pss_cons (ps_set (i := 2) sc_law_refused_by_any.nd rfl (.inl rfl) (pe_lst (pa_cons (pe_callB (isEK (K := K) (ER.own _ (by decide)) hz hf) (by rfl) m_isinstance (by decide +kernel) (pa_cons (pv 1) (pa_cons (pe_glob (v := .ref (C .noDealing)) rfl G_NoDealing rfl) pa_nil))) (pa_cons (pe_callB (isEK (K := K) (ER.own _ (by decide)) hz hf) (by rfl) m_isinstance (by decide +kernel) (pa_cons (pv 1) (pa_cons (pe_glob (v := .ref (C .over)) rfl G_Over rfl) pa_nil))) (pa_cons (pe_callB (isEK (K := K) (ER.own _ (by decide)) hz hf) (by rfl) m_isinstance (by decide +kernel) (pa_cons (pv 1) (pa_cons (pe_glob (v := .ref (C .noName)) rfl G_NoName rfl) pa_nil))) (pa_cons (pe_callB (isEK (K := K) (ER.own _ (by decide)) hz hf) (by rfl) m_isinstance (by decide +kernel) (pa_cons (pv 1) (pa_cons (pe_glob (v := .ref (C .noValue)) rfl G_NoValue rfl) pa_nil))) pa_nil))))))
      (pss_cons (ps_set (i := 2) sc_law_refused_by_any.nd rfl (.inl rfl) (pe_op op_cat (pv 2) (pe_lst (pa_cons (pe_callB (isEK (K := K) (ER.own _ (by decide)) hz hf) (by rfl) m_isinstance (by decide +kernel) (pa_cons (pv 1) (pa_cons (pe_glob (v := .ref (C .noMark)) rfl G_NoMark rfl) pa_nil))) (pa_cons (pe_callB (isEK (K := K) (ER.own _ (by decide)) hz hf) (by rfl) m_isinstance (by decide +kernel) (pa_cons (pv 1) (pa_cons (pe_glob (v := .ref (C .taken)) rfl G_Taken rfl) pa_nil))) (pa_cons (pe_callB (isEK (K := K) (ER.own _ (by decide)) hz hf) (by rfl) m_isinstance (by decide +kernel) (pa_cons (pv 1) (pa_cons (pe_glob (v := .ref (C .late)) rfl G_Late rfl) pa_nil))) (pa_cons (pe_callB (isEK (K := K) (ER.own _ (by decide)) hz hf) (by rfl) m_isinstance (by decide +kernel) (pa_cons (pv 1) (pa_cons (pe_glob (v := .ref (C .crossed)) rfl G_Crossed rfl) pa_nil))) pa_nil)))))))
      (pss_one (ps_ret (pe_and (pe_callB (isEK (K := K) (ER.own _ (by decide)) hz hf) (by rfl) m_isinstance (by decide +kernel) (pa_cons (pv 1) (pa_cons (pe_bltn (by rfl) m_ValueError (by decide +kernel) (v := .ty "ValueError") rfl) pa_nil))) (pe_one (pe_cmpR op_eq (bmK (K := K) PySem.F.plainAttrs_list PySem.F.slot_list_count PySem.F.type_list_count (cntK (K := K)) (pv 2) (pa_cons pe_bl pa_nil)) pe_int (nomark _))))))))) hz))
      (pss_one (ps_ret pe_bl))), ?_⟩
    refine ⟨_, rfl, a, rs, rfl, fw, ha, okd, fit, l1, l2, fun h => absurd h nr, fun _ H1 on => ⟨true, ER.exm .unlike (by decide) .deal (by decide), fun _ e he => ⟨⟨rfl, rfl⟩, ?_⟩, fun z => Bool.noConfusion z⟩⟩
    refine ⟨_, rfl, _, _, _, rfl, rel_ref, ER.kit _ (by decide) _ (by decide), ?_⟩
    refine ⟨_, rfl, _, _, _, rfl, rel_ref, ER.kit _ (by decide) _ (by decide), ?_⟩
    refine ⟨_, rfl, _, _, _, rfl, rel_ref, ER.kit _ (by decide) _ (by decide), ?_⟩
    refine ⟨_, rfl, _, _, _, rfl, rel_ref, ER.kit _ (by decide) _ (by decide), ⟨small_line (by show 4 ≤ 1000000; decide), fun p1 n1 => ?_⟩⟩
    refine ⟨_, rfl, ?_⟩
    refine ⟨_, rfl, _, _, _, rfl, rel_ref, ER.kit _ (by decide) _ (by decide), ?_⟩
    refine ⟨_, rfl, _, _, _, rfl, rel_ref, ER.kit _ (by decide) _ (by decide), ?_⟩
    refine ⟨_, rfl, _, _, _, rfl, rel_ref, ER.kit _ (by decide) _ (by decide), ?_⟩
    refine ⟨_, rfl, _, _, _, rfl, rel_ref, ER.kit _ (by decide) _ (by decide), ⟨small_line (by show 4 ≤ 1000000; decide), fun p2 n2 => ?_⟩⟩
    refine ⟨p1, p2, _, _, rfl, rfl, (same_new n2) _ _ upd_same, upd_same, small_line (by show 8 ≤ 1000000; decide), fun p3 n3 => ?_⟩
    refine ⟨_, rfl, _, _, _, rfl, rel_ty, ER.val _ (by decide), ?_⟩
    refine ⟨_, rfl, iteT ⟨_, rfl, .inl ⟨rfl, _, SqL.of upd_same⟩, p3, _, _, rfl, rfl, SqL.of upd_same, rfl, rfl, rfl, ?_⟩⟩
    exact q _
end
end Kt


namespace Kt
open PySem PySem.Spec PyProof.Rows L2 GxR Kr
section
variable {P : Program} {w : World} {K : PySem.W.Frag} {mg : Str → Option Value} {base : Heap}
def sp_law (F : Foot) (K : PySem.W.Frag) : Sp := fun vs H Q _ => ∃ (a : Addr) (ns : List Int), vs = [.ref a] ∧ F.W H ∧ SqL K H a (ns.map V.int) ∧ ∀ H', Q (.bl true) H'
theorem ok_law {F : Foot} {C : Er → Addr} {k : Nat} (D : Def K mg "law" s_law ["_law_script"]) (D_law_cell_at : Def K mg "_law_cell_at" s_law_cell_at ["_law_script", "_law_k"]) (D_law_whole : Def K mg "_law_whole" s_law_whole ["_law_found"])
    (D_law_mixed : Def K mg "_law_mixed" s_law_mixed ["_law_number"]) (D_law_name_by : Def K mg "_law_name_by" s_law_name_by ["_law_cell"]) (D_law_twin : Def K mg "_law_twin" s_law_twin ["_law_name", "_law_cell"])
    (D_law_pool : Def K mg "_law_pool" s_law_pool ["_law_one", "_law_two"]) (D_law_value_by : Def K mg "_law_value_by" s_law_value_by ["_law_cell"]) (D_law_same : Def K mg "_law_same" s_law_same ["_law_told", "_law_due"])
    (D_law_pairs : Def K mg "_law_pairs" s_law_pairs ["_law_told", "_law_due"]) (D_law_last : Def K mg "_law_last" s_law_last ["_law_puts"]) (D_law_told_under : Def K mg "_law_told_under" s_law_told_under ["_law_left", "_law_own", "_law_head"])
    (D_law_deed_by : Def K mg "_law_deed_by" s_law_deed_by ["_law_left", "_law_puts", "_law_pool_here", "_law_more", "_law_cell"]) (D_law_spoiled : Def K mg "_law_spoiled" s_law_spoiled ["_law_deed", "_law_way"])
    (D_law_rows_by : Def K mg "_law_rows_by" s_law_rows_by ["_law_cells", "_law_pool_here"]) (D_law_alike : Def K mg "_law_alike" s_law_alike ["_law_rows", "_law_others"]) (D_law_copied : Def K mg "_law_copied" s_law_copied ["_law_deed"])
    (D_law_refused_by_any : Def K mg "_law_refused_by_any" s_law_refused_by_any ["_law_rows"]) (D_walked : Def K mg "walked" s_walked ["rows"]) (G_walked : FnOk P w K mg base (L2.CX P w) k D_walked.f D_walked.fd ["rows"] (sp_walked F C)) (ER : Errs K C S10)
    (G_DealError : mg "DealError" = some (.ref (C .deal))) (G_NoDealing : mg "NoDealing" = some (.ref (C .noDealing))) (G_Over : mg "Over" = some (.ref (C .over))) (G_NoName : mg "NoName" = some (.ref (C .noName))) (G_NoValue : mg "NoValue" = some (.ref (C .noValue)))
    (G_NoMark : mg "NoMark" = some (.ref (C .noMark))) (G_Taken : mg "Taken" = some (.ref (C .taken))) (G_Late : mg "Late" = some (.ref (C .late))) (G_Crossed : mg "Crossed" = some (.ref (C .crossed))) (G_Unlike : mg "Unlike" = some (.ref (C .unlike)))
    (m_isinstance : mg "isinstance" = none) (m_ValueError : mg "ValueError" = none) (m_len : mg "len" = none) (m_range : mg "range" = none) (m_list : mg "list" = none) (m_int : mg "int" = none) (m_bool : mg "bool" = none)
    (m_str : mg "str" = none) (m_tuple : mg "tuple" = none) (m_dict : mg "dict" = none) (m_sorted : mg "sorted" = none) (m_reversed : mg "reversed" = none) (m_enumerate : mg "enumerate" = none) :
    FnOk P w K mg base CX0 (k + 4) D.f D.fd ["_law_script"] (sp_law F K) := by
  have G_law_cell_at := ok_law_cell_at (P := P) (w := w) (base := base) D_law_cell_at m_len
  have G_law_pool := ok_law_pool (P := P) (w := w) (base := base) D_law_pool D_law_name_by D_law_twin D_law_mixed m_range m_len m_str
  have G_law_pairs := ok_law_pairs (P := P) (w := w) (base := base) D_law_pairs D_law_same D_law_whole m_isinstance m_int m_bool m_list m_tuple m_str m_len m_range
  have G_law_told_under := ok_law_told_under (P := P) (w := w) (base := base) D_law_told_under m_dict m_sorted m_len
  have G_law_rows_by := ok_law_rows_by (P := P) (w := w) (base := base) D_law_rows_by D_law_mixed D_law_deed_by D_law_last D_law_told_under D_law_value_by m_dict m_sorted m_len m_enumerate
  have G_law_spoiled := ok_law_spoiled (P := P) (w := w) (base := base) D_law_spoiled m_int m_list m_len m_reversed
  have G_law_alike := ok_law_alike (P := P) (w := w) (base := base) D_law_alike m_list
  have G_law_copied := ok_law_copied (P := P) (w := w) (base := base) D_law_copied m_list
  have G_law_refused_by_any := ok_law_refused_by_any (P := P) (w := w) (base := base) D_law_refused_by_any D_walked G_walked ER G_DealError G_NoDealing G_Over G_NoName G_NoValue G_NoMark G_Taken G_Late G_Crossed m_isinstance m_ValueError
  refine D.F.ok sc_law (fun vs H Q E h => ?_) (fun cdv A outer s H vs Q E hr h => ?_)
  · obtain ⟨a, ns, rfl, _⟩ := h
    rfl
  · obtain ⟨a, ns, rfl, fw, hS, q⟩ := h
    refine ⟨_, (pss_cons (ps_set (i := 1) sc_law.nd rfl (.inl rfl) (pe_call G_law_pool (hr.mono (by omega)) (by rfl) D_law_pool.g D_law_pool.F.kp D_law_pool.b .nil pass0 (pa_cons (pe_call G_law_cell_at (hr.mono (by omega)) (by rfl) D_law_cell_at.g D_law_cell_at.F.kp D_law_cell_at.b .nil pass0 (pa_cons (pv 0) (pa_cons pe_int pa_nil))) (pa_cons (pe_call G_law_cell_at (hr.mono (by omega)) (by rfl) D_law_cell_at.g D_law_cell_at.F.kp D_law_cell_at.b .nil pass0 (pa_cons (pv 0) (pa_cons pe_int pa_nil))) pa_nil))))
      (pss_cons (ps_set (i := 2) sc_law.nd rfl (.inl rfl) (pe_call G_law_rows_by (hr.mono (by omega)) (by rfl) D_law_rows_by.g D_law_rows_by.F.kp D_law_rows_by.b .nil pass0 (pa_cons (pe_slice sl_list (pv 0) (po_some pe_int) (po_some pe_int)) (pa_cons (pv 1) pa_nil))))
      (pss_cons (ps_set (i := 3) sc_law.nd rfl (.inl rfl) (pe_ix ix_tup (pv 2) pe_int (fun _ _ => rfl)))
      (pss_cons (ps_set (i := 4) sc_law.nd rfl (.inl rfl) (pe_lst pa_nil))
      (C8.pss_cut (ps_for PassesOwn.never rfl (pi_enum (by rfl) m_enumerate (pa_cons (pv 3) pa_nil)) (pg_tup rfl (pgs_cons (pg_name (i := 5) sc_law.nd rfl (.inr rfl)) (pgs_cons (pg_name (i := 6) sc_law.nd rfl (.inr rfl)) pgs_nil)))
        (pss_one (ps_set (i := 4) sc_law.nd rfl (.inl rfl) (pe_op op_cat (pv 4) (pe_lc (own := [("_law_k", 14)]) (g := gName 14) rfl sc_law.nd (pi_range1 (by rfl) m_range (pa_cons (pe_callB call_len_seq (by rfl) m_len PySem.boot_len (pa_cons (pv 6) pa_nil)) pa_nil)) (blkOk_by (N := ["_law_script", "_law_pool_here", "_law_made", "_law_rows", "_law_spots", "_law_j", "_law_deeds", "_law_good", "_law_spot", "_law_deed", "_law_handed", "_law_found", "_law_refused", "_law_due", "_law_k"]) (sc := defScope s_law) (by decide +kernel)) (fun _ _ _ _ _ => pg_name (i := 14) sc_law.nd rfl (Or.inl rfl)) (fun _ _ _ _ _ => (pts_one (pt_cmpR (Kr.in_seqK (K := K)) (pe_ix (Kr.ix_tupK (K := K)) (pe_ix (Kr.ix_listK (K := K)) (pv 6) (pv 14) (fun _ _ => rfl)) pe_int (fun _ _ => rfl)) (pe_tup (pa_cons pe_str (pa_cons pe_str pa_nil))) (by rfl)))) (fun _ _ _ _ _ => (pe_tup (pa_cons (pv 5) (pa_cons (pv 14) pa_nil)))))))))
      (pss_cons (ps_set (i := 7) sc_law.nd rfl (.inl rfl) pe_bl)
      (C8.pss_cut (ps_if (PW.pt (pw_and (pt_cmpR (op_neD hr.units) (pv 4) (pe_lst pa_nil) (nomark _)) (pw_and1 (pt_cmpR op_eq (pe_op op_mod (pe_op op_fdiv (pe_call G_law_cell_at (hr.mono (by omega)) (by rfl) D_law_cell_at.g D_law_cell_at.F.kp D_law_cell_at.b .nil pass0 (pa_cons (pv 0) (pa_cons pe_int pa_nil))) pe_int) pe_int) pe_int (nomark _))))) (pss_cons (ps_set (i := 8) sc_law.nd rfl (.inl rfl) (pe_ix ix_list (pv 4) (pe_op op_modN (pe_op op_fdiv (pe_call G_law_cell_at (hr.mono (by omega)) (by rfl) D_law_cell_at.g D_law_cell_at.F.kp D_law_cell_at.b .nil pass0 (pa_cons (pv 0) (pa_cons pe_int pa_nil))) pe_int) (pe_callB call_len_seq (by rfl) m_len PySem.boot_len (pa_cons (pv 4) pa_nil))) (fun _ _ => rfl)))
      (pss_cons (ps_set (i := 9) sc_law.nd rfl (.inl rfl) (pe_ix ix_list (pe_ix ix_list (pv 3) (pe_ix ix_tup (pv 8) pe_int (fun _ _ => rfl)) (fun _ _ => rfl)) (pe_ix ix_tup (pv 8) pe_int (fun _ _ => rfl)) (fun _ _ => rfl)))
      (pss_cons (ps_asg (pe_call G_law_spoiled (hr.mono (by omega)) (by rfl) D_law_spoiled.g D_law_spoiled.F.kp D_law_spoiled.b .nil pass0 (pa_cons (pv 9) (pa_cons (pe_call G_law_cell_at (hr.mono (by omega)) (by rfl) D_law_cell_at.g D_law_cell_at.F.kp D_law_cell_at.b .nil pass0 (pa_cons (pv 0) (pa_cons pe_int pa_nil))) pa_nil))) (pg_sub (pe_ix ix_list (pv 3) (pe_ix ix_tup (pv 8) pe_int (fun _ _ => rfl)) (fun _ _ => rfl)) (pe_ix ix_tup (pv 8) pe_int (fun _ _ => rfl)) set_list))
      (pss_one (ps_set (i := 7) sc_law.nd rfl (.inl rfl) (pe_cmpR (op_eqD hr.units) (pe_ix ix_list (pe_ix ix_list (pv 3) (pe_ix ix_tup (pv 8) pe_int (fun _ _ => rfl)) (fun _ _ => rfl)) (pe_ix ix_tup (pv 8) pe_int (fun _ _ => rfl)) (fun _ _ => rfl)) (pv 9) (nomark _))))))) pss_nil)
      (C8.pss_cut (ps_setLc (i := 10) (own := [("_law_deeds", 6)]) (g := gName 6) (tt := tYes) rfl sc_law.nd rfl rfl (sw_true rfl rfl rfl (by decide +kernel)) (pi_list (pv 3)) (blkOk_by (N := ["_law_script", "_law_pool_here", "_law_made", "_law_rows", "_law_spots", "_law_j", "_law_deeds", "_law_good", "_law_spot", "_law_deed", "_law_handed", "_law_found", "_law_refused", "_law_due", "_law_k"]) (sc := defScope s_law) (by decide +kernel)) (fun _ _ _ _ _ => pg_name (i := 6) sc_law.nd rfl (Or.inl rfl)) (fun _ _ _ _ _ => pts_nil) (fun _ _ _ _ _ => (pe_lc (own := [("_law_deed", 9)]) (g := gName 9) (tt := tYes) rfl sc_law.nd ((Kr.it_listK (K := K)) (pv 6)) (blkOk_by (N := ["_law_script", "_law_pool_here", "_law_made", "_law_rows", "_law_spots", "_law_j", "_law_deeds", "_law_good", "_law_spot", "_law_deed", "_law_handed", "_law_found", "_law_refused", "_law_due", "_law_k"]) (sc := ({ kind := PySem.ScopeKind.function, names := [(PySem.Str.ofString ".0", PySem.NameKind.local), (PySem.Str.ofString "_law_deeds", PySem.NameKind.local)], isGenerator := false, isCoroutine := false, more := [] : PySem.Scope })) (by decide +kernel)) (fun _ _ _ _ _ => pg_name (i := 9) sc_law.nd rfl (Or.inl rfl)) (fun _ _ _ _ _ => pts_nil) (fun _ _ _ _ _ => (pe_call G_law_copied (hr.mono (by omega)) (by rfl) D_law_copied.g D_law_copied.F.kp D_law_copied.b .nil pass0 (pa_cons (pv 9) pa_nil))))))
      (C8.pss_cut (ps_if (pt_not (pt_val (pe_call G_law_pairs (hr.mono (by omega)) (by rfl) D_law_pairs.g D_law_pairs.F.kp D_law_pairs.b .nil pass0 (pa_cons (pe_call G_walked (hr.mono (by omega)) (by rfl) D_walked.g D_walked.F.kp D_walked.b .nil passF (pa_cons (pe_lst pa_nil) pa_nil)) (pa_cons (pe_lst pa_nil) pa_nil))))) (pss_one (ps_ret pe_bl)) pss_nil)
      (pss_cons (ps_set (i := 11) sc_law.nd rfl (.inl rfl) pe_non)
      (pss_cons (ps_set (i := 12) sc_law.nd rfl (.inl rfl) pe_bl)
      (C8.pss_cut (ps_try_only rfl rfl ⟨rfl, by decide, .inl G_Unlike⟩ takes_none5 (fun W pn xe tk _ => (pss_one (ps_set (i := 11) sc_law.nd rfl (.inl rfl) (pe_callS G_walked (hr.mono (by omega)) (by rfl) D_walked.g D_walked.F.kp D_walked.b (fun σ => passAt tk σ) (pa_cons (pv 10) pa_nil)))))
      (fun a oe cls d pn hz hf => (pss_one (ps_set (i := 12) sc_law.nd rfl (.inl rfl) pe_bl))))
      (C8.pss_cut (ps_if (PW.pt (pw_or (pt_not (pt_val (pe_call G_law_alike (hr.mono (by omega)) (by rfl) D_law_alike.g D_law_alike.F.kp D_law_alike.b .nil pass0 (pa_cons (pv 10) (pa_cons (pv 3) pa_nil))))) (pw_or1 (pt_not (pt_val (pe_call G_law_pairs (hr.mono (by omega)) (by rfl) D_law_pairs.g D_law_pairs.F.kp D_law_pairs.b .nil pass0 (pa_cons (pe_call G_walked (hr.mono (by omega)) (by rfl) D_walked.g D_walked.F.kp D_walked.b .nil passF (pa_cons (pe_lst pa_nil) pa_nil)) (pa_cons (pe_lst pa_nil) pa_nil)))))))) (pss_one (ps_ret pe_bl)) pss_nil)
      (C8.pss_cut (ps_if (pt_not (pt_val (pv 7))) (pss_one (ps_ret (pe_and (pv 12) (pe_one (pe_call G_law_refused_by_any (hr.mono (by omega)) (by rfl) D_law_refused_by_any.g D_law_refused_by_any.F.kp D_law_refused_by_any.b .nil pass0 (pa_cons (pv 10) pa_nil)))))) pss_nil)
      (pss_cons (ps_set (i := 13) sc_law.nd rfl (.inl rfl) (pe_call G_law_told_under (hr.mono (by omega)) (by rfl) D_law_told_under.g D_law_told_under.F.kp D_law_told_under.b .nil pass0 (pa_cons (pe_ix ix_tup (pv 2) pe_int (fun _ _ => rfl)) (pa_cons pe_dnewK (pa_cons pe_str pa_nil)))))
      (pss_one (ps_ret (pe_and (pe_not (pv 12)) (pe_and (pe_call G_law_pairs (hr.mono (by omega)) (by rfl) D_law_pairs.g D_law_pairs.F.kp D_law_pairs.b .nil pass0 (pa_cons (pv 11) (pa_cons (pv 13) pa_nil))) (pe_one (pe_call G_law_pairs (hr.mono (by omega)) (by rfl) D_law_pairs.g D_law_pairs.F.kp D_law_pairs.b .nil pass0 (pa_cons (pe_call G_walked (hr.mono (by omega)) (by rfl) D_walked.g D_walked.F.kp D_walked.b .nil passF (pa_cons (pv 10) pa_nil)) (pa_cons (pv 13) pa_nil))))))))))))))))))))))), ?_⟩
    have cellAt : ∀ (j : Nat) (H' : Hp) (σ : L2.St) (R : VK), σ[0]? = some (some (.ref a)) → Same H H' → R (.int (cellOf ns j)) H' → tCall (spCell K) [] E0 (tCons (tVar 0) (tCons (tC (.int (j : Nat))) tNil)) σ H' R :=
      fun j H' σ R h0 hs hR => ⟨_, h0, a, ns, j, rfl, hs.seq hS, hR⟩
    refine cellAt 0 _ _ _ rfl (Same.refl H) ?_
    refine cellAt 1 _ _ _ rfl (Same.refl H) ⟨_, _, rfl, fun po zs H1 s1 npo hpo => ?_⟩
    refine ⟨_, rfl, 2, rfl, 82, rfl, a, _, rfl, s1.seq hS, fun c nc => ?_⟩
    have ec := cutV_ints ns (some 2) (some 82)
    have sc := same_new (o := .lst (cutV (ns.map V.int) (some 2) (some 82))) nc
    have hc := upd_same (H := H1) (a := c) (o := .lst (cutV (ns.map V.int) (some 2) (some 82)))
    generalize upd H1 c (.lst (cutV (ns.map V.int) (some 2) (some 82))) = H2 at sc hc ⊢
    rw [ec] at hc
    refine ⟨_, rfl, c, po, _, zs, rfl, SqL.of hc, ⟨sc _ _ hpo.at', hpo.lo, hpo.hi, hpo.ok⟩, ?_, fun t R L p as rows m ps H3 B nt ht mk => ?_⟩
    · have e2 : HT.sIx ns.length 0 (some 2) = min 2 ns.length := HT.sIx_nat _ _ 2
      have e3 : HT.sIx ns.length ns.length (some 82) = min 82 ns.length := HT.sIx_nat _ _ 82
      rw [List.length_take, e2, e3]
      omega
    have s3 := s1.trans (sc.trans B.same)
    refine ⟨_, rfl, t, _, _, _, rfl, rfl, SqT.of ht, atI_nat (j := 0) rfl, small_line (by show 0 ≤ 1000000; decide), fun sp nsp => ?_⟩
    have B4 := B.on (same_new (o := .lst []) nsp)
    have s4 := s3.trans (same_new (o := .lst []) nsp)
    have ht4 := (same_new (o := .lst []) nsp) _ _ ht
    have hsp : SpotsAt (upd H3 sp (.lst [])) sp [] := ⟨[], upd_same, .nil⟩
    generalize upd H3 sp (.lst []) = H4 at B4 s4 ht4 hsp ⊢
    -- the spots
    refine ⟨fun σ H' => Same H4 H' ∧ ∃ (sp : Addr) (sl : List (Nat × Nat)) (k1 k2 : Option V), SpotsAt H' sp sl ∧ (∀ q ∈ sl, Spot rows q) ∧ sl.length ≤ 1000000 ∧
      σ = [some (.ref a), some (.ref po), some (.ref t), some (.ref R), some (.ref sp), k1, k2, none, none, none, none, none, none, none, none], ?_, ?_⟩
    · refine ⟨_, rfl, R, as.map V.ref, rfl, SqL.of B4.hR, for_it walk_enum (fun i σ H' => Same H4 H' ∧ ∃ (sp : Addr) (sl : List (Nat × Nat)) (k1 k2 : Option V), SpotsAt H' sp sl ∧ (∀ q ∈ sl, Spot rows q) ∧ sl.length ≤ 1000 * i ∧
        σ = [some (.ref a), some (.ref po), some (.ref t), some (.ref R), some (.ref sp), k1, k2, none, none, none, none, none, none, none, none]) ⟨Same.refl H4, sp, [], none, none, hsp, (fun q h => by cases h), Nat.zero_le _, rfl⟩
        (fun i σ H' _ h => SqL.of (h.1 _ _ B4.hR)) ?_ ?_⟩
      · rintro i x σ H5 H6 hi ⟨s5, sp, sl, k1, k2, hsp, hsl, hln, rfl⟩ ⟨T, x1, x2, rfl, nT, rfl, e1, e2⟩
        obtain ⟨r, rfl, hr1⟩ := refs_at e2
        cases Option.some.inj e1
        obtain ⟨ds, hds, es, hr2, hes⟩ := paired_at B4.row hr1
        have sT := same_new (o := .tup [.int (i : Nat), .ref r]) nT
        refine ⟨T, [.int (i : Nat), .ref r], rfl, .inl (.inl upd_same), rfl, .int (i : Nat), [.ref r], rfl, .ref r, [], rfl, rfl, ?_⟩
        have s6 := s5.trans sT
        have hsp6 := hsp.mono sT
        generalize upd H5 T (.tup [.int (i : Nat), .ref r]) = H6 at s6 hsp6 ⊢
        have hr6 := s6 _ _ hr2
        have hl6 : ds.length ≤ 300 := mk.ld ds (List.mem_of_getElem? hds)
        have hes2 := hes.length
        refine ⟨_, rfl, _, rfl, r, _, rfl, .inl (SqL.of hr6), _, rfl, ?_, ?_, fun D nD => ?_⟩
        · rw [List.length_map]
          omega
        · rw [List.length_map]
          omega
        refine lc_range (lo := 0) (n := _) (fun i' H' => Same H6 H' ∧ ∃ (es2 : List Addr) (sl2 : List (Nat × Nat)), H' D = some (.lst (es2.map V.ref)) ∧ Paired (fun (e : Addr) (q : Nat × Nat) => Cut (· = D) H' e = some (.tup [.int (q.1 : Nat), .int (q.2 : Nat)])) es2 sl2 ∧ (∀ q ∈ sl2, Spot rows q) ∧ sl2.length ≤ i')
          ⟨same_new nD, [], [], upd_same, .nil, (fun q h => by cases h), Nat.zero_le _⟩ ?_ ?_
        · rintro i' H' hi' ⟨s7, es2, sl2, hD, hP, hsl2, hln2⟩
          have hi3 : i' < es.length := by
            rw [List.length_map] at hi'
            omega
          obtain ⟨e, he⟩ : ∃ e, es[i']? = some e := ⟨_, List.getElem?_eq_getElem hi3⟩
          obtain ⟨d, hd, hda⟩ := paired_at hes he
          have hda2 : DeedAt H' e d := (hda.mono ((cut_to _ _).trans ((fresh_to _ _).trans (s6.trans s7))))
          obtain ⟨nm, rest, hnm, hcase⟩ := deed_name hda2
          refine ⟨rfl, _, rfl, _, rfl, r, _, _, _, rfl, rfl, SqL.of (s7 _ _ hr6), at_of (Int.zero_add _) (by rw [List.getElem?_map, he]; rfl), e, _, _, _, rfl, rfl, SqT.of hnm, atI_nat (j := 0) rfl, small_line (by show 2 ≤ 1000000; decide), fun tp ntp => ?_⟩
          have s8 := same_new (o := .tup [.str (Str.ofString "read"), .str (Str.ofString "under")]) ntp
          refine ⟨tp, _, rfl, .inr (SqT.of upd_same), rfl, rfl, _, rfl, ?_⟩
          have sD : Same (Cut (· = D) H') (Cut (· = D) (upd H' tp (.tup [.str (Str.ofString "read"), .str (Str.ofString "under")]))) := cut_same s8
          have hD8 := s8 _ _ hD
          have s78 := s7.trans s8
          generalize upd H' tp (.tup [.str (Str.ofString "read"), .str (Str.ofString "under")]) = H8 at sD hD8 s78 ⊢
          rcases hcase with ⟨hin, hrd⟩ | hin
          · rw [hin]
            refine iteT ⟨_, rfl, _, rfl, small_line (by show 2 ≤ 1000000; decide), fun q nq => ?_⟩
            have s9 := same_new (o := .tup [.int (i : Nat), .int (0 + (i' : Nat))]) nq
            have nqD : q ≠ D := fun z => by
              rw [z, hD8] at nq
              cases nq
            refine ⟨_, s9 _ _ hD8, ?_, ?_, es2 ++ [q], sl2 ++ [(i, i')], ?_, ?_, ?_, ?_⟩
            · rw [List.length_map, hP.length]
              exact Nat.lt_of_le_of_lt (by omega : _ ≤ 1000000) (by decide)
            · intro c o z
              rw [upd_ne (ne_of_none z nD)]
              exact s9 _ _ (s78 _ _ z)
            · rw [upd_same, List.map_append]
              rfl
            · have g : Same (Cut (· = D) H8) (Cut (· = D) (upd (upd H8 q (.tup [.int (i : Nat), .int (0 + (i' : Nat))])) D (.lst (es2.map V.ref ++ [.ref q])))) := fun c o z => cut_upd (M := (· = D)) rfl c o (cut_same s9 c o z)
              refine paired_snoc (Paired.mono (fun a b z => g _ _ (sD _ _ z)) hP) (cut_iff.mpr ⟨nqD, ?_⟩)
              rw [upd_ne nqD, upd_same, Int.zero_add]
            · intro x hx
              rcases List.mem_append.mp hx with h | h
              · exact hsl2 x h
              · rw [List.mem_singleton.mp h]
                exact ⟨ds, d, hds, hd, hrd (mk.ok ds (List.mem_of_getElem? hds) d (List.mem_of_getElem? hd))⟩
            · rw [List.length_append]
              show sl2.length + 1 ≤ i' + 1
              omega
          · rw [hin]
            exact iteF ⟨s78, es2, sl2, hD8, Paired.mono (fun a b z => sD _ _ z) hP, hsl2, by omega⟩
        · rintro H7 ⟨s7, es2, sl2, hD, hP, hsl2, hln2⟩
          have e7 : ((((es.map V.ref).length : Nat) : Int)).toNat = es.length := by rw [List.length_map, Int.toNat_natCast]
          rw [e7] at hln2
          obtain ⟨es1, h1, h2⟩ := hsp6
          refine ⟨sp, D, _, _, rfl, rfl, s7 _ _ h1, hD, ?_, fun y ny => ⟨s6.trans (s7.trans (same_new ny)), y, sl ++ sl2, _, _, ⟨es1 ++ es2, by rw [upd_same, List.map_append], ?_⟩, ?_, ?_, rfl⟩⟩
          · rw [List.length_map, List.length_map, h2.length, hP.length]
            have h3 := mk.lr
            have h4 := List.length_map (as := as) V.ref
            have h5 := B4.row.length
            exact small_line (by omega)
          · exact paired_app (Paired.mono (fun a b z => (s7.trans (same_new ny)) _ _ z) h2) (Paired.mono (fun a b z => (same_new ny) _ _ (cut_iff.mp z).2) hP)
          · intro x hx
            rcases List.mem_append.mp hx with h | h
            · exact hsl x h
            · exact hsl2 x h
          · rw [List.length_append]
            omega
      · rintro σ H5 ⟨s5, sp, sl, k1, k2, hsp, hsl, hln, rfl⟩
        rw [List.length_map, B4.row.length] at hln
        have h2 := mk.lr
        exact ⟨s5, sp, sl, k1, k2, hsp, hsl, by omega, rfl⟩
    rintro σ1 H5 ⟨s5, sp, sl, k1, k2, hsp, hsl, hln, rfl⟩
    have B5 := B4.on s5
    have S5 := s4.trans s5
    have ht5 := s5 _ _ ht4
    -- one reading another
    refine ⟨fun σ H' => ∃ (good : Bool) (rows2 : List (List Deed)) (k3 k4 : Option V), RB H2 H' R L p as rows2 m ps ∧ (∀ ds ∈ rows2, ∀ d ∈ ds, DeedOk d) ∧ RowsFit rows2 ∧ rows2.length ≤ 300 ∧ (∀ ds ∈ rows2, ds.length ≤ 300) ∧
      (good = true → rows2 = rows) ∧ (good = false → ¬ RowsRight noLeft rows2) ∧ H' t = some (.tup [.ref R, .ref L]) ∧ H' po = some (.lst (zs.map V.str)) ∧
      σ = [some (.ref a), some (.ref po), some (.ref t), some (.ref R), some (.ref sp), k1, k2, some (.bl good), k3, k4, none, none, none, none, none], ?_, ?_⟩
    · have okR : ∀ ds ∈ rows, ∀ d ∈ ds, DeedOk d := fun ds h d h2 => (mk.ok ds h d h2).ok
      have leave : ∀ {H' : Hp}, Same H5 H' → ∃ (good : Bool) (rows2 : List (List Deed)) (k3 k4 : Option V), RB H2 H' R L p as rows2 m ps ∧ (∀ ds ∈ rows2, ∀ d ∈ ds, DeedOk d) ∧ RowsFit rows2 ∧ rows2.length ≤ 300 ∧ (∀ ds ∈ rows2, ds.length ≤ 300) ∧
          (good = true → rows2 = rows) ∧ (good = false → ¬ RowsRight noLeft rows2) ∧ H' t = some (.tup [.ref R, .ref L]) ∧ H' po = some (.lst (zs.map V.str)) ∧
          [some (.ref a), some (.ref po), some (.ref t), some (.ref R), some (.ref sp), k1, k2, some (.bl true), none, none, none, none, none, none, none] =
          [some (.ref a), some (.ref po), some (.ref t), some (.ref R), some (.ref sp), k1, k2, some (.bl good), k3, k4, none, none, none, none, none] := fun s => ⟨true, rows, none, none, B5.on s, okR, mk.fit, mk.lr, mk.ld, fun _ => rfl, (fun h => by cases h), s _ _ ht5, (B5.on s).same _ _ (sc _ _ hpo.at'), rfl⟩
      refine ⟨_, rfl, small_line (by show 0 ≤ 1000000; decide), fun p2 n2 => ?_⟩
      have s6 := same_new (o := .lst []) n2
      refine ⟨_, _, (hsp.mono s6).dp, .lst (SqL.of upd_same) .nil, (slD_sd sl).shaped (by decide), rfl, ?_⟩
      rw [slD_nil]
      by_cases hsl0 : sl = []
      · rw [decide_eq_true hsl0]
        exact ⟨_, rfl, iteF (iteF (leave s6))⟩
      rw [decide_eq_false hsl0]
      refine ⟨_, rfl, iteT (cellAt 0 _ _ _ rfl (S5.trans s6) ⟨_, _, rfl, rfl, ⟨by decide, by decide⟩, _, _, rfl, rfl, (by show (0 : Int) < 3; decide), rfl, _, rfl, ite2 (fun e => ?_) (fun e => ?_)⟩)⟩
      · obtain ⟨sa, hs1, hs2⟩ := hsp.mono s6
        have n0 : 0 < sl.length := List.length_pos_iff.mpr hsl0
        have hal : (sa.map V.ref).length = sl.length := by rw [List.length_map, hs2.length]
        have k0 : 0 ≤ (cellOf ns 1 / 7).fmod ((sa.map V.ref).length : Int) := by
          rw [hal, Int.fmod_eq_emod_of_nonneg _ (by omega)]
          exact Int.emod_nonneg _ (by omega)
        have k9 : (cellOf ns 1 / 7).fmod ((sa.map V.ref).length : Int) < (sl.length : Int) := by
          rw [hal, Int.fmod_eq_emod_of_nonneg _ (by omega)]
          exact Int.emod_lt_of_pos _ (by omega)
        obtain ⟨n, hn⟩ : ∃ n : Nat, (cellOf ns 1 / 7).fmod ((sa.map V.ref).length : Int) = (n : Int) := ⟨_, (Int.toNat_of_nonneg k0).symm⟩
        have nl : n < sa.length := by
          rw [List.length_map] at hal
          omega
        obtain ⟨qa, hqa⟩ : ∃ qa, sa[n]? = some qa := ⟨_, List.getElem?_eq_getElem nl⟩
        obtain ⟨q0, hq0, hqt⟩ := paired_at hs2 hqa
        obtain ⟨ds, d, hds, hd, hrd⟩ := hsl q0 (List.mem_of_getElem? hq0)
        have S6 := S5.trans s6
        have B6 := B5.on s6
        have ht6 := s6 _ _ ht5
        generalize upd H5 p2 (.lst []) = H6 at s6 hs1 hs2 hqt S6 B6 ht6 ⊢
        obtain ⟨r, hr1, hrow⟩ := paired_get B6.row hds
        obtain ⟨es, hr2, hes⟩ := hrow
        obtain ⟨c0, hc0, hda⟩ := paired_get hes hd
        have ar : atI (as.map V.ref) (q0.1 : Nat) = some (.ref r) := atI_nat (by rw [List.getElem?_map, hr1]; rfl)
        refine ⟨_, rfl, cellAt 1 _ _ _ rfl S6 ⟨_, _, rfl, rfl, ⟨by decide, by decide⟩, _, rfl, sp, _, rfl, .inl (SqL.of hs1), _, _, rfl, rfl, (by rw [hal]; omega), sp, _, _, _, rfl, rfl, SqL.of hs1, at_of hn (by rw [List.getElem?_map, hqa]; rfl), ?_⟩⟩
        refine ⟨_, rfl, _, rfl, qa, _, _, _, rfl, rfl, SqT.of hqt, atI_nat (j := 0) rfl, R, _, _, _, rfl, rfl, SqL.of B6.hR, ar, _, rfl, qa, _, _, _, rfl, rfl, SqT.of hqt, atI_nat (j := 1) rfl, r, _, _, _, rfl, rfl, SqL.of hr2, atI_nat (by rw [List.getElem?_map, hc0]; rfl), ?_⟩
        -- it is spoiled
        have dfine := mk.ok ds (List.mem_of_getElem? hds) d (List.mem_of_getElem? hd)
        refine ⟨_, rfl, cellAt 1 _ _ _ rfl S6 ⟨fun b => Mu R L p as b ∨ ∃ o, H2 b = some o, c0, d, _, rfl, ?_, ?_, dfine.ok, hrd, fun u d' H7 s7 nu hu oku sk => ?_⟩⟩
        · rintro b (h | ⟨o, h⟩)
          · exact B6.there b h
          · exact ⟨o, B6.same _ _ h⟩
        · refine hda.mono fun b o h => cut_iff.mpr ⟨fun z => ?_, (fresh_iff.mp (cut_iff.mp h).2).2⟩
          rcases z with z | ⟨o2, z⟩
          · exact (cut_iff.mp h).1 z
          · rw [(fresh_iff.mp (cut_iff.mp h).2).1] at z
            cases z
        have B7 := B6.on s7
        have hu7 : DeedAt (Cut (Mu R L p as) (Fresh H2 H7)) u d' := hu.mono fun b o h => cut_iff.mpr ⟨fun z => (cut_iff.mp h).1 (.inl z), fresh_iff.mpr ⟨by
          cases e9 : H2 b with
          | none => rfl
          | some o2 => exact absurd (.inr ⟨o2, e9⟩) (cut_iff.mp h).1, (cut_iff.mp h).2⟩⟩
        obtain ⟨es7, hr7, les7, B8⟩ := B7.swap (k := q0.2) hr1 hds hu7
        have qa7 := s7 _ _ hqt
        have kq : q0.2 < es7.length := by
          rw [les7]
          exact (List.getElem?_eq_some_iff.mp hd).1
        refine ⟨_, rfl, _, rfl, qa, _, _, _, rfl, rfl, SqT.of qa7, atI_nat (j := 0) rfl, R, _, _, _, rfl, rfl, SqL.of B7.hR, ar, _, rfl, qa, _, _, _, rfl, rfl, SqT.of qa7, atI_nat (j := 1) rfl, r, _, _, q0.2, rfl, rfl, hr7, ?_, ?_⟩
        · exact ix_nat (by rw [List.length_map]; exact kq)
        rw [← List.map_set]
        have hu8 : DeedAt (upd H7 r (.lst ((es7.set q0.2 u).map V.ref))) u d' := by
          refine (hu7.mono ((cutF_upd (.inr (.inr (.inr (List.mem_of_getElem? hr1)))))) ).mono ((cut_to _ _).trans (fresh_to _ _))
        have rne : ∀ {b : Addr} {xs : List V}, H7 b = some (.tup xs) → b ≠ r := fun h z => by
          rw [z, hr7] at h
          cases h
        have qa8 : upd H7 r (.lst ((es7.set q0.2 u).map V.ref)) qa = some (.tup [.int (q0.1 : Nat), .int (q0.2 : Nat)]) := by
          rw [upd_ne (rne qa7)]
          exact qa7
        have hc8 : DeedAt (upd H7 r (.lst ((es7.set q0.2 u).map V.ref))) c0 d := ((B7.row |> fun _ => hda.mono (cutF_same s7)).mono (cutF_upd (.inr (.inr (.inr (List.mem_of_getElem? hr1)))))).mono ((cut_to _ _).trans (fresh_to _ _))
        refine ⟨_, rfl, _, rfl, qa, _, _, _, rfl, rfl, SqT.of qa8, atI_nat (j := 0) rfl, R, _, _, _, rfl, rfl, SqL.of B8.hR, ar, _, rfl, qa, _, _, _, rfl, rfl, SqT.of qa8, atI_nat (j := 1) rfl, r, _, _, _, rfl, rfl, SqL.of upd_same, atI_nat (by rw [List.getElem?_map, List.getElem?_set_self kq]; rfl), _, rfl, _, _, hu8.dp oku, hc8.dp dfine.ok, deed_tuple oku, deed_tuple dfine.ok, ?_⟩
        have ok2 : ∀ ds_1 ∈ rows.set q0.1 (ds.set q0.2 d'), ∀ e ∈ ds_1, DeedOk e := fun x hx e he => by
          rcases List.mem_or_eq_of_mem_set hx with h | h
          · exact okR x h e he
          · rw [h] at he
            rcases List.mem_or_eq_of_mem_set he with h2 | h2
            · exact okR ds (List.mem_of_getElem? hds) e h2
            · rw [h2]
              exact oku
        have ld2 : ∀ ds_1 ∈ rows.set q0.1 (ds.set q0.2 d'), ds_1.length ≤ 300 := fun x hx => by
          rcases List.mem_or_eq_of_mem_set hx with h | h
          · exact mk.ld x h
          · rw [h, List.length_set]
            exact mk.ld ds (List.mem_of_getElem? hds)
        have ht8 : upd H7 r (.lst ((es7.set q0.2 u).map V.ref)) t = some (.tup [.ref R, .ref L]) := by
          rw [upd_ne (rne (s7 _ _ ht6))]
          exact s7 _ _ ht6
        by_cases hdd : d' = d
        · rw [deed_eqv oku dfine.ok (b := true) (by simp [hdd])]
          refine ⟨true, _, _, _, B8, ok2, rowsFit_set sk hds hd mk.fit, by rw [List.length_set]; exact mk.lr, ld2, fun _ => ?_, (fun h => by cases h), ht8, B8.same _ _ (sc _ _ hpo.at'), rfl⟩
          rw [hdd, set_at_same hd, set_at_same hds]
        · rw [deed_eqv oku dfine.ok (b := false) (by simp [hdd])]
          exact ⟨false, _, _, _, B8, ok2, rowsFit_set sk hds hd mk.fit, by rw [List.length_set]; exact mk.lr, ld2, (fun h => by cases h), fun _ h => hdd (rowsRight_set sk hds hd mk.right h), ht8, B8.same _ _ (sc _ _ hpo.at'), rfl⟩
      · exact leave s6
    rintro σ2 H6 ⟨good, rows2, k3, k4, B6, ok6, fit6, lr6, ld6, hg1, hg2, ht6, hpo6, rfl⟩
    have S6 := (s1.trans sc).trans B6.same
    have fw6 := F.keep H H6 (fun b hb => by
      obtain ⟨o, ho⟩ := F.has H b fw hb
      rw [ho, S6 _ _ ho]) fw
    obtain ⟨hR6, hL6⟩ := B6.out (M := F.M) (fun b hb => by
      obtain ⟨o, ho⟩ := F.has H b fw hb
      exact ⟨o, (s1.trans sc) _ _ ho⟩)
    have ht7 : Cut F.M H6 t = some (.tup [.ref R, .ref L]) := new_cut (fun b hb => by
      obtain ⟨o, ho⟩ := F.has H b fw hb
      exact ⟨o, (s1.trans sc) _ _ ho⟩) nt ht6
    have hM6 : ∀ b, F.M b → ∃ o, H6 b = some o := fun b hb => F.has H6 b fw6 hb
    -- handed
    refine ⟨fun σ H' => On F H6 H' ∧ ∃ h : Addr, RowsAt (Cut F.M H') h rows2 ∧ 
      σ = [some (.ref a), some (.ref po), some (.ref t), some (.ref R), some (.ref sp), k1, k2, some (.bl good), k3, k4, some (.ref h), none, none, none, none], ?_, ?_⟩
    · obtain ⟨rs, hr1, hr2⟩ := hR6
      have hr3 := (cut_iff.mp hr1).2
      refine ⟨_, rfl, R, rfl, ⟨_, SqL.of hr3⟩, fun D1 n1 => lc_list (K := K) (a := R) (xs := rs.map V.ref) (fun i H' => Same H6 H' ∧ ∃ es : List Addr, H' D1 = some (.lst (es.map V.ref)) ∧ Paired (DeedsAt (Cut (fun b => F.M b ∨ b = D1) H')) es (rows2.take i)) ⟨same_new n1, [], upd_same, .nil⟩
        (fun i H' _ h => SqL.of (h.1 _ _ hr3)) ?_ ?_⟩
      · rintro i x H' hx ⟨s7, es, hD, hP⟩
        obtain ⟨e, rfl, he⟩ := refs_at hx
        obtain ⟨ds, hd, hda⟩ := paired_at hr2 he
        have hM2 : ∀ b, F.M b ∨ b = D1 → ∃ o, H' b = some o := fun b z => by
          rcases z with z | z
          · obtain ⟨o, ho⟩ := hM6 b z
            exact ⟨o, s7 _ _ ho⟩
          · rw [z]
            exact ⟨_, hD⟩
        have g1 : Same (Cut F.M H6) (Cut (fun b => F.M b ∨ b = D1) H') := fun b o z => by
          refine cut_iff.mpr ⟨fun y => ?_, s7 _ _ (cut_iff.mp z).2⟩
          rcases y with y | y
          · exact (cut_iff.mp z).1 y
          · have z2 := (cut_iff.mp z).2
            rw [y, n1] at z2
            cases z2
        refine ⟨rfl, ?_⟩
        unfold tYes
        refine iteT ?_
        refine copy_row (M := fun b => F.M b ∨ b = D1) (ds := ds) 6 9 rfl hM2 (hda.mono g1) (Nat.le_trans (ld6 ds (List.mem_of_getElem? hd)) (by decide)) (by show 9 < 15; decide) (fun L2 H4 s8 nL hL => ⟨_, s8 _ _ hD, ?_, ?_, es ++ [L2], ?_, ?_⟩) rfl
        · rw [List.length_map, hP.length, List.length_take]
          exact Nat.lt_of_le_of_lt (by omega : _ ≤ 1000000) (by decide)
        · intro b o z
          rw [upd_ne (ne_of_none z n1)]
          exact s8 _ _ (s7 _ _ z)
        · rw [upd_same, List.map_append]
          rfl
        · rw [take_snoc hd]
          have g : Same (Cut (fun b => F.M b ∨ b = D1) H4) (Cut (fun b => F.M b ∨ b = D1) (upd H4 D1 (.lst (es.map V.ref ++ [.ref L2])))) := cut_upd (.inr rfl)
          exact paired_snoc (Paired.mono (fun a b z => (z.mono (cut_same s8)).mono g) hP) (hL.mono g)
      · rintro H7 ⟨s7, es, hD, hP⟩
        have el : rows2.take (rs.map V.ref).length = rows2 := by rw [List.length_map, hr2.length, List.take_length]
        rw [el] at hP
        refine ⟨On.of fw6 s7, D1, ⟨es, new_cut hM6 n1 hD, Paired.mono (fun a b z => z.mono fun c o y => cut_iff.mpr ⟨fun x => (cut_iff.mp y).1 (.inl x), (cut_iff.mp y).2⟩) hP⟩, rfl⟩
    rintro σ3 H7 ⟨o7, h, hh, rfl⟩
    -- no rows leave no pairs
    have none_pairs : ∀ {H' : Hp} {σ : L2.St} (R' : VK), On F H6 H' → (∀ H'' : Hp, On F H' H'' → R' (.bl true) H'') →
        tCall sp_law_pairs [] E0 (tCons (tCall (sp_walked F C) [] (fun _ _ _ => False) (tCons (tLst tNil) tNil)) (tCons (tLst tNil) tNil)) σ H' R' := by
      intro H' σ R' o q'
      refine ⟨small_line (by show 0 ≤ 1000000; decide), fun b nb => ?_⟩
      have sb := same_new (o := .lst []) nb
      have ob := On.of (F := F) o.w sb
      refine ⟨b, [], rfl, ob.w, ⟨[], new_cut (fun c hc => F.has H' c o.w hc) nb upd_same, .nil⟩, (fun x h => by cases h), trivial, Nat.zero_le _, (fun x h => by cases h), fun _ p2 ps2 H8 o8 hp2 ht2 => ?_, fun n => absurd trivial n⟩
      have e0 : ps2 = [] := by
        cases ps2 with
        | nil => rfl
        | cons x r =>
          have h3 := (ht2.mem x.1 x.2).mp List.mem_cons_self
          exact absurd h3.2.1 (fun z => h3.1 z.symm)
      subst e0
      refine ⟨small_line (by show 0 ≤ 1000000; decide), fun d nd => ?_⟩
      have sd := same_new (o := .lst []) nd
      refine ⟨p2, d, [], [], rfl, (hp2.mono (cut_to _ _)).mono sd, ⟨[], upd_same, .nil⟩, (fun x h => by cases h), (fun x h => by cases h), Nat.zero_le _, ?_⟩
      rw [decide_eq_true rfl]
      exact q' _ (ob.trans (o8.trans (On.of o8.w sd)))
    refine ⟨fun σ H' => On F H7 H' ∧ σ = [some (.ref a), some (.ref po), some (.ref t), some (.ref R), some (.ref sp), k1, k2, some (.bl good), k3, k4, some (.ref h), none, none, none, none], ?_, ?_⟩
    · exact none_pairs _ o7 fun H8 o8 => ⟨_, rfl, iteF ⟨o8, rfl⟩⟩
    rintro σ4 H8 ⟨o8, rfl⟩
    -- walked
    have hh8 := hh.mono o8.s
    refine ⟨fun σ H' => On F H8 H' ∧ ((good = true ∧ ∃ (p9 : Addr) (ps9 : Prs), PairsAt (Cut F.M H') p9 ps9 ∧ IsTold (tells m) "" ps9 ∧
        σ = [some (.ref a), some (.ref po), some (.ref t), some (.ref R), some (.ref sp), k1, k2, some (.bl true), k3, k4, some (.ref h), some (.ref p9), some (.bl false), none, none]) ∨
      (good = false ∧ σ = [some (.ref a), some (.ref po), some (.ref t), some (.ref R), some (.ref sp), k1, k2, some (.bl false), k3, k4, some (.ref h), some .non, some (.bl true), none, none])), ?_, ?_⟩
    · refine ⟨_, rfl, h, rows2, rfl, o8.w, hh8, ok6, fit6, lr6, ld6, fun hrt p9 ps9 H9 o9 hp9 ht9 => ?_, fun hnr H9 o9 => ⟨true, ER.exm .unlike (by decide) .unlike (by decide), fun _ b hb => ?_, fun z => Bool.noConfusion z⟩⟩
      · have hg : good = true := by
          cases good with
          | true => rfl
          | false => exact absurd hrt (hg2 rfl)
        subst hg
        rw [hg1 rfl, mk.left] at ht9
        exact ⟨o9, .inl ⟨rfl, p9, ps9, hp9, ht9, rfl⟩⟩
      · have hg : good = false := by
          cases good with
          | false => rfl
          | true => exact absurd (by rw [hg1 rfl]; exact mk.right) hnr
        subst hg
        exact ⟨o9, .inr ⟨rfl, rfl⟩⟩
    rintro σ5 H9 ⟨o9, hs⟩
    have O9 := o7.trans (o8.trans o9)
    have hR9 : RowsAt H9 R rows2 := (hR6.mono O9.s).mono (cut_to _ _)
    have hh9 : RowsAt H9 h rows2 := (hh8.mono o9.s).mono (cut_to _ _)
    have e10 : σ5[10]? = some (some (.ref h)) ∧ σ5[3]? = some (some (.ref R)) := by
      rcases hs with ⟨_, _, _, _, _, rfl⟩ | ⟨_, rfl⟩ <;> exact ⟨rfl, rfl⟩
    refine ⟨fun σ H' => On F H9 H' ∧ σ = σ5, ?_, ?_⟩
    · refine ⟨_, e10.1, _, e10.2, h, R, rows2, rfl, hh9, hR9, ok6, by omega, (fun ds hd => Nat.le_trans (ld6 ds hd) (by decide)), fun H10 s10 => ⟨_, rfl, iteF ?_⟩⟩
      have o10 := On.of (F := F) o9.w s10
      exact none_pairs _ (O9.trans o10) fun H11 o11 => ⟨_, rfl, iteF ⟨o10.trans o11, rfl⟩⟩
    rintro σ6 H10 ⟨o10, rfl⟩
    have O10 := O9.trans o10
    have hh10 := hh8.mono (o9.s.trans o10.s)
    refine ⟨fun σ H' => good = true ∧ H' = H10 ∧ σ = σ6, ?_, ?_⟩
    · rcases hs with ⟨rfl, _, _, _, _, rfl⟩ | ⟨rfl, rfl⟩
      · exact ⟨_, rfl, _, rfl, iteF ⟨rfl, rfl, rfl⟩⟩
      · refine ⟨_, rfl, _, rfl, iteT ⟨_, rfl, _, rfl, iteT ⟨_, rfl, h, rows2, rfl, o10.w, hh10, ok6, fit6, lr6, ld6, hg2 rfl, fun H' => ?_⟩⟩⟩
        exact q _
    rintro σ7 H11 ⟨rfl, rfl, rfl⟩
    obtain ⟨_, p9, ps9, hp9, ht9, rfl⟩ := hs.resolve_right (fun z => Bool.noConfusion z.1)
    have ht10 := (cut_to _ _) _ _ (O10.s _ _ ht7)
    have hL10 : DictAt H11 L m := (hL6.mono O10.s).mono (cut_to _ _)
    refine ⟨_, rfl, t, _, _, _, rfl, rfl, SqT.of ht10, atI_nat (j := 1) rfl, fun dd ndd => ?_⟩
    have sd := same_new (o := .dK []) ndd
    have lm := mk.lm
    refine ⟨L, dd, m, [], Str.ofString "", rfl, hL10.mono sd, ⟨upd_same, List.nodup_nil⟩, by decide, by show m.length + 0 ≤ 1000000; omega, B6.okm.len, fun p12 ps12 H12 s12 n12 hp12 ht12 _ => ?_⟩
    have e12 : ps12 = ps9 := ht12.unique ht9
    have o12 := On.of (F := F) o10.w (sd.trans s12)
    have okp := told_ok B6.okm ht9
    have vals : ∀ x ∈ ps9, IsVal x.2 := fun x hx => isVal_of (okp x hx).2
    have hq12 : PairsAt (Cut F.M H12) p12 ps12 := hp12.mono (fun b o z => new_cut (fun c hc => F.has _ c (On.of (F := F) o10.w sd).w hc) (fresh_iff.mp z).1 (fresh_iff.mp z).2) 
    have len9 : ps9.length ≤ 1000000 := by
      have h1 := told_len (m := m) (l := []) (ps := ps9) (hd := Str.ofString "") (by rw [← tells_fun]; exact ht9)
      have h2 : ([] : Prs).length = 0 := rfl
      omega
    rw [e12] at hq12
    have hp9b := hp9.mono (o10.s.trans o12.s)
    refine ⟨_, rfl, _, rfl, _, rfl, ?_⟩
    refine iteT ⟨_, rfl, _, rfl, p9, p12, ps9, ps9, rfl, hp9b.mono (cut_to _ _), hq12.mono (cut_to _ _), vals, vals, len9, ?_⟩
    rw [decide_eq_true rfl]
    refine ⟨_, rfl, iteT ⟨_, rfl, h, rows2, rfl, o12.w, hh10.mono o12.s, ok6, fit6, lr6, ld6, fun hrt p13 ps13 H13 o13 hp13 ht13 => ?_, fun n => absurd (by rw [hg1 rfl]; exact mk.right) n⟩⟩
    rw [hg1 rfl, mk.left] at ht13
    have e13 : ps13 = ps9 := ht13.unique ht9
    rw [e13] at hp13
    refine ⟨_, rfl, p13, p12, ps9, ps9, rfl, hp13.mono (cut_to _ _), (hq12.mono o13.s).mono (cut_to _ _), vals, vals, len9, ?_⟩
    rw [decide_eq_true rfl]
    exact q _
end
end Kt


namespace Kt
open PySem PySem.Spec PyProof.Rows L2 GxR Kr
section
variable {P : Program} {w : World} {K : PySem.W.Frag} {mg : Str → Option Value} {base : Heap} {CW : Addr}
theorem ok_is_under (D : Def K mg "is_under" s_is_under ["name", "head"]) : FnOk P w K mg base CX0 1 D.f D.fd ["name", "head"] sp_is_under := by
  refine D.F.ok sc_is_under (fun vs H Q E h => ?_) (fun cdv A outer s H vs Q E hr h => ?_)
  · obtain ⟨a, b, rfl, _⟩ := h
    rfl
  · obtain ⟨a, b, rfl, q⟩ := h
    refine ⟨_, (pss_one (ps_ret (pe_m1 PySem.F.slot_str_startswith PySem.F.type_str_startswith mt_startswith (pv 0) (pv 1)))), ?_⟩
    exact ⟨_, rfl, ⟨_, rfl⟩, _, rfl, _, _, rfl, rfl, q⟩
theorem ok_w_init (T_W : ClW K CW) (D : MkDef K mg CW "Writes" "Writes.__init__" s_Writes___init__ ["self"]) : FnOk P w K mg base CX0 1 D.f D.fd ["self"] (sp_w_init CW) := by
  refine D.F.ok sc_Writes___init__ (fun vs H Q E h => ?_) (fun cdv A outer s H vs Q E hr h => ?_)
  · obtain ⟨wp, dx, rfl, _⟩ := h
    rfl
  · obtain ⟨wp, dx, rfl, hi, q⟩ := h
    refine ⟨_, (pss_cons (ps_fld (pv 0) (pe_lst pa_nil) rfl)
      (pss_one (ps_fld (pv 0) pe_dnewK rfl))), ?_⟩
    refine ⟨Nat.zero_le _, fun st nst => ?_⟩
    have n1 : wp ≠ st := ne_of_none hi nst
    refine ⟨_, rfl, wp, CW, dx, [], rfl, (by rw [upd_ne n1]; exact hi), T_W.cl, T_W.n_standing, (by show 0 < 1000; decide), fun wo nwo => ?_⟩
    have n2 : wp ≠ wo := fun e => by
      rw [← e, upd_same] at nwo
      cases nwo
    have nwo1 : upd H st (.lst []) wo = none := by
      rw [upd_ne n2.symm] at nwo
      exact nwo
    have n3 : st ≠ wo := fun e => by
      rw [← e, upd_same] at nwo1
      cases nwo1
    have nwo0 : H wo = none := by
      rw [upd_ne n3.symm] at nwo1
      exact nwo1
    refine ⟨_, rfl, wp, CW, dx, _, rfl, (by rw [upd_ne n2]; exact upd_same), T_W.cl, T_W.n_worths, (by show 1 < 1000; decide), ?_⟩
    refine q _ (wrA wp st wo []) ⟨fun b o n _ e => ?_, fun b z => ?_, fun b z => ?_⟩ ⟨st, wo, [], ⟨⟨dx, by rw [upd_same]; rfl⟩, by rw [upd_ne n1.symm, upd_ne n3, upd_ne n1.symm]; exact upd_same, ⟨.inl (by rw [upd_ne n2.symm]; exact upd_same), List.nodup_nil, List.nodup_nil, (fun q h => by cases h), fun n _ => rfl⟩, rfl, (fun h => by cases h)⟩, (by rw [upd_ne n2.symm]; exact upd_same), fun b => Iff.rfl⟩
    · rw [upd_ne n, upd_ne (ne_of_none e nwo0), upd_ne n, upd_ne (ne_of_none e nst)]
      exact e
    · rcases z with z | z | z | z
      · exact .inl z
      · exact .inr (by rw [z]; exact nst)
      · exact .inr (by rw [z]; exact nwo0)
      · cases z
    · exact upd_free (upd_free (upd_free (upd_free z)))
theorem ok_w_many (T_W : ClW K CW) (D : MFun K CW "many" "Writes.many" s_Writes_many ["self"]) (m_len : mg "len" = none) : FnOk P w K mg base CX0 1 D.f D.fd ["self"] (sp_w_many CW) := by
  refine D.F.ok sc_Writes_many (fun vs H Q E h => ?_) (fun cdv A outer s H vs Q E hr h => ?_)
  · obtain ⟨wp, st, wo, m, puts, rfl, _⟩ := h
    rfl
  · obtain ⟨wp, st, wo, m, puts, rfl, h, q⟩ := h
    refine ⟨_, (pss_one (ps_ret (pe_callB call_len_seq (by rfl) m_len PySem.boot_len (pa_cons (pe_fld (pv 0) rfl) pa_nil)))), ?_⟩
    obtain ⟨dx, hi⟩ := h.ins
    refine ⟨_, rfl, wp, CW, dx, _, _, rfl, hi, T_W.cl, T_W.n_standing, fsW_standing, st, _, rfl, .inl (SqL.of h.sta), ?_⟩
    rw [List.length_map]
    exact q
theorem ok_w_names (T_W : ClW K CW) (D : MFun K CW "names" "Writes.names" s_Writes_names ["self"]) (m_list : mg "list" = none) : FnOk P w K mg base CX0 1 D.f D.fd ["self"] (sp_w_names CW) := by
  refine D.F.ok sc_Writes_names (fun vs H Q E h => ?_) (fun cdv A outer s H vs Q E hr h => ?_)
  · obtain ⟨wp, st, wo, m, puts, rfl, _⟩ := h
    rfl
  · obtain ⟨wp, st, wo, m, puts, rfl, h, hl, q⟩ := h
    refine ⟨_, (pss_one (ps_ret (pe_callTy (call_listD rfl) (by rfl) m_list (by decide +kernel) (pa_cons (pe_fld (pv 0) rfl) pa_nil)))), ?_⟩
    obtain ⟨dx, hi⟩ := h.ins
    refine ⟨_, rfl, wp, CW, dx, _, _, rfl, hi, T_W.cl, T_W.n_worths, fsW_worths, wo, _, rfl, h.md.at', fun q2 nq => ?_⟩
    refine q _ q2 (same_new nq) nq ?_
    rw [upd_same, dk_strs, mdP_keys, h.key]
theorem ok_w_touches (T_W : ClW K CW) (D : MFun K CW "touches" "Writes.touches" s_Writes_touches ["self", "name"]) : FnOk P w K mg base CX0 1 D.f D.fd ["self", "name"] (sp_w_touches CW) := by
  refine D.F.ok sc_Writes_touches (fun vs H Q E h => ?_) (fun cdv A outer s H vs Q E hr h => ?_)
  · obtain ⟨wp, st, wo, m, puts, n, rfl, _⟩ := h
    rfl
  · obtain ⟨wp, st, wo, m, puts, n, rfl, h, q⟩ := h
    refine ⟨_, (pss_one (ps_ret (pe_cmp (pc_din (hu_of hr) (pv 1) (pe_fld (pv 0) rfl)) rfl))), ?_⟩
    obtain ⟨dx, hi⟩ := h.ins
    refine ⟨_, rfl, _, rfl, wp, CW, dx, _, _, rfl, hi, T_W.cl, T_W.n_worths, fsW_worths, ?_⟩
    rcases h.md.get n with ⟨l, h1, h2, h3⟩ | ⟨h1, h2, h3⟩
    · have e : n ∈ keysOf puts := by
        rw [← h.key]
        exact List.mem_map.mpr ⟨_, h1, rfl⟩
      rw [decide_eq_true e] at q
      exact ⟨wo, _, rfl, h2, q⟩
    · have e : n ∉ keysOf puts := by
        rw [← h.key]
        exact h1
      rw [decide_eq_false e] at q
      exact ⟨wo, _, rfl, h2, q⟩
theorem ok_w_last (T_W : ClW K CW) (D : MFun K CW "last" "Writes.last" s_Writes_last ["self", "name"]) : FnOk P w K mg base CX0 1 D.f D.fd ["self", "name"] (sp_w_last CW) := by
  refine D.F.ok sc_Writes_last (fun vs H Q E h => ?_) (fun cdv A outer s H vs Q E hr h => ?_)
  · obtain ⟨wp, st, wo, m, puts, n, v, rfl, _⟩ := h
    rfl
  · obtain ⟨wp, st, wo, m, puts, n, v, rfl, h, hv, q⟩ := h
    refine ⟨_, (pss_one (ps_ret (pe_ix ix_list (pe_dget (hu_of hr) (pe_fld (pv 0) rfl) (pv 1) (fun _ _ => rfl)) (pe_un un_neg pe_int) (fun _ _ => rfl)))), ?_⟩
    obtain ⟨dx, hi⟩ := h.ins
    refine ⟨_, rfl, wp, CW, dx, _, _, rfl, hi, T_W.cl, T_W.n_worths, fsW_worths, _, rfl, wo, ?_⟩
    rw [last_val] at hv
    rcases h.md.get n with ⟨l, h1, h2, h3⟩ | ⟨h1, h2, h3⟩
    · have ln : valsOf puts n ≠ [] := fun z => by
        rw [z] at hv
        cases hv
      have l0 : 0 < (valsOf puts n).length := List.length_pos_iff.mpr ln
      refine ⟨_, rfl, h2, _, rfl, l, _, _, _, rfl, rfl, SqL.of h3, ?_, q⟩
      rw [List.getLast?_eq_getElem?] at hv
      unfold atI ixN
      rw [if_neg (by omega), if_pos (by omega)]
      show (valsOf puts n)[(-1 + ((valsOf puts n).length : Int)).toNat]? = some v
      rw [show (-1 + ((valsOf puts n).length : Int)).toNat = (valsOf puts n).length - 1 by omega]
      exact hv
    · rw [h3] at hv
      cases hv
theorem ok_w_add (T_W : ClW K CW) (D : MFun K CW "add_write" "Writes.add_write" s_Writes_add_write ["self", "name", "value"]) : FnOk P w K mg base CX0 1 D.f D.fd ["self", "name", "value"] (sp_w_add CW) := by
  refine D.F.ok sc_Writes_add_write (fun vs H Q E h => ?_) (fun cdv A outer s H vs Q E hr h => ?_)
  · obtain ⟨A, wp, n, v, puts, rfl, _⟩ := h
    rfl
  · obtain ⟨A, wp, n, v, puts, rfl, ⟨st, wo, m, h, hwo, hA⟩, hl, q⟩ := h
    refine ⟨_, (pss_cons (ps_expr (pe_bm PySem.F.plainAttrs_list PySem.F.slot_list_append PySem.F.type_list_append mt_append (pe_fld (pv 0) rfl) (pa_cons (pv 1) pa_nil)))
      (pss_one (ps_expr (pe_bm PySem.F.plainAttrs_list PySem.F.slot_list_append PySem.F.type_list_append mt_append (pe_dsetd (pe_fld (pv 0) rfl) (pv 1) (pe_lst pa_nil) ⟨rfl, rfl, rfl, rfl⟩) (pa_cons (pv 2) pa_nil))))), ?_⟩
    obtain ⟨dx, hi⟩ := h.ins
    refine ⟨_, rfl, wp, CW, dx, _, _, rfl, hi, T_W.cl, T_W.n_standing, fsW_standing, .inl ⟨rfl, _, SqL.of h.sta⟩, _, rfl, st, _, _, rfl, rfl, h.sta, ?_, ?_⟩
    · rw [List.length_map]
      exact Nat.lt_of_le_of_lt hl (by decide)
    have n1 : wp ≠ st := fun e => by
      rw [e, h.sta] at hi
      cases hi
    have n2 : wp ≠ wo := fun e => by
      rw [e, hwo] at hi
      cases hi
    have n3 : st ≠ wo := fun e => by
      have h2 := h.sta
      rw [e, hwo] at h2
      cases h2
    have hwo1 : upd H st (.lst ((puts.map fun q => V.str q.1) ++ [V.str n])) wo = some (.dK (dk (mdP m))) := by rw [upd_ne n3.symm]; exact hwo
    refine ⟨_, rfl, wp, CW, dx, _, _, rfl, (by rw [upd_ne n1]; exact hi), T_W.cl, T_W.n_worths, fsW_worths, wo, rfl, .inl ⟨_, .inl hwo1⟩, ?_⟩
    refine ⟨_, rfl, Nat.zero_le _, fun l0 nl0 => ?_⟩
    have c1 : Ch Nob A A H (upd H st (.lst ((puts.map fun q => V.str q.1) ++ [V.str n]))) := Ch.upd ((hA st).mpr (.inr (.inl rfl)))
    have h1 : MD (upd H st (.lst ((puts.map fun q => V.str q.1) ++ [V.str n]))) wo m (valsOf puts) := h.md.frame fun b hb => upd_ne fun z => by
      rcases hb with y | y
      · exact n3 (z.symm.trans y)
      · exact h.sn (by rw [← z]; exact y)
    have hz : m.length < sizeLine := by
      have e1 : m.length ≤ puts.length := by
        have e2 := keysOf_len puts
        rw [← h.key, List.length_map] at e2
        exact e2
      exact Nat.lt_of_le_of_lt (Nat.le_trans e1 hl) (by decide)
    have hst1 := upd_same (H := H) (a := st) (o := .lst ((puts.map fun q => V.str q.1) ++ [V.str n]))
    have hwp1 : upd H st (.lst ((puts.map fun q => V.str q.1) ++ [V.str n])) wp = some (.ins CW dx (wrF st wo)) := by rw [upd_ne n1]; exact hi
    generalize upd H st (.lst ((puts.map fun q => V.str q.1) ++ [V.str n])) = H1 at *
    have hlt : (valsOf puts n).length < sizeLine := by
      rw [valsOf_len]
      have e1 : (puts.map (·.1)).count n ≤ (puts.map (·.1)).length := List.count_le_length
      rw [List.length_map] at e1
      exact Nat.lt_of_le_of_lt (Nat.le_trans e1 hl) (by decide)
    obtain ⟨g1, g2, g3, g4⟩ := setd_add (n := n) h1 hwo1 nl0 hz
    suffices key : ∀ (l : Addr) (H' : Hp) (m' : List (Str × Addr)), Set1 H1 H' wo m m' (valsOf puts) n l → Q .non (upd H' l (.lst (valsOf puts n ++ [v]))) by
      refine ⟨_, (Sum.inr n : Key), g1, rfl, g2, fun u hu => ?_, fun hu => ?_⟩
      · obtain ⟨l, m', rfl, S⟩ := g3 u hu
        exact ⟨.inl ⟨rfl, _, SqL.of S.at'⟩, _, rfl, l, _, _, rfl, rfl, S.at', hlt, key _ _ _ S⟩
      · obtain ⟨m', S⟩ := g4 hu
        exact ⟨.inl ⟨rfl, _, SqL.of S.at'⟩, _, rfl, l0, _, _, rfl, rfl, S.at', hlt, key _ _ _ S⟩
    intro l H' m' S
    have nA : ∀ b, b = wp ∨ b = st → ¬ mdA wo m' b ∧ b ≠ l := fun b hb => by
      have hb1 : ∃ o, H1 b = some o := by
        rcases hb with y | y
        · exact ⟨_, by rw [y]; exact hwp1⟩
        · exact ⟨_, by rw [y]; exact hst1⟩
      have nb0 : ¬ mdA wo m b := fun z => by
        rcases hb with y | y
        · obtain ⟨u, hu, _⟩ := h1.has z
          rcases z with z | z
          · exact n2 (y.symm.trans z)
          · obtain ⟨q2, hq2, e⟩ := List.mem_map.mp z
            have e4 := h1.ls q2 hq2
            rw [show q2.2 = wp from e.trans y, hwp1] at e4
            cases e4
        · rcases z with z | z
          · exact n3 (y.symm.trans z)
          · exact h.sn (by rw [← y]; exact z)
      have nb : ¬ mdA wo m' b := fun z => by
        rcases S.ch.g b z with y | y
        · exact nb0 y
        · obtain ⟨o, ho⟩ := hb1
          rw [y] at ho
          cases ho
      exact ⟨nb, fun z => nb (by rw [z]; exact S.mem.1)⟩
    have at1 : ∀ b, b = wp ∨ b = st → ∀ u, H1 b = some u → upd H' l (.lst (valsOf puts n ++ [v])) b = some u := fun b hb u hu => by
      rw [upd_ne (nA b hb).2]
      refine S.ch.s b u (fun z => ?_) (fun z => z) hu
      have z2 : mdA wo m' b := by
        rcases z with z | z
        · exact .inl z
        · refine .inr ?_
          obtain ⟨q2, hq2, e⟩ := List.mem_map.mp z
          by_cases hn : n ∈ m.map (·.1)
          · exact absurd (show mdA wo m b from .inr z) (fun y => by
              rcases hb with x | x
              · have e4 := h1.ls q2 hq2
                rw [show q2.2 = wp from e.trans x, hwp1] at e4
                cases e4
              · exact h.sn (by rw [← x]; exact z))
          · exact absurd (show mdA wo m b from .inr z) (fun y => by
              rcases hb with x | x
              · have e4 := h1.ls q2 hq2
                rw [show q2.2 = wp from e.trans x, hwp1] at e4
                cases e4
              · exact h.sn (by rw [← x]; exact z))
      exact (nA b hb).1 z2
    obtain ⟨f1, f2⟩ := S.fin (upd H' l (.lst (valsOf puts n ++ [v]))) v upd_same fun b _ hb => upd_ne hb
    refine q _ (wrA wp st wo m') (c1.trans (Ch.ins ((S.ch.trans (Ch.upd S.mem.1)).any Nob) (fun b hb => (hA b).mpr (.inr (.inr hb))) fun b hb => ?_)) ⟨st, wo, m', ⟨⟨dx, at1 wp (.inl rfl) _ hwp1⟩, ?_, ?_, key_mem S h.key, ?_⟩, f2, fun b => Iff.rfl⟩
    · rcases hb with y | y | y
      · exact .inr ((hA b).mpr (.inl y))
      · exact .inr ((hA b).mpr (.inr (.inl y)))
      · exact .inl y
    · rw [List.map_append]
      exact at1 st (.inr rfl) _ hst1
    · rw [valsOf_snoc]
      exact f1
    · exact fun z => (nA st (.inr rfl)).1 (.inr z)
end
end Kt


namespace Kt
open PySem PySem.Spec PyProof.Rows L2 GxR Kr
section
variable {P : Program} {w : World} {K : PySem.W.Frag} {mg : Str → Option Value} {base : Heap} {CW : Addr}
theorem ok_w_told (T_W : ClW K CW) (D : MFun K CW "told" "Writes.told" s_Writes_told ["self", "name", "before"]) (D_Writes_last : MFun K CW "last" "Writes.last" s_Writes_last ["self", "name"]) (D_Writes_touches : MFun K CW "touches" "Writes.touches" s_Writes_touches ["self", "name"]) :
    FnOk P w K mg base CX0 2 D.f D.fd ["self", "name", "before"] (sp_w_told CW) := by
  have G_Writes_last := ok_w_last (P := P) (w := w) (mg := mg) (base := base) T_W D_Writes_last
  have G_Writes_touches := ok_w_touches (P := P) (w := w) (mg := mg) (base := base) T_W D_Writes_touches
  refine D.F.ok sc_Writes_told (fun vs H Q E h => ?_) (fun cdv A outer s H vs Q E hr h => ?_)
  · obtain ⟨wp, st, wo, m, puts, n, v, rfl, _⟩ := h
    rfl
  · obtain ⟨wp, st, wo, m, puts, n, v, rfl, h, q⟩ := h
    refine ⟨_, (pss_one (ps_ret (pe_ifExp (pt_val (pe_meth (pv 0) T_W.cl D_Writes_touches.m G_Writes_touches (hr.mono (by omega)) D_Writes_touches.b .nil pass0 (pa_cons (pv 1) pa_nil))) (pe_meth (pv 0) T_W.cl D_Writes_last.m G_Writes_last (hr.mono (by omega)) D_Writes_last.b .nil pass0 (pa_cons (pv 1) pa_nil)) (pv 2)))), ?_⟩
    obtain ⟨dx, hi⟩ := h.ins
    refine ⟨_, rfl, wp, dx, _, rfl, hi, fsW_no_touches, _, rfl, wp, st, wo, m, puts, n, rfl, h, _, rfl, ?_⟩
    by_cases e : n ∈ keysOf puts
    · rw [decide_eq_true e]
      refine iteT ⟨_, rfl, wp, dx, _, rfl, hi, fsW_no_last, _, rfl, wp, st, wo, m, puts, n, ((valV (putAll [] puts) n).getD v), rfl, h, ?_, q⟩
      cases e2 : valV (putAll [] puts) n with
      | none =>
        exfalso
        rw [last_val] at e2
        exact valsOf_nil.mp (List.getLast?_eq_none_iff.mp e2) e
      | some x => rfl
    · rw [decide_eq_false e]
      refine iteF ⟨_, rfl, ?_⟩
      have e2 : valV (putAll [] puts) n = none := valV_none e
      rw [e2] at q
      exact q
theorem ok_pairs_of (D : Def K mg "pairs_of" s_pairs_of ["values"]) (m_sorted : mg "sorted" = none) : FnOk P w K mg base CX0 1 D.f D.fd ["values"] sp_pairs_of := by
  refine D.F.ok sc_pairs_of (fun vs H Q E h => ?_) (fun cdv A outer s H vs Q E hr h => ?_)
  · obtain ⟨a, m, rfl, _⟩ := h
    rfl
  · obtain ⟨d, m, rfl, hd, hml, hk, q⟩ := h
    refine ⟨_, (pss_one (ps_ret (pe_lc (own := [("name", 1)]) (g := gName 1) rfl sc_pairs_of.nd (pi_list (pe_callB (Kr.cr_sortedDx rfl) (by rfl) m_sorted (by decide +kernel) (pa_cons (pv 0) pa_nil))) (blkOk_by (N := ["values", "name"]) (sc := defScope s_pairs_of) (by decide +kernel)) (fun _ _ _ _ _ => pg_name (i := 1) sc_pairs_of.nd rfl (Or.inl rfl)) (fun _ _ _ _ _ => (pts_one (pt_cmpR op_notN (pe_dget (hu_of hr) (pv 0) (pv 1) (fun _ _ => rfl)) pe_non (nomark _)))) (fun _ _ _ _ _ => (pe_tup (pa_cons (pv 1) (pa_cons (pe_dget (hu_of hr) (pv 0) (pv 1) (fun _ _ => rfl)) pa_nil))))))), ?_⟩
    refine ⟨_, rfl, d, _, m.map (·.1), rfl, Rd.of hd.at', dk_keys _, fun ys p yp up np => ?_⟩
    have s3 := same_new (o := .lst (ys.map V.str)) np
    have d3 := s3 _ _ hd.at'
    have yl : ys.length ≤ m.length := by
      rw [yp.length_eq, List.length_map]
      exact Nat.le_refl _
    have yk : ∀ y ∈ ys, ∃ v, valV m y = some v := fun y hy => by
      obtain ⟨x, hx, ex⟩ := List.mem_map.mp (yp.mem_iff.mp hy)
      subst ex
      exact ⟨x.2, (val_mem hd.nd).mp hx⟩
    have hp0 := upd_same (H := H) (a := p) (o := .lst (ys.map V.str))
    generalize upd H p (.lst (ys.map V.str)) = H4 at *
    refine ⟨p, rfl, ⟨_, SqL.of hp0⟩, fun B nB => ?_⟩
    refine lc_list (K := K) (a := p) (xs := ys.map V.str) (fun i H' => Same H4 H' ∧ ∃ as : List Addr, H' B = some (.lst (as.map V.ref)) ∧
      Paired (fun (a : Addr) (q : Str × V) => Fresh H H' a = some (.tup [.str q.1, q.2])) as (((ys.take i).map fun n => (n, tells m n)).filter fun q => !decide (q.2 = .non)))
      ⟨same_new nB, [], upd_same, .nil⟩ (fun i H' _ h => SqL.of (h.1 _ _ hp0)) ?_ ?_
    · rintro i x H' hx ⟨s6, as, hB, hP⟩
      obtain ⟨y, hy, rfl⟩ : ∃ y, ys[i]? = some y ∧ x = V.str y := by
        rw [List.getElem?_map] at hx
        cases e : ys[i]? with
        | none =>
          rw [e] at hx
          cases hx
        | some y =>
          rw [e] at hx
          exact ⟨y, rfl, (Option.some.inj hx).symm⟩
      have ym := List.mem_of_getElem? hy
      obtain ⟨v, hv⟩ := yk y ym
      have ht : tells m y = v := by
        unfold tells
        rw [hv]
        rfl
      have e1 : ys.take (i + 1) = ys.take i ++ [y] := by rw [List.take_add_one, hy]; rfl
      have g : ∀ {H' : Hp}, H' d = some (.dK (dk m)) → DGet H' d (.str y) (some v) := fun {H'} e => by
        have q := DGet.k (k := (Sum.inr y : Key)) e
        rw [dk_val, hv] at q
        exact q
      refine ⟨rfl, _, rfl, _, rfl, d, v, rfl, g (s6 _ _ d3), rfl, _, rfl, ?_⟩
      by_cases hn : v = .non
      · rw [decide_eq_true hn]
        refine iteF ⟨s6, as, hB, ?_⟩
        rw [e1, List.map_append, List.filter_append]
        show Paired _ as (_ ++ List.filter _ [(y, tells m y)])
        rw [List.filter_cons, ht, decide_eq_true hn]
        show Paired _ as (_ ++ [])
        rw [List.append_nil]
        exact hP
      · rw [decide_eq_false hn]
        refine iteT ⟨_, rfl, _, rfl, _, rfl, d, v, rfl, g (s6 _ _ d3), small_line (by show 2 ≤ 1000000; decide), fun t nt => ?_⟩
        have s7 := s6.trans (same_new (o := .tup [.str y, v]) nt)
        have hB2 := (same_new (o := .tup [.str y, v]) nt) _ _ hB
        have tB : t ≠ B := (ne_of_none hB nt).symm
        refine ⟨_, hB2, ?_, ?_, as ++ [t], ?_, ?_⟩
        · rw [List.length_map, hP.length]
          have h1 := List.length_filter_le (fun q : Str × V => !decide (q.2 = .non)) ((ys.take i).map fun n => (n, tells m n))
          rw [List.length_map, List.length_take] at h1
          exact Nat.lt_of_le_of_lt (by omega : _ ≤ 1000000) (by decide)
        · intro c o e
          rw [upd_ne (ne_of_none e nB)]
          exact s7 c o e
        · rw [upd_same, List.map_append]
          rfl
        · have keep : ∀ c o, c ≠ B → Fresh H H' c = some o → Fresh H (upd (upd H' t (.tup [.str y, v])) B (.lst (as.map V.ref ++ [V.ref t]))) c = some o := fun c o n e => by
            obtain ⟨e1, e2⟩ := fresh_iff.mp e
            refine fresh_iff.mpr ⟨e1, ?_⟩
            rw [upd_ne n, upd_ne (ne_of_none e2 nt)]
            exact e2
          rw [e1, List.map_append, List.filter_append]
          show Paired _ (as ++ [t]) (_ ++ List.filter _ [(y, tells m y)])
          rw [List.filter_cons, ht, decide_eq_false hn]
          refine Paired.snoc (Paired.mono (fun c q e => keep c _ (fun z => ?_) e) hP) ?_
          · have e2 := (fresh_iff.mp e).2
            rw [z, hB] at e2
            cases e2
          · exact fresh_iff.mpr ⟨(s3.trans s6).free nt, by rw [upd_ne tB, upd_same]⟩
    · rintro H6 ⟨s6, as, hB, hP⟩
      rw [List.length_map, List.take_length] at hP
      refine q B _ H6 (s3.trans s6) (s3.free nB) ⟨as, fresh_iff.mpr ⟨s3.free nB, hB⟩, hP⟩ ⟨?_, fun n v => ?_⟩ ?_
      · have h1 : ys.Pairwise Lt := by
          have nd : ys.Nodup := yp.nodup_iff.mpr hd.nd
          exact (up.and nd).imp fun {x y} h => by
            rcases Decidable.em (Lt x y) with z | z
            · exact z
            · exact absurd (Lt.tri z h.1) h.2
        refine List.Pairwise.filter _ (List.pairwise_map.mpr ?_)
        exact h1.imp fun {x y} h => h
      · rw [List.mem_filter, List.mem_map]
        constructor
        · rintro ⟨⟨k, hk1, hk2⟩, hk3⟩
          cases hk2
          exact ⟨by simpa using hk3, rfl, pre_nil _⟩
        · rintro ⟨h1, h2, h3⟩
          refine ⟨⟨n, yp.mem_iff.mpr ?_, by rw [h2]⟩, by simpa using h1⟩
          cases e : valV m n with
          | none =>
            refine absurd ?_ h1
            rw [← h2]
            unfold tells
            rw [e]
            rfl
          | some u => exact val_in e
      · have h1 := List.length_filter_le (fun q : Str × V => !decide (q.2 = .non)) (ys.map fun n => (n, tells m n))
        rw [List.length_map] at h1
        omega
theorem ok_w_told_under (T_W : ClW K CW) (D : MFun K CW "told_under" "Writes.told_under" s_Writes_told_under ["self", "head", "before"]) (D_Writes_last : MFun K CW "last" "Writes.last" s_Writes_last ["self", "name"])
    (D_is_under : Def K mg "is_under" s_is_under ["name", "head"]) (D_pairs_of : Def K mg "pairs_of" s_pairs_of ["values"]) (m_sorted : mg "sorted" = none) :
    FnOk P w K mg base CX0 2 D.f D.fd ["self", "head", "before"] (sp_w_told_under CW) := by
  have G_Writes_last := ok_w_last (P := P) (w := w) (mg := mg) (base := base) T_W D_Writes_last
  have G_is_under := ok_is_under (P := P) (w := w) (base := base) D_is_under
  have G_pairs_of := ok_pairs_of (P := P) (w := w) (base := base) D_pairs_of m_sorted
  refine D.F.ok sc_Writes_told_under (fun vs H Q E h => ?_) (fun cdv A outer s H vs Q E hr h => ?_)
  · obtain ⟨wp, st, wo, bd, wm, puts, m, hd, rfl, _⟩ := h
    rfl
  · obtain ⟨wp, st, wo, bd, wm, puts, m, hd, rfl, h, hwo, hb, hall, hl, hk, hk2, q⟩ := h
    refine ⟨_, (C8.pss_cut (ps_lock (ps_setDc (i := 4) (own := [("name", 3)]) (g := gName 3) (tt := tYes) rfl sc_Writes_told_under.nd rfl rfl (swD_true rfl rfl rfl (by decide +kernel)) (pi_keys (pv 2)) (blkOk_by (N := ["self", "head", "before", "name", "found"]) (sc := defScope s_Writes_told_under) (by decide +kernel)) (fun _ _ _ _ _ => pg_name (i := 3) sc_Writes_told_under.nd rfl (Or.inl rfl)) (fun _ _ _ _ _ => pts_nil) (fun _ _ _ _ _ => (pv 3)) (fun _ _ _ _ _ => (pe_dget (hu_of hr) (pv 2) (pv 3) (fun _ _ => rfl)))))
      (C8.pss_cut (ps_lock (ps_for PassesOwn.never rfl (pi_keys (pe_fld (pv 0) rfl)) (pg_name (i := 3) sc_Writes_told_under.nd rfl (.inl rfl))
        (pss_one (ps_if (pt_val (pe_call G_is_under (hr.mono (by omega)) (by rfl) D_is_under.g D_is_under.F.kp D_is_under.b .nil pass0 (pa_cons (pv 3) (pa_cons (pv 1) pa_nil)))) (pss_one (ps_dput (hu_of hr) (pv 4) (pv 3) (pe_meth (pv 0) T_W.cl D_Writes_last.m G_Writes_last (hr.mono (by omega)) D_Writes_last.b .nil pass0 (pa_cons (pv 3) pa_nil)) rfl)) pss_nil))))
      (pss_one (ps_ret (pe_call G_pairs_of (hr.mono (by omega)) (by rfl) D_pairs_of.g D_pairs_of.F.kp D_pairs_of.b .nil pass0 (pa_cons (pv 4) pa_nil)))))), ?_⟩
    obtain ⟨dx, hi⟩ := h.ins
    refine ⟨fun σ H' => Same H H' ∧ ∃ D, H D = none ∧ H' D = some (.dK (dk m)) ∧ σ = [some (.ref wp), some (.str hd), some (.ref bd), none, some (.ref D)], ⟨bd, _, hb.at', trivial, fun od => ⟨_, rfl, bd, od, rfl, .inl ⟨_, upd_same, fun D nD => ?_⟩⟩⟩, ?_⟩
    · obtain ⟨nD0, nDb⟩ := SameB.lock.new upd_same nD
      refine dc_it walk_keys (fun i H' => SameB bd H H' ∧ H' bd = some (.frz od (.dK (dk m))) ∧ H' D = some (.dK (dk (m.take i)))) ⟨SameB.lock.trans (Same.b (same_new nD) bd), by rw [upd_ne nDb.symm]; exact upd_same, upd_same⟩ (fun i H' _ h => h.2.1) ?_ ?_
      · rintro i x H1 H2 lt ⟨s1, hb1, hD⟩ ⟨rfl, k, v, hk1, rfl⟩
        obtain ⟨n, hn, rfl⟩ := dk_at hk1
        have hv := (val_mem hb.nd).mp (List.mem_of_getElem? hn)
        rw [dk_len] at lt
        refine ⟨rfl, _, rfl, _, rfl, _, rfl, bd, v, rfl, .inl ⟨_, (Sum.inr n : Key), .inr ⟨od, hb1⟩, rfl, by rw [dk_val, hv]⟩, dk (m.take i), (Sum.inr n : Key), rfl, hD, ?_, ?_, ?_, ?_⟩
        · rw [dk_len, List.length_take]
          exact Nat.lt_of_le_of_lt (by omega : _ ≤ 1000000) (by decide)
        · intro b o nb e
          rw [upd_ne (ne_of_none e nD0)]
          exact s1 b o nb e
        · rw [upd_ne nDb.symm]
          exact hb1
        · rw [upd_same, dk_put, putK_new _ (valV_none (keys_take_new hb.nd hn)), List.take_add_one, hn]
          rfl
      · rintro H1 ⟨s1, hb1, hD⟩
        rw [dk_len, List.take_length] at hD
        refine ⟨hb1, s1.open hb.at', D, nD0, by rw [upd_ne nDb]; exact hD, rfl⟩
    rintro σ1 H1 ⟨s1, D, nD, hD, rfl⟩
    have h1 := h.same s1
    have hwo1 := s1 _ _ hwo
    have hi1 := s1 _ _ hi
    have nDw : D ≠ wo := (ne_of_none hwo nD).symm
    have nDA : ∀ b, wrA wp st wo wm b → b ≠ D := fun b hb z => by
      have hx : ∃ o, H b = some o := by
        rcases hb with y | y | y
        · exact ⟨_, by rw [y]; exact hi⟩
        · exact ⟨_, by rw [y]; exact h.sta⟩
        · obtain ⟨u, hu, _⟩ := h.md.has y
          exact ⟨u, hu⟩
      obtain ⟨o, ho⟩ := hx
      rw [z, nD] at ho
      cases ho
    have nwp : wp ≠ wo := fun e => by
      rw [e, hwo] at hi
      cases hi
    have kl : (dk (mdP wm)).length = (keysOf puts).length := by rw [dk_len, mdP_len, ← h.key, List.length_map]
    refine ⟨fun σ H' => Same H H' ∧ H' D = some (.dK (dk (putAll m (overs puts hd (keysOf puts).length)))) ∧ ∃ k, σ = [some (.ref wp), some (.str hd), some (.ref bd), k, some (.ref D)], ?_, ?_⟩
    · refine ⟨wo, _, hwo1, trivial, fun od => ⟨_, rfl, wp, CW, dx, _, _, rfl, by rw [upd_ne nwp]; exact hi1, T_W.cl, T_W.n_worths, fsW_worths, wo, od, rfl, .inl ⟨_, upd_same, ?_⟩⟩⟩
      refine for_it walk_keys (fun i σ H' => (∀ b, b ≠ D → H' b = upd H1 wo (.frz od (.dK (dk (mdP wm)))) b) ∧ H' D = some (.dK (dk (putAll m (overs puts hd i)))) ∧ ∃ k, σ = [some (.ref wp), some (.str hd), some (.ref bd), k, some (.ref D)])
        ⟨fun _ _ => rfl, by rw [upd_ne nDw]; exact hD, none, rfl⟩ (fun i σ H' _ z => by rw [z.1 wo nDw.symm]; exact upd_same) ?_ ?_
      · rintro i x σ H2 H3 lt ⟨k1, hD2, k, rfl⟩ ⟨rfl, kk, v, hk1, rfl⟩
        obtain ⟨n, hn, rfl⟩ := wr_key h hk1
        refine ⟨_, rfl, _, rfl, n, hd, rfl, _, rfl, ?_⟩
        have hW : WrC CW H3 wp st wo wm puts := h1.lock.frame fun b hb => k1 b (nDA b hb)
        have hm : n ∈ keysOf puts := List.mem_of_getElem? hn
        refine ite2 (fun e => ?_) (fun e => ?_)
        · refine ⟨_, rfl, wp, dx, _, rfl, by rw [k1 wp (nDA wp (.inl rfl)), upd_ne nwp]; exact hi1, fsW_no_last, _, rfl, wp, st, wo, wm, puts, n, _, rfl, hW, keysOf_some hm, ?_⟩
          refine ⟨_, rfl, _, rfl, D, _, rfl, DPut.k (k := (Sum.inr n : Key)) hD2 ?_, fun b nb => ?_, ?_, _, rfl⟩
          · rw [dk_len]
            have h5 := putAll_len (overs puts hd i) m
            have h6 := overs_len puts hd i
            exact Nat.lt_of_le_of_lt (by omega : _ ≤ 1000000) (by decide)
          · rw [upd_ne nb]
            exact k1 b nb
          · rw [upd_same, overs_snoc hn, if_pos e, putAll_snoc, dk_put]
        · refine ⟨k1, ?_, _, rfl⟩
          rw [overs_snoc hn, if_neg e]
          exact hD2
      · rintro σ H2 ⟨k1, hD2, k, rfl⟩
        rw [kl] at hD2
        have hw2 : H2 wo = some (.frz od (.dK (dk (mdP wm)))) := by rw [k1 wo nDw.symm]; exact upd_same
        refine ⟨hw2, fun b o e => ?_, by rw [upd_ne nDw]; exact hD2, k, rfl⟩
        by_cases nb : b = wo
        · rw [nb] at e
          rw [nb, upd_same, ← hwo, e]
        · rw [upd_ne nb, k1 b (ne_of_none e nD), upd_ne nb]
          exact s1 _ _ e
    rintro σ2 H2 ⟨s2, hD2, k, rfl⟩
    refine ⟨_, rfl, D, _, rfl, ⟨hD2, putAll_keys _ hb.nd⟩, ?_, fun x hx => ?_, fun p ps H3 s3 np hP ht _ => ?_⟩
    · have h5 := putAll_len (overs puts hd (keysOf puts).length) m
      have h6 := overs_len puts hd (keysOf puts).length
      omega
    · rcases putAll_in hx with z | z
      · exact hk x z
      · unfold overs at z
        obtain ⟨n, hn, rfl⟩ := List.mem_map.mp z
        have h5 := (List.mem_filter.mp hn).1
        rw [List.take_length] at h5
        obtain ⟨y, hy, e⟩ := List.mem_map.mp (keysOf_mem.mp h5)
        rw [← e]
        exact hk2 y hy
    · refine q p ps H3 (s2.trans s3) (s2.free np) (hP.mono fun b o e => ?_) (told_overs hall ht)
      obtain ⟨e1, e2⟩ := fresh_iff.mp e
      exact fresh_iff.mpr ⟨s2.free e1, e2⟩
end
end Kt


namespace Kt
open PySem PySem.Spec PyProof.Rows L2 GxR Kr
section
variable {P : Program} {w : World} {K : PySem.W.Frag} {mg : Str → Option Value} {base : Heap} {CW : Addr}
theorem ok_w_cut (T_W : ClW K CW) (D : MFun K CW "cut" "Writes.cut" s_Writes_cut ["self", "many"]) (m_len : mg "len" = none) : FnOk P w K mg base CX0 1 D.f D.fd ["self", "many"] (sp_w_cut CW) := by
  refine D.F.ok sc_Writes_cut (fun vs H Q E h => ?_) (fun cdv A outer s H vs Q E hr h => ?_)
  · obtain ⟨A, wp, k, puts, rfl, _⟩ := h
    rfl
  · obtain ⟨A, wp, k, puts, rfl, ⟨st, wo, m, h, hwo, hA⟩, hl, hk, q⟩ := h
    refine ⟨_, (pss_cons (ps_set (i := 2) sc_Writes_cut.nd rfl (.inl rfl) (pe_slice sl_list (pe_fld (pv 0) rfl) (po_some (pv 1)) po_none))
      (pss_cons (ps_fld (pv 0) (pe_slice sl_list (pe_fld (pv 0) rfl) po_none (po_some (pv 1))) rfl)
      (pss_cons (ps_set (i := 3) sc_Writes_cut.nd rfl (.inl rfl) (pe_lst pa_nil))
      (pss_cons (ps_for PassesOwn.never rfl (pi_list (pv 2)) (pg_name (i := 4) sc_Writes_cut.nd rfl (.inl rfl))
        (pss_cons (ps_expr (pe_bm0 PySem.F.plainAttrs_list PySem.F.slot_list_pop PySem.F.type_list_pop mt_pop (pe_dget (hu_of hr) (pe_fld (pv 0) rfl) (pv 4) (fun _ _ => rfl))))
      (pss_one (ps_if (pt_cmpR op_eq (pe_callB call_len_seq (by rfl) m_len PySem.boot_len (pa_cons (pe_dget (hu_of hr) (pe_fld (pv 0) rfl) (pv 4) (fun _ _ => rfl)) pa_nil)) pe_int (nomark _)) (pss_cons (ps_ddel (pe_fld (pv 0) rfl) (pv 4))
      (pss_one (ps_expr (pe_bm PySem.F.plainAttrs_list PySem.F.slot_list_append PySem.F.type_list_append mt_append (pv 3) (pa_cons (pv 4) pa_nil))))) pss_nil))))
      (pss_one (ps_ret (pv 3))))))), ?_⟩
    obtain ⟨dx, hi⟩ := h.ins
    have pl : (puts.map fun q => V.str q.1).length = puts.length := List.length_map _
    have n1 : wp ≠ st := fun e => by
      rw [e, h.sta] at hi
      cases hi
    have n2 : wp ≠ wo := fun e => by
      rw [e, hwo] at hi
      cases hi
    -- gone
    refine ⟨_, rfl, wp, CW, dx, _, _, rfl, hi, T_W.cl, T_W.n_standing, fsW_standing, _, rfl, _, rfl, st, _, rfl, SqL.of h.sta, fun g ng => ?_⟩
    rw [cutV_drop _ k (by rw [pl]; exact hk)]
    have sg := same_new (o := .lst ((puts.map fun q => V.str q.1).drop k)) ng
    have hg := upd_same (H := H) (a := g) (o := .lst ((puts.map fun q => V.str q.1).drop k))
    generalize hH1 : upd H g (.lst ((puts.map fun q => V.str q.1).drop k)) = H1 at *
    -- self._standing
    refine ⟨_, rfl, wp, CW, dx, _, _, rfl, sg _ _ hi, T_W.cl, T_W.n_standing, fsW_standing, _, rfl, _, rfl, st, _, rfl, SqL.of (sg _ _ h.sta), fun s2 ns2 => ?_⟩
    rw [cutV_take _ k (by rw [pl]; exact hk)]
    have ss := same_new (o := .lst ((puts.map fun q => V.str q.1).take k)) ns2
    have hs2 := upd_same (H := H1) (a := s2) (o := .lst ((puts.map fun q => V.str q.1).take k))
    generalize hH2 : upd H1 s2 (.lst ((puts.map fun q => V.str q.1).take k)) = H2 at *
    have s02 := sg.trans ss
    refine ⟨_, rfl, wp, CW, dx, _, rfl, s02 _ _ hi, T_W.cl, T_W.n_standing, (by show 2 < 1000; decide), ?_⟩
    rw [show putF (Str.ofString "_standing") (V.ref s2) (wrF st wo) = wrF s2 wo from fsW_put_standing]
    have old : ∀ b, (∃ o, H b = some o) → b ≠ g ∧ b ≠ s2 := fun b ⟨o, ho⟩ => ⟨ne_of_none ho ng, fun z => by
      have := sg _ _ ho
      rw [z, ns2] at this
      cases this⟩
    have gs : g ≠ s2 := fun z => by
      rw [z, ns2] at hg
      cases hg
    have gwp : g ≠ wp := (old wp ⟨_, hi⟩).1.symm
    have swp : s2 ≠ wp := (old wp ⟨_, hi⟩).2.symm
    refine ⟨Nat.zero_le _, fun fr nfr => ?_⟩
    have nfr2 : H2 fr = none := upd_free nfr
    have fwp : fr ≠ wp := fun z => by
      rw [z, upd_same] at nfr
      cases nfr
    have fg : fr ≠ g := fun z => by
      rw [z, ss _ _ hg] at nfr2
      cases nfr2
    have fs2 : fr ≠ s2 := fun z => by
      rw [z, hs2] at nfr2
      cases nfr2
    have f0 : H fr = none := s02.free nfr2
    have frA : ∀ b, A b → ∃ o, H b = some o := fun b hb => (wr_loc CW wp puts).has (H := H) (A := A) ⟨st, wo, m, h, hwo, hA⟩ hb
    have nAg : ¬ A g := fun z => by
      obtain ⟨o, ho⟩ := frA g z
      rw [ng] at ho
      cases ho
    have nAs : ¬ A s2 := fun z => by
      obtain ⟨o, ho⟩ := frA s2 z
      exact (old s2 ⟨o, ho⟩).2 rfl
    have nAf : ¬ A fr := fun z => by
      obtain ⟨o, ho⟩ := frA fr z
      rw [f0] at ho
      cases ho
    have dn : (puts.map fun q => V.str q.1).drop k = ((puts.drop k).map (·.1)).map V.str := by rw [← List.map_drop, List.map_map]; rfl
    rw [dn] at hg
    have base3 : ∀ b o, H b = some o → b ≠ wp → upd (upd H2 wp (.ins CW dx (wrF s2 wo))) fr (.lst []) b = some o := fun b o e n => by
      rw [upd_ne (ne_of_none e f0), upd_ne n]
      exact s02 _ _ e
    have gl : ((puts.drop k).map (·.1)).length ≤ puts.length := by
      rw [List.length_map, List.length_drop]
      omega
    refine ⟨_, rfl, g, rfl, ⟨_, SqL.of (by rw [upd_ne fg.symm, upd_ne gwp]; exact ss _ _ hg)⟩, for_list (K := K) (a := g) (xs := ((puts.drop k).map (·.1)).map V.str)
      (fun i σ H' => (∀ b o, ¬ A b → H b = some o → H' b = some o) ∧ (∀ b, H' b = none → H b = none) ∧ H' g = some (.lst (((puts.drop k).map (·.1)).map V.str)) ∧ H' wp = some (.ins CW dx (wrF s2 wo)) ∧ H' s2 = some (.lst ((puts.map fun q => V.str q.1).take k)) ∧
        (∃ (m' : List (Str × Addr)) (fs : List Str), MD H' wo m' (cutF puts (((puts.drop k).map (·.1)).take i)) ∧ H' wo = some (.dK (dk (mdP m'))) ∧ m'.map (·.1) = (keysOf puts).filter (fun n => !decide (cutF puts (((puts.drop k).map (·.1)).take i) n = [])) ∧ (∀ q ∈ m', q ∈ m) ∧
          H' fr = some (.lst (fs.map V.str)) ∧ fs.Nodup ∧ ∀ n, n ∈ fs ↔ n ∈ keysOf puts ∧ cutF puts (((puts.drop k).map (·.1)).take i) n = []) ∧
        ∃ x, σ = [some (.ref wp), some (.int (k : Nat)), some (.ref g), some (.ref fr), x]) ?_ ?_ ?_ ?_⟩
    · refine ⟨fun b o nb e => base3 b o e (fun z => nb (by rw [z]; exact (hA wp).mpr (.inl rfl))), fun b z => s02.free (upd_free (upd_free z)), by rw [upd_ne fg.symm, upd_ne gwp]; exact ss _ _ hg, by rw [upd_ne fwp.symm]; exact upd_same, by rw [upd_ne fs2.symm, upd_ne swp]; exact hs2, ⟨m, [], ?_, base3 wo _ hwo n2.symm, ?_, fun q hq => hq, upd_same, List.nodup_nil, fun n => ⟨fun z => (by cases z), fun ⟨z1, z2⟩ => ?_⟩⟩, none, rfl⟩
      · rw [List.take_zero, cutF_nil]
        refine h.md.frame fun b hb => ?_
        obtain ⟨u, hu, _⟩ := h.md.has hb
        rw [hu]
        refine base3 b u hu fun z => ?_
        rw [z, hi] at hu
        rcases hb with y | y
        · exact n2 (z.symm.trans y)
        · obtain ⟨q2, hq2, e⟩ := List.mem_map.mp y
          have e4 := h.md.ls q2 hq2
          rw [show q2.2 = wp from e.trans z, hi] at e4
          cases e4
      · rw [List.take_zero, cutF_nil, h.key, List.filter_eq_self.mpr]
        intro n hn
        rw [decide_eq_false (fun z => valsOf_nil.mp z hn)]
        rfl
      · rw [List.take_zero, cutF_nil] at z2
        exact absurd z1 (valsOf_nil.mp z2)
    · exact fun i σ H' _ z => SqL.of z.2.2.1
    · rintro i x σ H' hx ⟨k1, k2, kg, kw, ks, ⟨m', fs, M, kwo, kk, kin, kf, knd, kfs⟩, y, rfl⟩
      obtain ⟨n, hn, rfl⟩ : ∃ n, ((puts.drop k).map (·.1))[i]? = some n ∧ x = V.str n := by
        rw [List.getElem?_map] at hx
        obtain ⟨n, h1, h2⟩ := Option.map_eq_some_iff.mp hx
        exact ⟨n, h1, h2.symm⟩
      have hp := cutF_pos hn
      have e1 : ((puts.drop k).map (·.1)).take (i + 1) = ((puts.drop k).map (·.1)).take i ++ [n] := by rw [List.take_add_one, hn]; rfl
      have e2 := cutF_pop puts (((puts.drop k).map (·.1)).take i) n
      have e3 : ∀ z, z ≠ n → cutF puts (((puts.drop k).map (·.1)).take i ++ [n]) z = cutF puts (((puts.drop k).map (·.1)).take i) z := fun z hz => cutF_other puts _ hz
      rw [← e1] at e2 e3
      generalize cutF puts (((puts.drop k).map (·.1)).take i) = f at *
      generalize cutF puts (((puts.drop k).map (·.1)).take (i + 1)) = f' at *
      have fsl : fs.length ≤ puts.length := Nat.le_trans (nodup_len knd fun z hz => ((kfs z).mp hz).1) (keysOf_len puts)
      rcases M.get n with ⟨l, hl1, hl2, hl3⟩ | ⟨_, _, z⟩
      rotate_left
      · rw [z] at hp
        exact absurd hp (Nat.lt_irrefl 0)
      have hlm := kin _ hl1
      have lA : A l := (hA l).mpr (.inr (.inr (.inr (List.mem_map.mpr ⟨_, hlm, rfl⟩))))
      have woA : A wo := (hA wo).mpr (.inr (.inr (.inl rfl)))
      have nlw : wp ≠ l := fun z => by
        rw [← z, kw] at hl3
        cases hl3
      have nlo : wo ≠ l := fun z => by
        rw [← z, kwo] at hl3
        cases hl3
      have nlg : g ≠ l := fun z => nAg (by rw [z]; exact lA)
      have nls : s2 ≠ l := fun z => nAs (by rw [z]; exact lA)
      have nlf : fr ≠ l := fun z => nAf (by rw [z]; exact lA)
      have ngo : g ≠ wo := fun z => nAg (by rw [z]; exact woA)
      have nso : s2 ≠ wo := fun z => nAs (by rw [z]; exact woA)
      have nfo : fr ≠ wo := fun z => nAf (by rw [z]; exact woA)
      refine ⟨_, rfl, wp, CW, dx, _, _, rfl, kw, T_W.cl, T_W.n_worths, fsW_worths, _, rfl, wo, .ref l, rfl, hl2, .inl ⟨rfl, _, SqL.of hl3⟩, l, _, (f n)[(f n).length - 1], rfl, rfl, hl3, List.getElem?_eq_getElem (by omega), ?_⟩
      have M2 : MD (upd H' l (.lst (f n).dropLast)) wo m' f' := M.set hl1 (upd_ne nlo) (by rw [upd_same, e2]) (fun q2 hq2 hne => upd_ne hne) e3
      have kw2 : upd H' l (.lst (f n).dropLast) wp = some (.ins CW dx (wrF s2 wo)) := by rw [upd_ne nlw]; exact kw
      have kwo2 : upd H' l (.lst (f n).dropLast) wo = some (.dK (dk (mdP m'))) := by rw [upd_ne nlo]; exact kwo
      have kg2 : upd H' l (.lst (f n).dropLast) g = some (.lst (((puts.drop k).map (·.1)).map V.str)) := by rw [upd_ne nlg]; exact kg
      have ks2 : upd H' l (.lst (f n).dropLast) s2 = some (.lst ((puts.map fun q => V.str q.1).take k)) := by rw [upd_ne nls]; exact ks
      have kf2 : upd H' l (.lst (f n).dropLast) fr = some (.lst (fs.map V.str)) := by rw [upd_ne nlf]; exact kf
      have kl2 : upd H' l (.lst (f n).dropLast) l = some (.lst (f n).dropLast) := upd_same
      have k12 : ∀ b o, ¬ A b → H b = some o → upd H' l (.lst (f n).dropLast) b = some o := fun b o nb e => by
        rw [upd_ne (fun z => nb (by rw [z]; exact lA))]
        exact k1 b o nb e
      have k22 : ∀ b, upd H' l (.lst (f n).dropLast) b = none → H b = none := fun b z => k2 b (upd_free z)
      generalize upd H' l (.lst (f n).dropLast) = H3 at *
      have hget : DGet H3 wo (.str n) (some (.ref l)) := .inl ⟨_, (Sum.inr n : Key), .inl kwo2, rfl, by
        rw [dk_val]
        exact ((val_mem (m := mdP m') (by rw [mdP_keys]; exact M2.nk)).mp (List.mem_map.mpr ⟨_, hl1, rfl⟩)).symm⟩
      have hnk : n ∈ keysOf puts := by
        rw [← h.key]
        exact List.mem_map.mpr ⟨_, hlm, rfl⟩
      have fn0 : f n ≠ [] := List.length_pos_iff.mp hp
      refine ⟨_, rfl, wp, CW, dx, _, _, rfl, kw2, T_W.cl, T_W.n_worths, fsW_worths, _, rfl, wo, .ref l, rfl, hget, l, _, rfl, .inl (SqL.of kl2), rfl, _, rfl, ?_⟩
      by_cases hz : (f n).dropLast = []
      · rw [hz]
        refine iteT ⟨_, rfl, wp, CW, dx, _, _, rfl, kw2, T_W.cl, T_W.n_worths, fsW_worths, _, rfl, wo, _, (Sum.inr n : Key), rfl, kwo2, rfl, ?_, ?_⟩
        · rw [dk_val, (val_mem (m := mdP m') (by rw [mdP_keys]; exact M2.nk)).mp (List.mem_map.mpr ⟨_, hl1, rfl⟩)]
          rfl
        rw [mdP_drop]
        refine ⟨_, rfl, .inl ⟨rfl, _, SqL.of (by rw [upd_ne nfo]; exact kf2)⟩, _, rfl, fr, _, _, rfl, rfl, (by rw [upd_ne nfo]; exact kf2), by rw [List.length_map]; exact Nat.lt_of_le_of_lt (Nat.le_trans fsl hl) (by decide), ?_⟩
        refine ⟨fun b o nb e => ?_, fun b z => k22 b (upd_free (upd_free z)), by rw [upd_ne fg.symm, upd_ne ngo]; exact kg2, by rw [upd_ne fwp.symm, upd_ne n2]; exact kw2, by rw [upd_ne fs2.symm, upd_ne nso]; exact ks2,
          ⟨m'.filter fun q => !decide (q.1 = n), fs ++ [n], M2.del (by rw [e2]; exact hz) (by rw [upd_ne nfo.symm]; exact upd_same) fun q2 hq2 => ?_, by rw [upd_ne nfo.symm]; exact upd_same, ?_, fun q2 hq2 => kin q2 (List.mem_filter.mp hq2).1, by rw [upd_same, List.map_append]; rfl, nodup_snoc knd fun z => fn0 ((kfs n).mp z).2, fun z => ?_⟩, _, rfl⟩
        · rw [upd_ne (ne_of_none e f0), upd_ne (fun z => nb (by rw [z]; exact woA))]
          exact k12 b o nb e
        · have hA2 : A q2.2 := (hA _).mpr (.inr (.inr (.inr (List.mem_map.mpr ⟨q2, kin q2 hq2, rfl⟩))))
          have h5 := M2.ls q2 hq2
          rw [upd_ne (fun z => nAf (by rw [← z]; exact hA2)), upd_ne (fun z => by rw [z, kwo2] at h5; cases h5)]
        · have e6 : (m'.filter fun q => !decide (q.1 = n)).map (·.1) = (m'.map (·.1)).filter fun z => !decide (z = n) := by
            rw [List.filter_map]
            rfl
          rw [e6, kk, List.filter_filter]
          refine List.filter_congr fun z _ => ?_
          by_cases hzn : z = n
          · rw [hzn, e2, hz, decide_eq_true rfl, decide_eq_true (rfl : ([] : List V) = [])]
            rfl
          · rw [decide_eq_false hzn, e3 z hzn]
            rfl
        · rw [List.mem_append, kfs z]
          by_cases hzn : z = n
          · rw [hzn, e2, hz]
            exact ⟨fun _ => ⟨hnk, rfl⟩, fun _ => .inr List.mem_cons_self⟩
          · rw [e3 z hzn]
            exact ⟨fun y => y.elim id fun y => absurd (List.mem_singleton.mp y) hzn, .inl⟩
      · refine ite2 (fun e => ?_) (fun _ => ?_)
        · exfalso
          have e4 := V.int.inj (of_decide_eq_true e)
          exact hz (List.eq_nil_of_length_eq_zero (by omega))
        refine ⟨k12, k22, kg2, kw2, ks2, ⟨m', fs, M2, kwo2, ?_, kin, kf2, knd, fun z => ?_⟩, _, rfl⟩
        · rw [kk]
          refine List.filter_congr fun z _ => ?_
          by_cases hzn : z = n
          · rw [hzn, e2, decide_eq_false hz, decide_eq_false fn0]
          · rw [e3 z hzn]
        · rw [kfs z]
          by_cases hzn : z = n
          · rw [hzn, e2]
            exact ⟨fun y => absurd y.2 fn0, fun y => absurd y.2 hz⟩
          · rw [e3 z hzn]
    · rintro σ H' ⟨k1, k2, kg, kw, ks, ⟨m', fs, M, kwo, kk, kin, kf, knd, kfs⟩, y, rfl⟩
      rw [List.length_map, List.take_length, cutF_all] at M kk kfs
      refine ⟨_, rfl, q H' (wrA wp s2 wo m') fr fs ⟨fun b o nb _ e => k1 b o nb e, fun b z => ?_, k2⟩ ⟨s2, wo, m', ⟨⟨dx, kw⟩, by rw [List.map_take]; exact ks, M, ?_, ?_⟩, kwo, fun b => Iff.rfl⟩ f0 ?_ kf knd fun z => by rw [kfs z, valsOf_nil]⟩
      · rcases z with z | z | z | z
        · exact .inl ((hA b).mpr (.inl z))
        · exact .inr (by rw [z]; exact sg.free ns2)
        · exact .inl ((hA b).mpr (.inr (.inr (.inl z))))
        · obtain ⟨q2, hq2, e⟩ := List.mem_map.mp z
          exact .inl ((hA b).mpr (.inr (.inr (.inr (List.mem_map.mpr ⟨q2, kin q2 hq2, e⟩)))))
      · rw [kk, ← keysOf_take]
        refine List.filter_congr fun z _ => ?_
        by_cases hz : z ∈ keysOf (puts.take k)
        · rw [decide_eq_true hz, decide_eq_false (fun y => valsOf_nil.mp y hz)]
          rfl
        · rw [decide_eq_false hz, decide_eq_true (valsOf_nil.mpr hz)]
          rfl
      · intro z
        obtain ⟨q2, hq2, e⟩ := List.mem_map.mp z
        exact nAs ((hA s2).mpr (.inr (.inr (.inr (List.mem_map.mpr ⟨q2, kin q2 hq2, e⟩)))))
      · rintro (z | z | z | z)
        · exact fwp z
        · exact fs2 z
        · exact nAf ((hA fr).mpr (.inr (.inr (.inl z))))
        · obtain ⟨q2, hq2, e⟩ := List.mem_map.mp z
          exact nAf ((hA fr).mpr (.inr (.inr (.inr (List.mem_map.mpr ⟨q2, kin q2 hq2, e⟩)))))
end
end Kt


namespace Kt
open PySem PySem.Spec PyProof.Rows L2 GxR Kr
section
variable {P : Program} {w : World} {K : PySem.W.Frag} {mg : Str → Option Value} {base : Heap} {CW : Addr} {C : Er → Addr}
theorem ok_is_same (D : Def K mg "is_same" s_is_same ["told", "said"]) (m_isinstance : mg "isinstance" = none) (m_bool : mg "bool" = none) : FnOk P w K mg base CX0 1 D.f D.fd ["told", "said"] sp_is_same := by
  refine D.F.ok sc_is_same (fun vs H Q E h => ?_) (fun cdv A outer s H vs Q E hr h => ?_)
  · obtain ⟨a, b, rfl, _⟩ := h
    rfl
  · obtain ⟨a, b, rfl, ha, hb, q⟩ := h
    refine ⟨_, (pss_one (ps_ret (pe_and (pe_cmpR op_eq (pv 0) (pv 1) (nomark _)) (pe_one (pe_not (pe_callB call_isi (by rfl) m_isinstance (by decide +kernel) (pa_cons (pv 1) (pa_cons (pe_bltn (by rfl) m_bool (by decide +kernel) (v := .ty "bool") rfl) pa_nil)))))))), ?_⟩
    have hs : scal a b = true := by
      rcases ha with e | ⟨i, e⟩ <;> rcases hb with e2 | ⟨j, e2⟩ <;> rw [e, e2] <;> rfl
    refine ⟨_, rfl, _, rfl, hs, _, rfl, ?_⟩
    by_cases e : a = b
    · rw [decide_eq_true e] at q ⊢
      refine iteT ?_
      obtain ⟨t, ty, _, h2, _⟩ := ty_of (K := K) (hb.thing (H := H))
      have hbl : blB b = false := by
        rcases hb with e | ⟨i, e⟩ <;> rw [e] <;> rfl
      rw [hbl] at h2
      exact ⟨_, rfl, _, .ty "bool", _, _, _, rfl, .ty _, ty, kit_ty h2, _, rfl, q⟩
    · rw [decide_eq_false e] at q ⊢
      exact iteF q
theorem ok_read_again (T_W : ClW K CW) (R_Unlike : ErrD K mg "Unlike" (C .unlike)) (D : Def K mg "read_again" s_read_again ["deed", "writes", "left"]) (D_is_same : Def K mg "is_same" s_is_same ["told", "said"]) (D_Writes_told : MFun K CW "told" "Writes.told" s_Writes_told ["self", "name", "before"])
    (D_Writes_last : MFun K CW "last" "Writes.last" s_Writes_last ["self", "name"]) (D_Writes_touches : MFun K CW "touches" "Writes.touches" s_Writes_touches ["self", "name"]) (m_isinstance : mg "isinstance" = none) (m_bool : mg "bool" = none) :
    FnOk P w K mg base (L2.CX P w) 3 D.f D.fd ["deed", "writes", "left"] (sp_read_again CW (C .unlike)) := by
  have G_is_same := ok_is_same (P := P) (w := w) (base := base) D_is_same m_isinstance m_bool
  have G_Writes_told := ok_w_told (P := P) (w := w) (mg := mg) (base := base) T_W D_Writes_told D_Writes_last D_Writes_touches
  refine D.F.okX sc_read_again (fun vs H Q E h => ?_) (fun cdv A outer s H vs Q E hr h => ?_)
  · obtain ⟨dd, wp, L, st, wo, wm, puts, m, n, v, rfl, _⟩ := h
    rfl
  · obtain ⟨dd, wp, L, st, wo, wm, puts, m, n, v, rfl, hd, hv, hW, okp, hL, okm, q1, q2⟩ := h
    refine ⟨_, (pss_cons (ps_asg (pv 0) (pg_tup rfl (pgs_cons (pg_name (i := 3) sc_read_again.nd rfl (.inl rfl)) (pgs_cons (pg_name (i := 4) sc_read_again.nd rfl (.inl rfl)) (pgs_cons (pg_name (i := 5) sc_read_again.nd rfl (.inl rfl)) pgs_nil)))))
      (pss_one (ps_if (pt_not (pt_val (pe_call G_is_same (hr.mono (by omega)) (by rfl) D_is_same.g D_is_same.F.kp D_is_same.b .nil pass0 (pa_cons (pe_meth (pv 1) T_W.cl D_Writes_told.m G_Writes_told (hr.mono (by omega)) D_Writes_told.b .nil pass0 (pa_cons (pv 4) (pa_cons (pe_dget1 (hu_of hr) (pv 2) (pv 4) ⟨rfl, rfl, rfl, rfl⟩) pa_nil))) (pa_cons (pv 5) pa_nil))))) (pss_one (ps_raise rfl (takes_of rfl rfl rfl rfl) (pmk_own PySem.F.excBase_ValueError R_Unlike.ex R_Unlike.g R_Unlike.kp (raises_own R_Unlike.sub R_Unlike.ty) rfl))) pss_nil))), ?_⟩
    obtain ⟨dx, hi⟩ := hW.ins
    refine ⟨_, rfl, dd, _, rfl, SqT.of hd, rfl, _, _, rfl, _, _, rfl, _, _, rfl, rfl, ?_⟩
    refine ⟨_, rfl, wp, dx, _, rfl, hi, fsW_no_told, _, rfl, _, rfl, L, rfl, .inl ⟨_, .inl hL.at'⟩, _, rfl, _, dict_get hL n, wp, st, wo, wm, puts, n, _, rfl, hW, _, rfl, ?_⟩
    have e1 : (valV (putAll [] puts) n).getD ((valV m n).getD .non) = readV (tells m) puts n := (readV_get m puts n).symm
    rw [e1]
    refine ⟨_, _, rfl, isVal_of (readV_ok okm okp n), hv, _, rfl, ?_⟩
    by_cases e : readV (tells m) puts n = v
    · rw [decide_eq_true e]
      exact iteF (q1 e)
    · rw [decide_eq_false e]
      exact iteT (q2 e)
theorem ok_read_under_again {f c T : Addr} {fd : FuncData} (T_W : ClW K CW) (R_Unlike : ErrD K mg "Unlike" (C .unlike)) (F : FunC K "read_under_again" "read_under_again" s_read_under_again f c fd) (TB : TabB base mg c T) (nT : K.lookup T = none)
    (D_is_same : Def K mg "is_same" s_is_same ["told", "said"]) (D_is_under : Def K mg "is_under" s_is_under ["name", "head"]) (D_pairs_of : Def K mg "pairs_of" s_pairs_of ["values"]) (D_Writes_told_under : MFun K CW "told_under" "Writes.told_under" s_Writes_told_under ["self", "head", "before"])
    (D_Writes_last : MFun K CW "last" "Writes.last" s_Writes_last ["self", "name"]) (m_isinstance : mg "isinstance" = none) (m_bool : mg "bool" = none) (m_sorted : mg "sorted" = none) (m_all : mg "all" = none) (m_range : mg "range" = none) (m_len : mg "len" = none) :
    FnOk P w K mg base (L2.CX P w) 3 f fd ["deed", "writes", "left"] (sp_read_under_again CW (C .unlike) T) := by
  have G_is_under := ok_is_under (P := P) (w := w) (base := base) D_is_under
  have G_Writes_told_under := ok_w_told_under (P := P) (w := w) (base := base) T_W D_Writes_told_under D_Writes_last D_is_under D_pairs_of m_sorted
  obtain ⟨oc, od, kV, doc, pm, an, ct, osl, rfl, lk, hcd⟩ := F.ex
  refine fn_of lk hcd sc_read_under_again (fun vs H Q E h => ?_) fun A outer s H vs Q E hr h => ?_
  · obtain ⟨dd, wp, L, st, wo, p, wm, puts, m, ps, hd, rfl, _⟩ := h
    rfl
  · obtain ⟨dd, wp, L, st, wo, p, wm, puts, m, ps, hd, rfl, hdd, hp, okps, hW, hwo, okp, hL, okm, hsz, hT, q1, q2⟩ := h
    obtain ⟨oc2, od2, kV2, dc2, pm2, an2, cdv2, ct2, osl2, efd, lk2, hcd2⟩ := D_is_same.F.ex
    rw [efd] at lk2
    have GS : GenS (envOfC "read_under_again" (defScope s_read_under_again) s.heap.objs.size f (.ref c)) { kind := .function, names := [((".0" : Str), .local), (("at" : Str), .local), (("said" : Str), .free), (("told" : Str), .free), (("is_same" : Str), .globalImplicit)], isGenerator := true, isCoroutine := false, more := [] } "at" :=
      ⟨rfl, rfl, by decide, rfl, rfl, fun y hy e => by
        have h3 : y = ((".0" : Str), NameKind.local) ∨ y = (("at" : Str), NameKind.local) ∨ y = (("said" : Str), NameKind.free) ∨ y = (("told" : Str), NameKind.free) ∨ y = (("is_same" : Str), NameKind.globalImplicit) := by simpa using hy
        rcases h3 with z | z | z | z | z <;> subst z
        · cases e
        · cases e
        · exact ⟨_, rfl⟩
        · exact ⟨_, rfl⟩
        · cases e⟩
    refine ⟨_, (pss_cons (ps_asg (pv 0) (pg_tup rfl (pgs_cons (pg_name (i := 3) sc_read_under_again.nd rfl (.inl rfl)) (pgs_cons (pg_name (i := 4) sc_read_under_again.nd rfl (.inr rfl)) (pgs_cons (pg_name (i := 6) sc_read_under_again.nd rfl (.inr rfl)) pgs_nil)))))
      (C8.pss_cut (ps_lock (ps_setDc (i := 5) (own := [("name", 8)]) (g := gName 8) rfl sc_read_under_again.nd rfl rfl (swD_true rfl rfl rfl (by decide +kernel)) (pi_keys (pv 2)) (blkOk_by (N := ["deed", "writes", "left", "_", "head", "before", "said", "told", "name"]) (sc := defScope s_read_under_again) (by decide +kernel)) (fun _ _ _ _ _ => pg_name (i := 8) sc_read_under_again.nd rfl (Or.inl rfl)) (fun _ _ _ _ _ => (pts_one (pt_val (pe_call G_is_under (hr.mono (by omega)) (by rfl) D_is_under.g D_is_under.F.kp D_is_under.b .nil pass0 (pa_cons (pv 8) (pa_cons (pv 4) pa_nil)))))) (fun _ _ _ _ _ => (pv 8)) (fun _ _ _ _ _ => (pe_dget (hu_of hr) (pv 2) (pv 8) (fun _ _ => rfl)))))
      (pss_cons (ps_set (i := 7) sc_read_under_again.nd rfl (.inr rfl) (pe_meth (pv 1) T_W.cl D_Writes_told_under.m G_Writes_told_under (hr.mono (by omega)) D_Writes_told_under.b .nil pass0 (pa_cons (pv 4) (pa_cons (pv 5) pa_nil))))
      (pss_one (ps_if (PW.pt (pw_or (pt_cmpR (op_neD hr.units) (pv 7) (pv 6) (nomark _)) (pw_or1 (pt_not (pt_val (pe_allQ hr (by rfl) m_all TB rfl GS (pe_callTy cr_range1 (by rfl) m_range (by decide +kernel) (pa_cons (pe_callB call_len_seq (by rfl) m_len PySem.boot_len (pa_cons (pv 7) pa_nil)) pa_nil)) (src_same (i := 7) (j := 6) nT (room_gen hr) lk2 hcd2 D_is_same.F.kp D_is_same.g m_isinstance m_bool (fun us hl => match us, hl with | [_, _], _ => rfl) rfl rfl rfl rfl rfl rfl rfl rfl rfl rfl (fun _ => rfl) rfl rfl rfl (fun _ => rfl) rfl rfl rfl) (fun _ => rfl))))))) (pss_one (ps_raise rfl (takes_of rfl rfl rfl rfl) (pmk_own PySem.F.excBase_ValueError R_Unlike.ex R_Unlike.g R_Unlike.kp (raises_own R_Unlike.sub R_Unlike.ty) rfl))) pss_nil))))), ?_⟩
    obtain ⟨dx, hi⟩ := hW.ins
    refine ⟨_, rfl, dd, _, rfl, SqT.of hdd, rfl, _, _, rfl, _, _, rfl, _, _, rfl, rfl, ?_⟩
    refine ⟨fun σ H' => Same H H' ∧ ∃ B, H B = none ∧ H' B = some (.dK (dk (m.filter fun q => pre hd q.1))) ∧ σ = [some (.ref dd), some (.ref wp), some (.ref L), some (.str "under"), some (.str hd), some (.ref B), some (.ref p), none, none], ⟨L, _, hL.at', trivial, fun od => ⟨_, rfl, L, od, rfl, .inl ⟨_, upd_same, fun B nB => ?_⟩⟩⟩, ?_⟩
    · obtain ⟨nB0, nBL⟩ := SameB.lock.new upd_same nB
      refine dc_it walk_keys (fun i H' => SameB L H H' ∧ H' L = some (.frz od (.dK (dk m))) ∧ H' B = some (.dK (dk ((m.take i).filter fun q => pre hd q.1)))) ⟨SameB.lock.trans (Same.b (same_new nB) L), by rw [upd_ne nBL.symm]; exact upd_same, upd_same⟩ (fun i H' _ h => h.2.1) ?_ ?_
      · rintro i x H1 H2 lt ⟨s1, hb1, hD⟩ ⟨rfl, k, v, hk1, rfl⟩
        obtain ⟨n, hn, rfl⟩ := dk_at hk1
        have hv := (val_mem hL.nd).mp (List.mem_of_getElem? hn)
        rw [dk_len] at lt
        refine ⟨rfl, _, rfl, _, rfl, n, hd, rfl, _, rfl, ?_⟩
        refine ite2 (fun e => ?_) (fun e => ?_)
        · refine ⟨_, rfl, _, rfl, _, rfl, L, v, rfl, .inl ⟨_, (Sum.inr n : Key), .inr ⟨od, hb1⟩, rfl, by rw [dk_val, hv]⟩, dk ((m.take i).filter fun q => pre hd q.1), (Sum.inr n : Key), rfl, hD, ?_, ?_, ?_, ?_⟩
          · rw [dk_len]
            have h5 := List.length_filter_le (fun q : Str × V => pre hd q.1) (m.take i)
            rw [List.length_take] at h5
            exact Nat.lt_of_le_of_lt (by omega : _ ≤ 1000000) (by decide)
          · intro b o nb e2
            rw [upd_ne (ne_of_none e2 nB0)]
            exact s1 b o nb e2
          · rw [upd_ne nBL.symm]
            exact hb1
          · rw [upd_same, dk_put, putK_new _ (valV_none fun z => keys_take_new hL.nd hn ?_), filt_snoc hn, if_pos e]
            obtain ⟨q, hq, e2⟩ := List.mem_map.mp z
            exact List.mem_map.mpr ⟨q, (List.mem_filter.mp hq).1, e2⟩
        · refine ⟨s1, hb1, ?_⟩
          rw [filt_snoc hn, if_neg e, List.append_nil]
          exact hD
      · rintro H1 ⟨s1, hb1, hD⟩
        rw [dk_len, List.take_length] at hD
        exact ⟨hb1, s1.open hL.at', B, nB0, by rw [upd_ne nBL]; exact hD, rfl⟩
    rintro σ1 H1 ⟨s1, B, nB, hB, rfl⟩
    have fl := List.length_filter_le (fun q : Str × V => pre hd q.1) m
    refine ⟨_, rfl, wp, dx, _, rfl, s1 _ _ hi, fsW_no_told_under, _, rfl, _, rfl, wp, st, wo, B, wm, puts, m.filter (fun q => pre hd q.1), hd, rfl, hW.same s1, s1 _ _ hwo, ⟨hB, (List.filter_sublist.map _).nodup hL.nd⟩, ?_, by omega, (fun x hx => okm.len x (List.mem_filter.mp hx).1), okp.len, fun p2 ps2 H2 s2 np2 hP2 ht2 => ?_⟩
    · intro n hn
      obtain ⟨q, hq, e⟩ := List.mem_map.mp hn
      have h5 := (List.mem_filter.mp hq).2
      rw [e] at h5
      exact h5
    have ht3 := (told_filt hL.nd).mp ht2
    have s12 := s1.trans s2
    have hP3 : PairsAt H2 p2 ps2 := hP2.mono (fresh_to _ _)
    have ok2 : ∀ q ∈ ps2, PrOk q := fun q hq => by
      have h5 := (ht3.mem q.1 q.2).mp hq
      have h6 : valueV q.2 = true := by
        rw [← h5.2.1]
        exact readV_ok okm okp q.1
      have h7 : Name q.1 := by
        rw [← tells_all] at h5
        exact (told_ok (ok_putAll okm okp) (hd := hd) (ps := ps2) (by rw [tells_fun]; exact ht3) q hq).1
      exact prOk_of ⟨h7, h6⟩
    have hp2 : PairsAt H2 p ps := hp.mono s12
    refine ⟨_, rfl, _, rfl, _, _, hP3.dp (K := K) ok2, hp2.dp (K := K) okps, (psD_sd ok2).shaped (by decide), (psD_sd okps).shaped (by decide), _, rfl, ?_⟩
    have hT2 := TabG.same hT s12
    by_cases e : ps2 = ps
    · have e2 : PyData.eqv (psD ps2) (psD ps) = true := (eqv_iff _ _ (psD_plain ok2) (psD_plain okps)).mpr (by rw [e])
      rw [e2]
      refine iteF ?_
      subst e
      obtain ⟨as2, g1, g2⟩ := hP3
      obtain ⟨bs2, g3, g4⟩ := hp2
      refine ⟨_, rfl, p2, _, rfl, .inl (SqL.of g1), _, rfl, fun r nr => ?_⟩
      have s3 := same_new (o := .rng 0 ((as2.map V.ref).length : Nat)) nr
      have tl := told_len ht3
      have e5 : (as2.map V.ref).length = ps2.length := by rw [List.length_map, g2.length]
      refine ⟨TabG.same hT2 s3, (as2.map V.ref).length, fun _ => true, ⟨r, p2, p, as2, bs2, rfl, upd_same, rfl, rfl, s3 _ _ g1, s3 _ _ g3, by omega, by rw [g2.length]; omega, by rw [g4.length]; omega, fun k hk => ?_, fun k => rfl⟩, fun H3 hT3 => ?_⟩
      · rw [e5] at hk
        obtain ⟨a, ha, ea⟩ := paired_get g2 (List.getElem?_eq_getElem hk)
        obtain ⟨b, hb, eb⟩ := paired_get g4 (List.getElem?_eq_getElem hk)
        have h5 := (ht3.mem _ _).mp (List.getElem_mem hk)
        have h6 : IsVal (ps2[k]).2 := (ok2 _ (List.getElem_mem hk)).2
        rcases h6 with h6 | ⟨u, h6⟩
        · exact absurd h6 h5.1
        · rw [h6] at ea eb
          exact ⟨a, b, _, _, u, ha, hb, s3 _ _ ea, s3 _ _ eb⟩
      · have e6 : (List.range (as2.map V.ref).length).all (fun _ => true) = true := List.all_eq_true.mpr fun _ _ => rfl
        rw [e6]
        exact ⟨_, rfl, iteF (q1 ht3 H3 ((SameT.of hT (s12.trans s3)).trans (SameT.tabbed hT3)))⟩
    · have e2 : PyData.eqv (psD ps2) (psD ps) = false := by
        cases e3 : PyData.eqv (psD ps2) (psD ps) with
        | false => rfl
        | true => exact absurd (psD_inj ok2 okps ((eqv_iff _ _ (psD_plain ok2) (psD_plain okps)).mp e3)) e
      rw [e2]
      exact iteT (q2 (fun z => e (ht3.unique z)) H2 (SameT.of hT s12))
end
end Kt


namespace Kt
open PySem PySem.Spec PyProof.Rows L2 GxR Kr
section
variable {P : Program} {w : World} {K : PySem.W.Frag} {mg : Str → Option Value} {base : Heap} {CW T : Addr} {C : Er → Addr}
theorem ok_do_again (T_W : ClW K CW) (D : Def K mg "do_again" s_do_again ["deed", "writes", "left"]) (D_read_again : Def K mg "read_again" s_read_again ["deed", "writes", "left"]) (D_read_under_again : Def K mg "read_under_again" s_read_under_again ["deed", "writes", "left"])
    (G_read_again : FnOk P w K mg base (L2.CX P w) 3 D_read_again.f D_read_again.fd ["deed", "writes", "left"] (sp_read_again CW (C .unlike)))
    (G_read_under_again : FnOk P w K mg base (L2.CX P w) 3 D_read_under_again.f D_read_under_again.fd ["deed", "writes", "left"] (sp_read_under_again CW (C .unlike) T))
    (D_Writes_add_write : MFun K CW "add_write" "Writes.add_write" s_Writes_add_write ["self", "name", "value"]) (D_Writes_cut : MFun K CW "cut" "Writes.cut" s_Writes_cut ["self", "many"]) (m_len : mg "len" = none) :
    FnOk P w K mg base (L2.CX P w) 4 D.f D.fd ["deed", "writes", "left"] (sp_do_again CW (C .unlike) T) := by
  have G_Writes_add_write := ok_w_add (P := P) (w := w) (mg := mg) (base := base) T_W D_Writes_add_write
  have G_Writes_cut := ok_w_cut (P := P) (w := w) (mg := mg) (base := base) T_W D_Writes_cut m_len
  refine D.F.okX sc_do_again (fun vs H Q E h => ?_) (fun cdv A outer s H vs Q E hr h => ?_)
  · obtain ⟨A, dd, wp, L, d, puts, m, rfl, _⟩ := h
    rfl
  · obtain ⟨A, dd, wp, L, d, puts, m, rfl, hd, okd, fit, hW, okp, hL, okm, hl, hT, q1, q2⟩ := h
    refine ⟨_, (pss_cons (ps_set (i := 3) sc_do_again.nd rfl (.inl rfl) (pe_ix ix_tup (pv 0) pe_int (fun _ _ => rfl)))
      (pss_one (ps_if (pt_cmpR op_eq (pv 3) pe_str (nomark _)) (pss_one (ps_expr (pe_meth (pv 1) T_W.cl D_Writes_add_write.m G_Writes_add_write (hr.mono (by omega)) D_Writes_add_write.b .nil pass0 (pa_cons (pe_ix ix_tup (pv 0) pe_int (fun _ _ => rfl)) (pa_cons (pe_ix ix_tup (pv 0) pe_int (fun _ _ => rfl)) pa_nil))))) (pss_one (ps_if (pt_cmpR op_eq (pv 3) pe_str (nomark _)) (pss_one (ps_expr (pe_meth (pv 1) T_W.cl D_Writes_cut.m G_Writes_cut (hr.mono (by omega)) D_Writes_cut.b .nil pass0 (pa_cons (pe_ix ix_tup (pv 0) pe_int (fun _ _ => rfl)) pa_nil)))) (pss_one (ps_if (pt_cmpR op_eq (pv 3) pe_str (nomark _)) (pss_one (ps_expr (pe_call G_read_again (hr.mono (by omega)) (by rfl) D_read_again.g D_read_again.F.kp D_read_again.b .nil (passes_call (takes_of rfl rfl rfl rfl) (fun _ _ _ _ h => h)) (pa_cons (pv 0) (pa_cons (pv 1) (pa_cons (pv 2) pa_nil)))))) (pss_one (ps_expr (pe_call G_read_under_again (hr.mono (by omega)) (by rfl) D_read_under_again.g D_read_under_again.F.kp D_read_under_again.b .nil (passes_call (takes_of rfl rfl rfl rfl) (fun _ _ _ _ h => h)) (pa_cons (pv 0) (pa_cons (pv 1) (pa_cons (pv 2) pa_nil))))))))))))), ?_⟩
    have nT := wr_notab hW hT
    obtain ⟨k1, k2, k3, k4, k5, k6⟩ := word_ne
    have hW0 := hW
    obtain ⟨st, wo, wm, hC, hwo, hA⟩ := hW
    obtain ⟨dx, hi⟩ := hC.ins
    cases d with
    | write n v =>
      have hd2 : H dd = some (.tup [.str "write", .str n, v]) := hd
      refine ⟨_, rfl, dd, _, _, _, rfl, rfl, SqT.of hd2, atI_nat (j := 0) rfl, _, rfl, rfl, _, rfl, ?_⟩
      rw [show decide (V.str (Str.ofString "write") = V.str (Str.ofString "write")) = true from strT]
      refine iteT ⟨_, rfl, wp, dx, _, rfl, hi, fsW_no_add_write, _, rfl, dd, _, _, _, rfl, rfl, SqT.of hd2, atI_nat (j := 1) rfl, _, rfl, dd, _, _, _, rfl, rfl, SqT.of hd2, atI_nat (j := 2) rfl, A, wp, n, v, puts, rfl, hW0, by omega, fun H' A' ch hW' => ?_⟩
      exact q1 trivial H' A' (ch.any _) (TabG.ch hT ch nT fun z => z) hW'
    | back k =>
      have hd2 : H dd = some (.tup [.str "back", .int (k : Nat)]) := hd
      refine ⟨_, rfl, dd, _, _, _, rfl, rfl, SqT.of hd2, atI_nat (j := 0) rfl, _, rfl, rfl, _, rfl, ?_⟩
      rw [show decide (V.str (Str.ofString "back") = V.str (Str.ofString "write")) = false from strF k6]
      refine iteF ⟨_, rfl, rfl, _, rfl, ?_⟩
      rw [show decide (V.str (Str.ofString "back") = V.str (Str.ofString "back")) = true from strT]
      refine iteT ⟨_, rfl, wp, dx, _, rfl, hi, fsW_no_cut, _, rfl, dd, _, _, _, rfl, rfl, SqT.of hd2, atI_nat (j := 1) rfl, A, wp, k, puts, rfl, hW0, by omega, fit, fun H' A' q fr ch hW' _ _ _ _ _ => ?_⟩
      exact q1 trivial H' A' (ch.any _) (TabG.ch hT ch nT fun z => z) hW'
    | read n v =>
      have hd2 : H dd = some (.tup [.str "read", .str n, v]) := hd
      refine ⟨_, rfl, dd, _, _, _, rfl, rfl, SqT.of hd2, atI_nat (j := 0) rfl, _, rfl, rfl, _, rfl, ?_⟩
      rw [show decide (V.str (Str.ofString "read") = V.str (Str.ofString "write")) = false from strF k1]
      refine iteF ⟨_, rfl, rfl, _, rfl, ?_⟩
      rw [show decide (V.str (Str.ofString "read") = V.str (Str.ofString "back")) = false from strF k2]
      refine iteF ⟨_, rfl, rfl, _, rfl, ?_⟩
      rw [show decide (V.str (Str.ofString "read") = V.str (Str.ofString "read")) = true from strT]
      refine iteT ⟨_, rfl, _, rfl, _, rfl, dd, wp, L, st, wo, wm, puts, m, n, v, rfl, hd2, isVal_of okd.2, hC, okp, hL, okm, fun e => ?_, fun e => ?_⟩
      · exact q1 e H A (Ch.refl _ _ _) hT hW0
      · exact q2 e H A (Ch.refl _ _ _) hT
    | under g ps =>
      obtain ⟨p, hd2, hp⟩ := hd
      refine ⟨_, rfl, dd, _, _, _, rfl, rfl, SqT.of hd2, atI_nat (j := 0) rfl, _, rfl, rfl, _, rfl, ?_⟩
      rw [show decide (V.str (Str.ofString "under") = V.str (Str.ofString "write")) = false from strF k3]
      refine iteF ⟨_, rfl, rfl, _, rfl, ?_⟩
      rw [show decide (V.str (Str.ofString "under") = V.str (Str.ofString "back")) = false from strF k4]
      refine iteF ⟨_, rfl, rfl, _, rfl, ?_⟩
      rw [show decide (V.str (Str.ofString "under") = V.str (Str.ofString "read")) = false from strF k5]
      refine iteF ⟨_, rfl, _, rfl, _, rfl, dd, wp, L, st, wo, p, wm, puts, m, ps, g, rfl, hd2, hp, fun q hq => prOk_of (okd.2 q hq), hC, hwo, okp, hL, okm, by omega, hT, fun e H' s => ?_, fun e H' s => ?_⟩
      · exact q1 e H' A s.ch s.tab (hW0.sameT hT s)
      · exact q2 e H' A s.ch s.tab
end
end Kt


namespace Kt
open PySem PySem.Spec PyProof.Rows L2 GxR Kr
section
variable {P : Program} {w : World} {K : PySem.W.Frag} {mg : Str → Option Value} {base : Heap} {CW T : Addr} {C : Er → Addr}
theorem ok_walked (T_W : ClW K CW) (MK_W : MkDef K mg CW "Writes" "Writes.__init__" s_Writes___init__ ["self"]) (D : Def K mg "walked" s_walked ["rows"]) (D_do_again : Def K mg "do_again" s_do_again ["deed", "writes", "left"])
    (G_do_again : FnOk P w K mg base (L2.CX P w) 4 D_do_again.f D_do_again.fd ["deed", "writes", "left"] (sp_do_again CW (C .unlike) T)) (D_pairs_of : Def K mg "pairs_of" s_pairs_of ["values"]) (m_sorted : mg "sorted" = none)
    (D_Writes_names : MFun K CW "names" "Writes.names" s_Writes_names ["self"]) (D_Writes_last : MFun K CW "last" "Writes.last" s_Writes_last ["self", "name"]) (m_list : mg "list" = none) :
    FnOk P w K mg base (L2.CX P w) 5 D.f D.fd ["rows"] (sp_walked (footOf [T]) C) := by
  have G_Writes_init := ok_w_init (P := P) (w := w) (base := base) T_W MK_W
  have G_pairs_of := ok_pairs_of (P := P) (w := w) (base := base) D_pairs_of m_sorted
  have G_Writes_names := ok_w_names (P := P) (w := w) (mg := mg) (base := base) T_W D_Writes_names m_list
  have G_Writes_last := ok_w_last (P := P) (w := w) (mg := mg) (base := base) T_W D_Writes_last
  refine D.F.okX sc_walked (fun vs H Q E h => ?_) (fun cdv A outer s H vs Q E hr h => ?_)
  · obtain ⟨a, rs, rfl, _⟩ := h
    rfl
  · obtain ⟨a, rs, rfl, hw, hR, okd, fit, lr, ld, q1, q2⟩ := h
    refine ⟨_, (pss_cons (ps_set (i := 1) sc_walked.nd rfl (.inl rfl) pe_dnewK)
      (C8.pss_cut (ps_for (passes_of rfl) rfl (pi_list (pv 0)) (pg_name (i := 2) sc_walked.nd rfl (.inl rfl))
        (pss_cons (ps_set (i := 3) sc_walked.nd rfl (.inl rfl) (pe_make0 MK_W.make G_Writes_init (hr.mono (by omega)) (by rfl) MK_W.g MK_W.b .nil pass0))
      (C8.pss_cut (ps_for (passes_of rfl) rfl (pi_list (pv 2)) (pg_name (i := 4) sc_walked.nd rfl (.inl rfl))
        (pss_one (ps_expr (pe_call G_do_again (hr.mono (by omega)) (by rfl) D_do_again.g D_do_again.F.kp D_do_again.b .nil (passes_call (takes_of rfl rfl rfl rfl) (fun _ _ _ _ h => h)) (pa_cons (pv 4) (pa_cons (pv 3) (pa_cons (pv 1) pa_nil)))))))
      (pss_one (ps_for (passes_of rfl) rfl (pi_list (pe_meth0 (pv 3) T_W.cl D_Writes_names.m G_Writes_names (hr.mono (by omega)) D_Writes_names.b .nil pass0)) (pg_name (i := 5) sc_walked.nd rfl (.inl rfl))
        (pss_one (ps_dput (hu_of hr) (pv 1) (pv 5) (pe_meth (pv 3) T_W.cl D_Writes_last.m G_Writes_last (hr.mono (by omega)) D_Writes_last.b .nil pass0 (pa_cons (pv 5) pa_nil)) rfl)))))))
      (pss_one (ps_ret (pe_call G_pairs_of (hr.mono (by omega)) (by rfl) D_pairs_of.g D_pairs_of.F.kp D_pairs_of.b .nil pass0 (pa_cons (pv 1) pa_nil)))))), ?_⟩
    obtain ⟨as, ha1, hP⟩ := hR
    have ha := (cut_iff.mp ha1).2
    have hT : TabG H T := hw T List.mem_cons_self
    have la : as.length = rs.length := hP.length
    refine fun L nL => ?_
    have wk0 : Wk T L H (upd H L (.dK [])) [] := ⟨fun b o _ e => (same_new nL) _ _ e, TabG.same hT (same_new nL), fun b z => upd_free z, upd_same, nL, List.nodup_nil, ok_nil⟩
    refine ⟨fun σ H' => ∃ m, Wk T L H H' m ∧ tells m = rowsLeft noLeft rs ∧ RowsRight noLeft rs ∧ m.length ≤ 300 * rs.length ∧ ∃ x2 x3 x4 x5, σ = [some (.ref a), some (.ref L), x2, x3, x4, x5], ?_, ?_⟩
    · refine ⟨_, rfl, a, rfl, ⟨_, SqL.of (wk0.to _ _ ha1)⟩, for_list (K := K) (a := a) (xs := as.map V.ref) (fun i σ H' => ∃ m, Wk T L H H' m ∧ tells m = rowsLeft noLeft (rs.take i) ∧ RowsRight noLeft (rs.take i) ∧ m.length ≤ 300 * i ∧ ∃ x2 x3 x4 x5, σ = [some (.ref a), some (.ref L), x2, x3, x4, x5])
        ⟨[], wk0, rfl, trivial, Nat.zero_le _, none, none, none, none, rfl⟩ (fun i σ H' _ ⟨m, wk, _⟩ => SqL.of (wk.to _ _ ha1)) ?_ ?_⟩
      · rintro i x σ H1 hx ⟨m, wk, tl, rr, ml, x2, x3, x4, x5, rfl⟩
        obtain ⟨e, rfl, he⟩ := refs_at hx
        obtain ⟨ds, hds, hda⟩ := paired_at hP he
        have il : i < rs.length := (List.getElem?_eq_some_iff.mp hds).1
        have dsm := List.mem_of_getElem? hds
        have fitd := rowsFit_at fit hds
        have ldd := ld ds dsm
        intro wp dx nwp ndx nex
        refine ⟨wp, dx, rfl, upd_same, fun H2 A ch hW => ⟨rfl, ?_⟩⟩
        have up2 : ∀ b, upd (upd H1 dx (.own wp)) wp (.ins CW dx []) b = none → H1 b = none := fun b z => upd_free (upd_free z)
        have k2 : ∀ b o, H1 b = some o → H2 b = some o := fun b o e2 => ch.s b o (ne_of_none e2 nwp) (fun z => z) (by rw [upd_ne (ne_of_none e2 nwp), upd_ne (ne_of_none e2 ndx)]; exact e2)
        have fA : ∀ b, A b → H b = none := fun b hb => (ch.g b hb).elim (fun z => by rw [z]; exact wk.n _ nwp) (fun z => wk.n b (up2 b z))
        have nAL : ¬ A L := fun z => (ch.g L z).elim (fun y => by
          have h5 := wk.l
          rw [y, nwp] at h5
          cases h5) (fun y => by
          have h5 := up2 L y
          rw [wk.l] at h5
          cases h5)
        have wk2 : Wk T L H H2 m := wk.same k2
        obtain ⟨es, hes1, hE⟩ := hda
        have hes := (cut_iff.mp hes1).2
        refine ⟨fun σ H' => Wk T L H H' m ∧ RowRight (tells m) [] ds ∧ ∃ A', WrAt CW H' A' wp (endP [] ds) ∧ (∀ b, A' b → H b = none) ∧ ¬ A' L ∧ ∃ x4 x5, σ = [some (.ref a), some (.ref L), some (.ref e), some (.ref wp), x4, x5], ?_, ?_⟩
        · refine ⟨_, rfl, e, rfl, ⟨_, SqL.of (wk2.to _ _ hes1)⟩, for_list (K := K) (a := e) (xs := es.map V.ref) (fun j σ H' => Wk T L H H' m ∧ RowRight (tells m) [] (ds.take j) ∧ ∃ A', WrAt CW H' A' wp (endP [] (ds.take j)) ∧ (∀ b, A' b → H b = none) ∧ ¬ A' L ∧ ∃ x4 x5, σ = [some (.ref a), some (.ref L), some (.ref e), some (.ref wp), x4, x5])
            ⟨wk2, trivial, A, hW, fA, nAL, x4, x5, rfl⟩ (fun j σ H' _ z => SqL.of (z.1.to _ _ hes1)) ?_ ?_⟩
          · rintro j y σ H3 hy ⟨wk3, rr3, A3, hW3, fA3, nA3, x4, x5, rfl⟩
            obtain ⟨dd, rfl, hdd⟩ := refs_at hy
            obtain ⟨d, hd, hda⟩ := paired_at hE hdd
            have dok := okd ds dsm d (List.mem_of_getElem? hd)
            have okp : Ok (endP [] (ds.take j)) := ok_endP ok_nil fun d hd => okd ds dsm d (List.mem_of_mem_take hd)
            have lp := len_endP (ds.take j) []
            rw [List.length_take] at lp
            have l0 : ([] : Prs).length = 0 := rfl
            refine ⟨_, rfl, _, rfl, _, rfl, A3, dd, wp, L, d, _, m, rfl, hda.mono wk3.to, dok, rowFits_at fitd hd, hW3, okp, ⟨wk3.l, wk3.nd⟩, wk3.okm, by omega, wk3.t, fun r H4 A4 c4 t4 hW4 => ?_, fun r H4 A4 c4 t4 => ?_⟩
            · obtain ⟨wk4, fA4, nA4⟩ := wk3.ch c4 t4 fA3 nA3
              refine ⟨wk4, ?_, A4, ?_, fA4, nA4, _, _, rfl⟩
              · rw [take_succ hd]
                exact (rowRight_snoc _ _ _ _).mpr ⟨rr3, r⟩
              · rw [take_succ hd, endP_snoc]
                exact hW4
            · refine q2 (fun z => r ?_) H4 (wk3.ch c4 t4 fA3 nA3).1.on
              have z1 := rowsRight_at z hds
              rw [← tl] at z1
              exact rowRight_at z1 hd
          · rintro σ H3 ⟨wk3, rr3, A3, hW3, fA3, nA3, x4, x5, rfl⟩
            have el : ds.take (es.map V.ref).length = ds := by rw [List.length_map, hE.length, List.take_length]
            rw [el] at rr3 hW3
            exact ⟨wk3, rr3, A3, hW3, fA3, nA3, _, _, rfl⟩
        rintro σ3 H3 ⟨wk3, rr3, A3, hW3, fA3, nA3, x4, x5, rfl⟩
        have okp : Ok (endP [] ds) := ok_endP ok_nil fun d hd => okd ds dsm d hd
        have lp := len_endP ds []
        have l0 : ([] : Prs).length = 0 := rfl
        generalize hpu : endP [] ds = puts at *
        obtain ⟨st, wo, wm, hC, hwo, hA⟩ := hW3
        obtain ⟨dx2, hi⟩ := hC.ins
        refine ⟨_, rfl, wp, dx2, _, rfl, hi, fsW_no_names, wp, st, wo, wm, puts, rfl, hC, by omega, fun H4 q s4 nq hq => ?_⟩
        have lq := wk3.l
        have nqL : q ≠ L := (ne_of_none lq nq).symm
        have kl := keysOf_len puts
        have eqA : ∀ b, wrA wp st wo wm b → b ≠ L := fun b hb z => nA3 (by rw [← z]; exact (hA b).mpr hb)
        refine ⟨q, rfl, ⟨_, SqL.of hq⟩, for_list (K := K) (a := q) (xs := (keysOf puts).map V.str) (fun j σ H' => (∀ b, b ≠ L → H' b = H4 b) ∧ H' L = some (.dK (dk (putAll m (overs puts "" j)))) ∧ ∃ x5, σ = [some (.ref a), some (.ref L), some (.ref e), some (.ref wp), x4, x5])
          ⟨fun _ _ => rfl, s4 _ _ lq, x5, rfl⟩ (fun j σ H' _ z => SqL.of (by rw [z.1 q nqL]; exact hq)) ?_ ?_⟩
        · rintro j y σ H5 hy ⟨k5, l5, x5, rfl⟩
          obtain ⟨n, hn, rfl⟩ : ∃ n, (keysOf puts)[j]? = some n ∧ y = V.str n := by
            rw [List.getElem?_map] at hy
            obtain ⟨n, h1, h2⟩ := Option.map_eq_some_iff.mp hy
            exact ⟨n, h1, h2.symm⟩
          have hm := List.mem_of_getElem? hn
          have hC5 : WrC CW H5 wp st wo wm puts := (hC.same s4).frame fun b hb => k5 b (eqA b hb)
          refine ⟨_, rfl, wp, dx2, _, rfl, by rw [k5 wp (eqA wp (.inl rfl))]; exact s4 _ _ hi, fsW_no_last, _, rfl, wp, st, wo, wm, puts, n, _, rfl, hC5, keysOf_some hm, _, rfl, _, rfl, L, _, rfl, DPut.k (k := (Sum.inr n : Key)) l5 ?_, fun b nb => ?_, ?_, _, rfl⟩
          · rw [dk_len]
            have h5 := putAll_len (overs puts "" j) m
            have h6 := overs_len puts "" j
            exact Nat.lt_of_le_of_lt (by omega : _ ≤ 1000000) (by decide)
          · rw [upd_ne nb]
            exact k5 b nb
          · rw [upd_same, overs_snoc hn, if_pos (pre_nil n), putAll_snoc, dk_put]
        · rintro σ H5 ⟨k5, l5, x5, rfl⟩
          rw [List.length_map] at l5
          have h5 := putAll_len (overs puts "" (keysOf puts).length) m
          have h6 := overs_len puts "" (keysOf puts).length
          have nLT : L ≠ T := fun z => by
            obtain ⟨ps, h1, _⟩ := wk3.t
            rw [← z, lq] at h1
            cases h1
          refine ⟨putAll m (overs puts "" (keysOf puts).length), ⟨fun b o n e => ?_, ?_, fun b z => ?_, l5, wk3.nl, putAll_keys _ wk3.nd, ok_putAll wk3.okm (ok_overs okp "" _)⟩, ?_, ?_, by omega, _, _, _, _, rfl⟩
          · rw [k5 b (ne_of_none e wk3.nl)]
            exact s4 _ _ (wk3.k b o n e)
          · obtain ⟨ps, h1, h2⟩ := wk3.t
            exact ⟨ps, by rw [k5 T nLT.symm]; exact s4 _ _ h1, h2⟩
          · by_cases nb : b = L
            · rw [nb]
              exact wk3.nl
            · rw [k5 b nb] at z
              exact wk3.n b (s4.free z)
          · rw [tells_overs, take_succ hds, rowsLeft_snoc, ← tl, hpu]
          · rw [take_succ hds]
            exact (rowsRight_snoc _ _ _).mpr ⟨rr, by rw [← tl]; exact rr3⟩
      · rintro σ H1 ⟨m, wk, tl, rr, ml, x2, x3, x4, x5, rfl⟩
        rw [List.length_map, la] at ml
        rw [List.length_map, la, List.take_length] at tl rr
        exact ⟨m, wk, tl, rr, ml, _, _, _, _, rfl⟩
    rintro σ1 H1 ⟨m, wk, tl, rr, ml, x2, x3, x4, x5, rfl⟩
    refine ⟨_, rfl, L, m, rfl, ⟨wk.l, wk.nd⟩, by omega, wk.okm.len, fun p ps H2 s2 np hp ht _ => ?_⟩
    have wk2 := wk.same s2
    refine q1 rr p ps H2 wk2.on (hp.mono (fresh_cut fun b hb => ?_)) (by rw [← tl]; exact ht)
    rw [List.mem_singleton.mp hb]
    obtain ⟨qs, h1, _⟩ := wk.t
    exact ⟨_, h1⟩
end
end Kt


namespace Kt
open PySem PySem.Spec PyProof.Rows L2 GxR
/-! ### the end: what stands at the top -/
/-- behind the top, the def of that name has a code object and an empty table -/
def TabOf (x : Str) (mg : Str → Option Value) (h : Heap) : Prop :=
  ∃ (a c T : Addr) (o : Obj) (fd : FuncData), mg x = some (.ref a) ∧ h.get? a = some o ∧ o.data = .func fd ∧ fd.code = .ref c ∧
    PySem.W.CodeHd h c T ∧ h.get? T = some { cls := .none, data := .fields #[] }
theorem walk_tabs {l : PySem.W.OpenLaw} {n k : Nat} {q : Program} {loose : List Str} {XP : (Str → Option Value) → Heap → Prop} {YP : World → Heap → Prop} {d : DefRec}
    {K : Params → PySem.W.Frag} {CX : World → CXT} {x : Str} (nms : List Str)
    (hn : l.most = some n) (hn2 : n ≤ sizeLine) (hdf : d.params.defaults = []) (hr : Room k callerA)
    (hrec : (nms.all fun nm => (recsOf q).any fun r => r.name == nm) = true) (hY : ∀ (w : World) (h : Heap), YP w h → (K w.params).In h)
    (F : ∀ (w : World) (mg : Str → Option Value) (fa : Addr) (h : Heap), YP w h → XP mg h → (K w.params).In h → h.Ns mainGlobals mg →
      mg d.name = some (.ref fa) → (∀ nm ∈ nms, TabOf nm mg h) → LamX.LawAtS l w (K w.params) (CX w) k n x mg fa h)
    (hCX : ∀ (w : World) (H : Hp) (s : Shared) (e : Value) (s' : Shared), CX w [] H s (fun _ _ _ => False) e s' → False) :
    PySem.W.WalkO q loose XP YP l.row.toRowW d [] (fun f vs => PySem.call f vs) := by
  refine Att.attach_callB hn hdf fun w sa sb mg mb fa o pm cd doc a vs ns G Y ho hd hcd hmg hobj hints hlen hbits hg => ?_
  have tab : ∀ nm ∈ nms, TabOf nm mg sb.heap := fun nm hm => by
    obtain ⟨r, hr1, hr2⟩ := List.any_eq_true.mp (List.all_eq_true.mp hrec nm hm)
    obtain ⟨b, ob, fd, c, T, g1, g2, g3, g4, g5, g6⟩ := G.T.tab r hr1
    rw [show r.name = nm from beq_iff_eq.mp hr2] at g1
    exact ⟨b, c, T, ob, fd, g1, g2, g3, g4, .of g5 g6, g6.2⟩
  obtain ⟨fd, cs, sp, t1, t2, t3, t4, t5, t6⟩ := F w mg fa _ Y G.X (hY w _ Y) G.T.g hmg tab
  exact LamX.law_callTs (hY w _ Y) G.T.g G.T.b G.T.builtins G.T.nolimit hg t1 t2 t3 G.T.bmain hobj hints (Nat.le_trans hlen hn2) hr t6 t4
    (fun H hH hS => t5 H a ns hlen hbits hH hS) fun H e s' => hCX w H sb e s'
section
variable {K : PySem.W.Frag} {h : Heap} {mg : Str → Option Value} {x : Str} {st : Stmt} {ps : List Str} {f o t : Addr} {oc : Value} {od an : Option Addr} {osl : Array (Option Value)} {kV dc pm cdv ct : Value}
theorem def_exC (X : K.In h) (G : h.Ns mainGlobals mg) (hb : ∀ (kV doc pm : Value) (an : Option Addr) (cdv ct : Value) (us : List Value), us.length = ps.length →
      bindArgs (PySem.W.fnOf x x (defArgs st) (defBody st) (defScope st) .none kV doc pm an cdv ct) ⟨us, []⟩ = pure (ps.zip us))
    (a : PySem.W.nsIn K mainGlobals x = some (some (.ref f))) (l : K.lookup f = some ⟨oc, od, .func (PySem.W.fnOf x x (defArgs st) (defBody st) (defScope st) .none kV dc pm an (.ref o) ct), osl⟩)
    (c : PySem.W.codeIn K (.ref o) x = true) (k : PySem.W.keepIn K (.ref f) = true) : ∃ D : Def K mg x st ps, D.f = f ∧ FunC K x x st D.f o D.fd :=
  ⟨⟨f, _, fun_mk l c k, (fun_mk (st := st) l c k).binds hb, PySem.W.mg_of X G a⟩, rfl, ⟨⟨oc, od, kV, dc, pm, an, ct, osl, rfl, l, c⟩, k⟩⟩
theorem def_exL (X : K.In h) (G : h.Ns mainGlobals mg) {p : Str} (hb : ∀ (kV doc pm : Value) (an : Option Addr) (cdv ct : Value) (us : List Value), us.length = [p].length →
      bindArgs (PySem.W.fnOf x x (defArgs st) (defBody st) (defScope st) .none kV doc pm an cdv ct) ⟨us, []⟩ = pure ([p].zip us))
    (a : PySem.W.nsIn K mainGlobals x = some (some (.ref f))) (l : K.lookup f = some ⟨oc, od, .func (PySem.W.fnOf x x (defArgs st) (defBody st) (defScope st) .none kV dc pm an cdv ct), osl⟩)
    (c : PySem.W.codeIn K cdv x = true) (k : PySem.W.keepIn K (.ref f) = true) : ∃ D : Def K mg x st [p], D.f = f ∧ ∀ (s : Shared) (u : Value), BindsTo s D.fd ⟨[u], []⟩ [(p, u)] :=
  ⟨⟨f, _, fun_mk l c k, (fun_mk (st := st) l c k).binds hb, PySem.W.mg_of X G a⟩, rfl, fun s u => .of_eq (hb _ _ _ _ _ _ [u] rfl)⟩
theorem tab_at {e : Value} {d : Option Addr} {vs : Array Value} {sl : Array (Option Value)} (X : K.In h) (G : h.Ns mainGlobals mg) (hT : TabOf x mg h)
    (a : PySem.W.nsIn K mainGlobals x = some (some (.ref f))) (l : K.lookup f = some ⟨oc, od, .func (PySem.W.fnOf x x (defArgs st) (defBody st) (defScope st) .none kV dc pm an (.ref o) ct), osl⟩)
    (o1 : K.lookup o = some ⟨e, d, .fields vs, sl⟩) (o2 : vs[11]? = some (.ref t)) : PySem.W.CodeHd h o t ∧ h.get? t = some { cls := .none, data := .fields #[] } := by
  obtain ⟨fq, cq, tq, oq, fdq, q1, q2, q3, q4, q5, q6⟩ := hT
  rw [PySem.W.mg_of X G a] at q1
  cases q1
  rw [X _ _ l] at q2
  cases q2
  cases q3
  cases q4
  have et : tq = t := by
    obtain ⟨u, ws, _, _, _, _, _, _, _, e1, _, e2, e3, _⟩ := q5
    rw [X _ _ o1] at e1
    cases e1
    cases e2
    rw [o2] at e3
    cases e3
    rfl
  subst et
  exact ⟨q5, q6⟩
end
end Kt

namespace Kt
open PySem PySem.Spec PyProof.Rows L2 GxR Kr
/-! ### the end: classes, methods -/
def clsB (K : PySem.W.Frag) (C : Addr) (fs : List Str) : Bool := PySem.W.plainGet K C Str.empty && (PySem.W.hasDictIn K C && (PySem.W.plainOver K C && (decide (PySem.W.findIn K (.ref C) "__setattr__" = some (some (.builtin "object.__setattr__"))) && (PySem.W.makesIn K C && (PySem.W.keepIn K (.ref C) && fs.all fun f => decide (PySem.W.findIn K (.ref C) f = some none))))))
theorem clsB_of {K : PySem.W.Frag} {C : Addr} {fs : List Str} (h : clsB K C fs = true) : Cls K C ∧ PySem.W.makesIn K C = true ∧ PySem.W.keepIn K (.ref C) = true ∧ ∀ f ∈ fs, NoAttr K C f := by
  unfold clsB at h
  simp only [Bool.and_eq_true, decide_eq_true_eq, List.all_eq_true] at h
  obtain ⟨h1, h2, h3, h4, h5, h6, h7⟩ := h
  exact ⟨⟨h1, h2, h3, h4⟩, h5, h6, h7⟩
theorem clW_of {K : PySem.W.Frag} {C : Addr} (h : clsB K C ["_standing", "_worths"] = true) : ClW K C := by
  obtain ⟨h1, _, _, h2⟩ := clsB_of h
  exact ⟨h1, h2 _ (by decide +kernel), h2 _ (by decide +kernel)⟩
theorem clD_of {K : PySem.W.Frag} {C : Addr} (h : clsB K C ["start", "state", "writes", "looked_names", "looked_heads", "done"] = true) : ClD K C := by
  obtain ⟨h1, _, _, h2⟩ := clsB_of h
  exact ⟨h1, h2 _ (by decide +kernel), h2 _ (by decide +kernel), h2 _ (by decide +kernel), h2 _ (by decide +kernel), h2 _ (by decide +kernel), h2 _ (by decide +kernel)⟩
theorem clHi_of {K : PySem.W.Frag} {C : Addr} (h : clsB K C ["_versions"] = true) : ClHi K C := by
  obtain ⟨h1, _, _, h2⟩ := clsB_of h
  exact ⟨h1, h2 _ (by decide +kernel)⟩
theorem clR_of {K : PySem.W.Frag} {C : Addr} (h : clsB K C ["_numbers", "_kept_at", "_writers", "_name_lookers", "_head_lookers"] = true) : ClR K C := by
  obtain ⟨h1, _, _, h2⟩ := clsB_of h
  exact ⟨h1, h2 _ (by decide +kernel), h2 _ (by decide +kernel), h2 _ (by decide +kernel), h2 _ (by decide +kernel), h2 _ (by decide +kernel)⟩
theorem clS_of {K : PySem.W.Frag} {C : Addr} (h : clsB K C ["_dealings", "_row", "_history", "_holders"] = true) : ClS K C := by
  obtain ⟨h1, _, _, h2⟩ := clsB_of h
  exact ⟨h1, h2 _ (by decide +kernel), h2 _ (by decide +kernel), h2 _ (by decide +kernel), h2 _ (by decide +kernel)⟩
theorem mfun_ex {K : PySem.W.Frag} {C : Addr} {m qual : Str} {st : Stmt} {ps : List Str} {f : Addr} {oc : Value} {od an : Option Addr} {osl : Array (Option Value)} {kV dc pm cdv ct : Value}
    (hb : ∀ (kV doc pm : Value) (an : Option Addr) (cdv ct : Value) (us : List Value), us.length = ps.length →
      bindArgs (PySem.W.fnOf m qual (defArgs st) (defBody st) (defScope st) .none kV doc pm an cdv ct) ⟨us, []⟩ = pure (ps.zip us))
    (a : PySem.W.findIn K (.ref C) m = some (some (.ref f))) (i : PySem.W.isFn K (.ref f) = true) (l : K.lookup f = some ⟨oc, od, .func (PySem.W.fnOf m qual (defArgs st) (defBody st) (defScope st) .none kV dc pm an cdv ct), osl⟩)
    (c : PySem.W.codeIn K cdv qual = true) (k : PySem.W.keepIn K (.ref f) = true) : Nonempty (MFun K C m qual st ps) :=
  ⟨⟨f, _, fun_mk l c k, ⟨a, i, k⟩, (fun_mk (st := st) l c k).binds hb⟩⟩
theorem mkdef_ex {K : PySem.W.Frag} {h : Heap} {mg : Str → Option Value} {C : Addr} {x qual : Str} {st : Stmt} {ps fs : List Str} {f : Addr} {oc : Value} {od an : Option Addr} {osl : Array (Option Value)} {kV dc pm cdv ct : Value}
    (X : K.In h) (G : h.Ns mainGlobals mg) (hb : ∀ (kV doc pm : Value) (an : Option Addr) (cdv ct : Value) (us : List Value), us.length = ps.length →
      bindArgs (PySem.W.fnOf "__init__" qual (defArgs st) (defBody st) (defScope st) .none kV doc pm an cdv ct) ⟨us, []⟩ = pure (ps.zip us))
    (aC : PySem.W.nsIn K mainGlobals x = some (some (.ref C))) (hc : clsB K C fs = true) (a : PySem.W.findIn K (.ref C) "__init__" = some (some (.ref f))) (i : PySem.W.isFn K (.ref f) = true)
    (l : K.lookup f = some ⟨oc, od, .func (PySem.W.fnOf "__init__" qual (defArgs st) (defBody st) (defScope st) .none kV dc pm an cdv ct), osl⟩)
    (c : PySem.W.codeIn K cdv qual = true) (k : PySem.W.keepIn K (.ref f) = true) : Nonempty (MkDef K mg C x qual st ps) := by
  obtain ⟨_, h2, h3, _⟩ := clsB_of hc
  exact ⟨⟨f, _, fun_mk l c k, ⟨h2, a, i, h3⟩, (fun_mk (st := st) l c k).binds hb, PySem.W.mg_of X G aC⟩⟩
def Cof (a1 a2 a3 a4 a5 a6 a7 a8 a9 a10 : Addr) : Er → Addr
  | .deal => a1 | .noDealing => a2 | .over => a3 | .noName => a4 | .noValue => a5 | .noMark => a6 | .taken => a7 | .late => a8 | .crossed => a9 | .unlike => a10
end Kt

namespace Kt
open PySem PySem.Spec PyProof.Rows L2 GxR Kr

set_option maxHeartbeats 4000000 in
theorem all_mk {l : PySem.W.OpenLaw} {w : World} {K : PySem.W.Frag} {h : Heap} {mg : Str → Option Value} {fa : Addr} (X : K.In h) (G : h.Ns mainGlobals mg) (hfa : mg "law" = some (.ref fa)) (hT : ∀ nm ∈ (["read_under_again"] : List Str), TabOf nm mg h)
    {f_is_under : Addr} {od_is_under an_is_under : Option Addr} {sl_is_under : Array (Option Value)} {oc_is_under kV_is_under dc_is_under pm_is_under ct_is_under : Value} {cd_is_under : Value}
    (a_is_under : PySem.W.nsIn K mainGlobals "is_under" = some (some (.ref f_is_under)))
    (l_is_under : K.lookup f_is_under = some ⟨oc_is_under, od_is_under, .func (PySem.W.fnOf "is_under" "is_under" (defArgs s_is_under) (defBody s_is_under) (defScope s_is_under) .none kV_is_under dc_is_under pm_is_under an_is_under cd_is_under ct_is_under), sl_is_under⟩)
    (c_is_under : PySem.W.codeIn K cd_is_under "is_under" = true) (k_is_under : PySem.W.keepIn K (.ref f_is_under) = true)
    {f_pairs_of : Addr} {od_pairs_of an_pairs_of : Option Addr} {sl_pairs_of : Array (Option Value)} {oc_pairs_of kV_pairs_of dc_pairs_of pm_pairs_of ct_pairs_of : Value} {cd_pairs_of : Value}
    (a_pairs_of : PySem.W.nsIn K mainGlobals "pairs_of" = some (some (.ref f_pairs_of)))
    (l_pairs_of : K.lookup f_pairs_of = some ⟨oc_pairs_of, od_pairs_of, .func (PySem.W.fnOf "pairs_of" "pairs_of" (defArgs s_pairs_of) (defBody s_pairs_of) (defScope s_pairs_of) .none kV_pairs_of dc_pairs_of pm_pairs_of an_pairs_of cd_pairs_of ct_pairs_of), sl_pairs_of⟩)
    (c_pairs_of : PySem.W.codeIn K cd_pairs_of "pairs_of" = true) (k_pairs_of : PySem.W.keepIn K (.ref f_pairs_of) = true)
    {f_walked : Addr} {od_walked an_walked : Option Addr} {sl_walked : Array (Option Value)} {oc_walked kV_walked dc_walked pm_walked ct_walked : Value} {cd_walked : Value}
    (a_walked : PySem.W.nsIn K mainGlobals "walked" = some (some (.ref f_walked)))
    (l_walked : K.lookup f_walked = some ⟨oc_walked, od_walked, .func (PySem.W.fnOf "walked" "walked" (defArgs s_walked) (defBody s_walked) (defScope s_walked) .none kV_walked dc_walked pm_walked an_walked cd_walked ct_walked), sl_walked⟩)
    (c_walked : PySem.W.codeIn K cd_walked "walked" = true) (k_walked : PySem.W.keepIn K (.ref f_walked) = true)
    {f_do_again : Addr} {od_do_again an_do_again : Option Addr} {sl_do_again : Array (Option Value)} {oc_do_again kV_do_again dc_do_again pm_do_again ct_do_again : Value} {cd_do_again : Value}
    (a_do_again : PySem.W.nsIn K mainGlobals "do_again" = some (some (.ref f_do_again)))
    (l_do_again : K.lookup f_do_again = some ⟨oc_do_again, od_do_again, .func (PySem.W.fnOf "do_again" "do_again" (defArgs s_do_again) (defBody s_do_again) (defScope s_do_again) .none kV_do_again dc_do_again pm_do_again an_do_again cd_do_again ct_do_again), sl_do_again⟩)
    (c_do_again : PySem.W.codeIn K cd_do_again "do_again" = true) (k_do_again : PySem.W.keepIn K (.ref f_do_again) = true)
    {f_read_again : Addr} {od_read_again an_read_again : Option Addr} {sl_read_again : Array (Option Value)} {oc_read_again kV_read_again dc_read_again pm_read_again ct_read_again : Value} {cd_read_again : Value}
    (a_read_again : PySem.W.nsIn K mainGlobals "read_again" = some (some (.ref f_read_again)))
    (l_read_again : K.lookup f_read_again = some ⟨oc_read_again, od_read_again, .func (PySem.W.fnOf "read_again" "read_again" (defArgs s_read_again) (defBody s_read_again) (defScope s_read_again) .none kV_read_again dc_read_again pm_read_again an_read_again cd_read_again ct_read_again), sl_read_again⟩)
    (c_read_again : PySem.W.codeIn K cd_read_again "read_again" = true) (k_read_again : PySem.W.keepIn K (.ref f_read_again) = true)
    {f_read_under_again : Addr} {od_read_under_again an_read_under_again : Option Addr} {sl_read_under_again : Array (Option Value)} {oc_read_under_again kV_read_under_again dc_read_under_again pm_read_under_again ct_read_under_again : Value} {o_read_under_again : Addr}
    (a_read_under_again : PySem.W.nsIn K mainGlobals "read_under_again" = some (some (.ref f_read_under_again)))
    (l_read_under_again : K.lookup f_read_under_again = some ⟨oc_read_under_again, od_read_under_again, .func (PySem.W.fnOf "read_under_again" "read_under_again" (defArgs s_read_under_again) (defBody s_read_under_again) (defScope s_read_under_again) .none kV_read_under_again dc_read_under_again pm_read_under_again an_read_under_again (.ref o_read_under_again) ct_read_under_again), sl_read_under_again⟩)
    (c_read_under_again : PySem.W.codeIn K (.ref o_read_under_again) "read_under_again" = true) (k_read_under_again : PySem.W.keepIn K (.ref f_read_under_again) = true)
    {f_is_same : Addr} {od_is_same an_is_same : Option Addr} {sl_is_same : Array (Option Value)} {oc_is_same kV_is_same dc_is_same pm_is_same ct_is_same : Value} {cd_is_same : Value}
    (a_is_same : PySem.W.nsIn K mainGlobals "is_same" = some (some (.ref f_is_same)))
    (l_is_same : K.lookup f_is_same = some ⟨oc_is_same, od_is_same, .func (PySem.W.fnOf "is_same" "is_same" (defArgs s_is_same) (defBody s_is_same) (defScope s_is_same) .none kV_is_same dc_is_same pm_is_same an_is_same cd_is_same ct_is_same), sl_is_same⟩)
    (c_is_same : PySem.W.codeIn K cd_is_same "is_same" = true) (k_is_same : PySem.W.keepIn K (.ref f_is_same) = true)
    {f_law_whole : Addr} {od_law_whole an_law_whole : Option Addr} {sl_law_whole : Array (Option Value)} {oc_law_whole kV_law_whole dc_law_whole pm_law_whole ct_law_whole : Value} {cd_law_whole : Value}
    (a_law_whole : PySem.W.nsIn K mainGlobals "_law_whole" = some (some (.ref f_law_whole)))
    (l_law_whole : K.lookup f_law_whole = some ⟨oc_law_whole, od_law_whole, .func (PySem.W.fnOf "_law_whole" "_law_whole" (defArgs s_law_whole) (defBody s_law_whole) (defScope s_law_whole) .none kV_law_whole dc_law_whole pm_law_whole an_law_whole cd_law_whole ct_law_whole), sl_law_whole⟩)
    (c_law_whole : PySem.W.codeIn K cd_law_whole "_law_whole" = true) (k_law_whole : PySem.W.keepIn K (.ref f_law_whole) = true)
    {f_law_cell_at : Addr} {od_law_cell_at an_law_cell_at : Option Addr} {sl_law_cell_at : Array (Option Value)} {oc_law_cell_at kV_law_cell_at dc_law_cell_at pm_law_cell_at ct_law_cell_at : Value} {cd_law_cell_at : Value}
    (a_law_cell_at : PySem.W.nsIn K mainGlobals "_law_cell_at" = some (some (.ref f_law_cell_at)))
    (l_law_cell_at : K.lookup f_law_cell_at = some ⟨oc_law_cell_at, od_law_cell_at, .func (PySem.W.fnOf "_law_cell_at" "_law_cell_at" (defArgs s_law_cell_at) (defBody s_law_cell_at) (defScope s_law_cell_at) .none kV_law_cell_at dc_law_cell_at pm_law_cell_at an_law_cell_at cd_law_cell_at ct_law_cell_at), sl_law_cell_at⟩)
    (c_law_cell_at : PySem.W.codeIn K cd_law_cell_at "_law_cell_at" = true) (k_law_cell_at : PySem.W.keepIn K (.ref f_law_cell_at) = true)
    {f_law_mixed : Addr} {od_law_mixed an_law_mixed : Option Addr} {sl_law_mixed : Array (Option Value)} {oc_law_mixed kV_law_mixed dc_law_mixed pm_law_mixed ct_law_mixed : Value} {cd_law_mixed : Value}
    (a_law_mixed : PySem.W.nsIn K mainGlobals "_law_mixed" = some (some (.ref f_law_mixed)))
    (l_law_mixed : K.lookup f_law_mixed = some ⟨oc_law_mixed, od_law_mixed, .func (PySem.W.fnOf "_law_mixed" "_law_mixed" (defArgs s_law_mixed) (defBody s_law_mixed) (defScope s_law_mixed) .none kV_law_mixed dc_law_mixed pm_law_mixed an_law_mixed cd_law_mixed ct_law_mixed), sl_law_mixed⟩)
    (c_law_mixed : PySem.W.codeIn K cd_law_mixed "_law_mixed" = true) (k_law_mixed : PySem.W.keepIn K (.ref f_law_mixed) = true)
    {f_law_name_by : Addr} {od_law_name_by an_law_name_by : Option Addr} {sl_law_name_by : Array (Option Value)} {oc_law_name_by kV_law_name_by dc_law_name_by pm_law_name_by ct_law_name_by : Value} {cd_law_name_by : Value}
    (a_law_name_by : PySem.W.nsIn K mainGlobals "_law_name_by" = some (some (.ref f_law_name_by)))
    (l_law_name_by : K.lookup f_law_name_by = some ⟨oc_law_name_by, od_law_name_by, .func (PySem.W.fnOf "_law_name_by" "_law_name_by" (defArgs s_law_name_by) (defBody s_law_name_by) (defScope s_law_name_by) .none kV_law_name_by dc_law_name_by pm_law_name_by an_law_name_by cd_law_name_by ct_law_name_by), sl_law_name_by⟩)
    (c_law_name_by : PySem.W.codeIn K cd_law_name_by "_law_name_by" = true) (k_law_name_by : PySem.W.keepIn K (.ref f_law_name_by) = true)
    {f_law_twin : Addr} {od_law_twin an_law_twin : Option Addr} {sl_law_twin : Array (Option Value)} {oc_law_twin kV_law_twin dc_law_twin pm_law_twin ct_law_twin : Value} {cd_law_twin : Value}
    (a_law_twin : PySem.W.nsIn K mainGlobals "_law_twin" = some (some (.ref f_law_twin)))
    (l_law_twin : K.lookup f_law_twin = some ⟨oc_law_twin, od_law_twin, .func (PySem.W.fnOf "_law_twin" "_law_twin" (defArgs s_law_twin) (defBody s_law_twin) (defScope s_law_twin) .none kV_law_twin dc_law_twin pm_law_twin an_law_twin cd_law_twin ct_law_twin), sl_law_twin⟩)
    (c_law_twin : PySem.W.codeIn K cd_law_twin "_law_twin" = true) (k_law_twin : PySem.W.keepIn K (.ref f_law_twin) = true)
    {f_law_pool : Addr} {od_law_pool an_law_pool : Option Addr} {sl_law_pool : Array (Option Value)} {oc_law_pool kV_law_pool dc_law_pool pm_law_pool ct_law_pool : Value} {cd_law_pool : Value}
    (a_law_pool : PySem.W.nsIn K mainGlobals "_law_pool" = some (some (.ref f_law_pool)))
    (l_law_pool : K.lookup f_law_pool = some ⟨oc_law_pool, od_law_pool, .func (PySem.W.fnOf "_law_pool" "_law_pool" (defArgs s_law_pool) (defBody s_law_pool) (defScope s_law_pool) .none kV_law_pool dc_law_pool pm_law_pool an_law_pool cd_law_pool ct_law_pool), sl_law_pool⟩)
    (c_law_pool : PySem.W.codeIn K cd_law_pool "_law_pool" = true) (k_law_pool : PySem.W.keepIn K (.ref f_law_pool) = true)
    {f_law_value_by : Addr} {od_law_value_by an_law_value_by : Option Addr} {sl_law_value_by : Array (Option Value)} {oc_law_value_by kV_law_value_by dc_law_value_by pm_law_value_by ct_law_value_by : Value} {cd_law_value_by : Value}
    (a_law_value_by : PySem.W.nsIn K mainGlobals "_law_value_by" = some (some (.ref f_law_value_by)))
    (l_law_value_by : K.lookup f_law_value_by = some ⟨oc_law_value_by, od_law_value_by, .func (PySem.W.fnOf "_law_value_by" "_law_value_by" (defArgs s_law_value_by) (defBody s_law_value_by) (defScope s_law_value_by) .none kV_law_value_by dc_law_value_by pm_law_value_by an_law_value_by cd_law_value_by ct_law_value_by), sl_law_value_by⟩)
    (c_law_value_by : PySem.W.codeIn K cd_law_value_by "_law_value_by" = true) (k_law_value_by : PySem.W.keepIn K (.ref f_law_value_by) = true)
    {f_law_same : Addr} {od_law_same an_law_same : Option Addr} {sl_law_same : Array (Option Value)} {oc_law_same kV_law_same dc_law_same pm_law_same ct_law_same : Value} {cd_law_same : Value}
    (a_law_same : PySem.W.nsIn K mainGlobals "_law_same" = some (some (.ref f_law_same)))
    (l_law_same : K.lookup f_law_same = some ⟨oc_law_same, od_law_same, .func (PySem.W.fnOf "_law_same" "_law_same" (defArgs s_law_same) (defBody s_law_same) (defScope s_law_same) .none kV_law_same dc_law_same pm_law_same an_law_same cd_law_same ct_law_same), sl_law_same⟩)
    (c_law_same : PySem.W.codeIn K cd_law_same "_law_same" = true) (k_law_same : PySem.W.keepIn K (.ref f_law_same) = true)
    {f_law_pairs : Addr} {od_law_pairs an_law_pairs : Option Addr} {sl_law_pairs : Array (Option Value)} {oc_law_pairs kV_law_pairs dc_law_pairs pm_law_pairs ct_law_pairs : Value} {cd_law_pairs : Value}
    (a_law_pairs : PySem.W.nsIn K mainGlobals "_law_pairs" = some (some (.ref f_law_pairs)))
    (l_law_pairs : K.lookup f_law_pairs = some ⟨oc_law_pairs, od_law_pairs, .func (PySem.W.fnOf "_law_pairs" "_law_pairs" (defArgs s_law_pairs) (defBody s_law_pairs) (defScope s_law_pairs) .none kV_law_pairs dc_law_pairs pm_law_pairs an_law_pairs cd_law_pairs ct_law_pairs), sl_law_pairs⟩)
    (c_law_pairs : PySem.W.codeIn K cd_law_pairs "_law_pairs" = true) (k_law_pairs : PySem.W.keepIn K (.ref f_law_pairs) = true)
    {f_law_last : Addr} {od_law_last an_law_last : Option Addr} {sl_law_last : Array (Option Value)} {oc_law_last kV_law_last dc_law_last pm_law_last ct_law_last : Value} {cd_law_last : Value}
    (a_law_last : PySem.W.nsIn K mainGlobals "_law_last" = some (some (.ref f_law_last)))
    (l_law_last : K.lookup f_law_last = some ⟨oc_law_last, od_law_last, .func (PySem.W.fnOf "_law_last" "_law_last" (defArgs s_law_last) (defBody s_law_last) (defScope s_law_last) .none kV_law_last dc_law_last pm_law_last an_law_last cd_law_last ct_law_last), sl_law_last⟩)
    (c_law_last : PySem.W.codeIn K cd_law_last "_law_last" = true) (k_law_last : PySem.W.keepIn K (.ref f_law_last) = true)
    {f_law_told_under : Addr} {od_law_told_under an_law_told_under : Option Addr} {sl_law_told_under : Array (Option Value)} {oc_law_told_under kV_law_told_under dc_law_told_under pm_law_told_under ct_law_told_under : Value} {cd_law_told_under : Value}
    (a_law_told_under : PySem.W.nsIn K mainGlobals "_law_told_under" = some (some (.ref f_law_told_under)))
    (l_law_told_under : K.lookup f_law_told_under = some ⟨oc_law_told_under, od_law_told_under, .func (PySem.W.fnOf "_law_told_under" "_law_told_under" (defArgs s_law_told_under) (defBody s_law_told_under) (defScope s_law_told_under) .none kV_law_told_under dc_law_told_under pm_law_told_under an_law_told_under cd_law_told_under ct_law_told_under), sl_law_told_under⟩)
    (c_law_told_under : PySem.W.codeIn K cd_law_told_under "_law_told_under" = true) (k_law_told_under : PySem.W.keepIn K (.ref f_law_told_under) = true)
    {f_law_deed_by : Addr} {od_law_deed_by an_law_deed_by : Option Addr} {sl_law_deed_by : Array (Option Value)} {oc_law_deed_by kV_law_deed_by dc_law_deed_by pm_law_deed_by ct_law_deed_by : Value} {cd_law_deed_by : Value}
    (a_law_deed_by : PySem.W.nsIn K mainGlobals "_law_deed_by" = some (some (.ref f_law_deed_by)))
    (l_law_deed_by : K.lookup f_law_deed_by = some ⟨oc_law_deed_by, od_law_deed_by, .func (PySem.W.fnOf "_law_deed_by" "_law_deed_by" (defArgs s_law_deed_by) (defBody s_law_deed_by) (defScope s_law_deed_by) .none kV_law_deed_by dc_law_deed_by pm_law_deed_by an_law_deed_by cd_law_deed_by ct_law_deed_by), sl_law_deed_by⟩)
    (c_law_deed_by : PySem.W.codeIn K cd_law_deed_by "_law_deed_by" = true) (k_law_deed_by : PySem.W.keepIn K (.ref f_law_deed_by) = true)
    {f_law_spoiled : Addr} {od_law_spoiled an_law_spoiled : Option Addr} {sl_law_spoiled : Array (Option Value)} {oc_law_spoiled kV_law_spoiled dc_law_spoiled pm_law_spoiled ct_law_spoiled : Value} {cd_law_spoiled : Value}
    (a_law_spoiled : PySem.W.nsIn K mainGlobals "_law_spoiled" = some (some (.ref f_law_spoiled)))
    (l_law_spoiled : K.lookup f_law_spoiled = some ⟨oc_law_spoiled, od_law_spoiled, .func (PySem.W.fnOf "_law_spoiled" "_law_spoiled" (defArgs s_law_spoiled) (defBody s_law_spoiled) (defScope s_law_spoiled) .none kV_law_spoiled dc_law_spoiled pm_law_spoiled an_law_spoiled cd_law_spoiled ct_law_spoiled), sl_law_spoiled⟩)
    (c_law_spoiled : PySem.W.codeIn K cd_law_spoiled "_law_spoiled" = true) (k_law_spoiled : PySem.W.keepIn K (.ref f_law_spoiled) = true)
    {f_law_rows_by : Addr} {od_law_rows_by an_law_rows_by : Option Addr} {sl_law_rows_by : Array (Option Value)} {oc_law_rows_by kV_law_rows_by dc_law_rows_by pm_law_rows_by ct_law_rows_by : Value} {cd_law_rows_by : Value}
    (a_law_rows_by : PySem.W.nsIn K mainGlobals "_law_rows_by" = some (some (.ref f_law_rows_by)))
    (l_law_rows_by : K.lookup f_law_rows_by = some ⟨oc_law_rows_by, od_law_rows_by, .func (PySem.W.fnOf "_law_rows_by" "_law_rows_by" (defArgs s_law_rows_by) (defBody s_law_rows_by) (defScope s_law_rows_by) .none kV_law_rows_by dc_law_rows_by pm_law_rows_by an_law_rows_by cd_law_rows_by ct_law_rows_by), sl_law_rows_by⟩)
    (c_law_rows_by : PySem.W.codeIn K cd_law_rows_by "_law_rows_by" = true) (k_law_rows_by : PySem.W.keepIn K (.ref f_law_rows_by) = true)
    {f_law_alike : Addr} {od_law_alike an_law_alike : Option Addr} {sl_law_alike : Array (Option Value)} {oc_law_alike kV_law_alike dc_law_alike pm_law_alike ct_law_alike : Value} {cd_law_alike : Value}
    (a_law_alike : PySem.W.nsIn K mainGlobals "_law_alike" = some (some (.ref f_law_alike)))
    (l_law_alike : K.lookup f_law_alike = some ⟨oc_law_alike, od_law_alike, .func (PySem.W.fnOf "_law_alike" "_law_alike" (defArgs s_law_alike) (defBody s_law_alike) (defScope s_law_alike) .none kV_law_alike dc_law_alike pm_law_alike an_law_alike cd_law_alike ct_law_alike), sl_law_alike⟩)
    (c_law_alike : PySem.W.codeIn K cd_law_alike "_law_alike" = true) (k_law_alike : PySem.W.keepIn K (.ref f_law_alike) = true)
    {f_law_copied : Addr} {od_law_copied an_law_copied : Option Addr} {sl_law_copied : Array (Option Value)} {oc_law_copied kV_law_copied dc_law_copied pm_law_copied ct_law_copied : Value} {cd_law_copied : Value}
    (a_law_copied : PySem.W.nsIn K mainGlobals "_law_copied" = some (some (.ref f_law_copied)))
    (l_law_copied : K.lookup f_law_copied = some ⟨oc_law_copied, od_law_copied, .func (PySem.W.fnOf "_law_copied" "_law_copied" (defArgs s_law_copied) (defBody s_law_copied) (defScope s_law_copied) .none kV_law_copied dc_law_copied pm_law_copied an_law_copied cd_law_copied ct_law_copied), sl_law_copied⟩)
    (c_law_copied : PySem.W.codeIn K cd_law_copied "_law_copied" = true) (k_law_copied : PySem.W.keepIn K (.ref f_law_copied) = true)
    {f_law_refused_by_any : Addr} {od_law_refused_by_any an_law_refused_by_any : Option Addr} {sl_law_refused_by_any : Array (Option Value)} {oc_law_refused_by_any kV_law_refused_by_any dc_law_refused_by_any pm_law_refused_by_any ct_law_refused_by_any : Value} {cd_law_refused_by_any : Value}
    (a_law_refused_by_any : PySem.W.nsIn K mainGlobals "_law_refused_by_any" = some (some (.ref f_law_refused_by_any)))
    (l_law_refused_by_any : K.lookup f_law_refused_by_any = some ⟨oc_law_refused_by_any, od_law_refused_by_any, .func (PySem.W.fnOf "_law_refused_by_any" "_law_refused_by_any" (defArgs s_law_refused_by_any) (defBody s_law_refused_by_any) (defScope s_law_refused_by_any) .none kV_law_refused_by_any dc_law_refused_by_any pm_law_refused_by_any an_law_refused_by_any cd_law_refused_by_any ct_law_refused_by_any), sl_law_refused_by_any⟩)
    (c_law_refused_by_any : PySem.W.codeIn K cd_law_refused_by_any "_law_refused_by_any" = true) (k_law_refused_by_any : PySem.W.keepIn K (.ref f_law_refused_by_any) = true)
    {f_law : Addr} {od_law an_law : Option Addr} {sl_law : Array (Option Value)} {oc_law kV_law dc_law pm_law ct_law : Value} {cd_law : Value}
    (a_law : PySem.W.nsIn K mainGlobals "law" = some (some (.ref f_law)))
    (l_law : K.lookup f_law = some ⟨oc_law, od_law, .func (PySem.W.fnOf "law" "law" (defArgs s_law) (defBody s_law) (defScope s_law) .none kV_law dc_law pm_law an_law cd_law ct_law), sl_law⟩)
    (c_law : PySem.W.codeIn K cd_law "law" = true) (k_law : PySem.W.keepIn K (.ref f_law) = true)
    {C_W : Addr} (a_C_W : PySem.W.nsIn K mainGlobals "Writes" = some (some (.ref C_W))) (b_C_W : clsB K C_W ["_standing", "_worths"] = true)
    {f_Writes___init__ : Addr} {od_Writes___init__ an_Writes___init__ : Option Addr} {sl_Writes___init__ : Array (Option Value)} {oc_Writes___init__ kV_Writes___init__ dc_Writes___init__ pm_Writes___init__ ct_Writes___init__ : Value} {cd_Writes___init__ : Value}
    (a_Writes___init__ : PySem.W.findIn K (.ref C_W) "__init__" = some (some (.ref f_Writes___init__))) (i_Writes___init__ : PySem.W.isFn K (.ref f_Writes___init__) = true)
    (l_Writes___init__ : K.lookup f_Writes___init__ = some ⟨oc_Writes___init__, od_Writes___init__, .func (PySem.W.fnOf "__init__" "Writes.__init__" (defArgs s_Writes___init__) (defBody s_Writes___init__) (defScope s_Writes___init__) .none kV_Writes___init__ dc_Writes___init__ pm_Writes___init__ an_Writes___init__ cd_Writes___init__ ct_Writes___init__), sl_Writes___init__⟩)
    (c_Writes___init__ : PySem.W.codeIn K cd_Writes___init__ "Writes.__init__" = true) (k_Writes___init__ : PySem.W.keepIn K (.ref f_Writes___init__) = true)
    {f_Writes_add_write : Addr} {od_Writes_add_write an_Writes_add_write : Option Addr} {sl_Writes_add_write : Array (Option Value)} {oc_Writes_add_write kV_Writes_add_write dc_Writes_add_write pm_Writes_add_write ct_Writes_add_write : Value} {cd_Writes_add_write : Value}
    (a_Writes_add_write : PySem.W.findIn K (.ref C_W) "add_write" = some (some (.ref f_Writes_add_write))) (i_Writes_add_write : PySem.W.isFn K (.ref f_Writes_add_write) = true)
    (l_Writes_add_write : K.lookup f_Writes_add_write = some ⟨oc_Writes_add_write, od_Writes_add_write, .func (PySem.W.fnOf "add_write" "Writes.add_write" (defArgs s_Writes_add_write) (defBody s_Writes_add_write) (defScope s_Writes_add_write) .none kV_Writes_add_write dc_Writes_add_write pm_Writes_add_write an_Writes_add_write cd_Writes_add_write ct_Writes_add_write), sl_Writes_add_write⟩)
    (c_Writes_add_write : PySem.W.codeIn K cd_Writes_add_write "Writes.add_write" = true) (k_Writes_add_write : PySem.W.keepIn K (.ref f_Writes_add_write) = true)
    {f_Writes_names : Addr} {od_Writes_names an_Writes_names : Option Addr} {sl_Writes_names : Array (Option Value)} {oc_Writes_names kV_Writes_names dc_Writes_names pm_Writes_names ct_Writes_names : Value} {cd_Writes_names : Value}
    (a_Writes_names : PySem.W.findIn K (.ref C_W) "names" = some (some (.ref f_Writes_names))) (i_Writes_names : PySem.W.isFn K (.ref f_Writes_names) = true)
    (l_Writes_names : K.lookup f_Writes_names = some ⟨oc_Writes_names, od_Writes_names, .func (PySem.W.fnOf "names" "Writes.names" (defArgs s_Writes_names) (defBody s_Writes_names) (defScope s_Writes_names) .none kV_Writes_names dc_Writes_names pm_Writes_names an_Writes_names cd_Writes_names ct_Writes_names), sl_Writes_names⟩)
    (c_Writes_names : PySem.W.codeIn K cd_Writes_names "Writes.names" = true) (k_Writes_names : PySem.W.keepIn K (.ref f_Writes_names) = true)
    {f_Writes_touches : Addr} {od_Writes_touches an_Writes_touches : Option Addr} {sl_Writes_touches : Array (Option Value)} {oc_Writes_touches kV_Writes_touches dc_Writes_touches pm_Writes_touches ct_Writes_touches : Value} {cd_Writes_touches : Value}
    (a_Writes_touches : PySem.W.findIn K (.ref C_W) "touches" = some (some (.ref f_Writes_touches))) (i_Writes_touches : PySem.W.isFn K (.ref f_Writes_touches) = true)
    (l_Writes_touches : K.lookup f_Writes_touches = some ⟨oc_Writes_touches, od_Writes_touches, .func (PySem.W.fnOf "touches" "Writes.touches" (defArgs s_Writes_touches) (defBody s_Writes_touches) (defScope s_Writes_touches) .none kV_Writes_touches dc_Writes_touches pm_Writes_touches an_Writes_touches cd_Writes_touches ct_Writes_touches), sl_Writes_touches⟩)
    (c_Writes_touches : PySem.W.codeIn K cd_Writes_touches "Writes.touches" = true) (k_Writes_touches : PySem.W.keepIn K (.ref f_Writes_touches) = true)
    {f_Writes_last : Addr} {od_Writes_last an_Writes_last : Option Addr} {sl_Writes_last : Array (Option Value)} {oc_Writes_last kV_Writes_last dc_Writes_last pm_Writes_last ct_Writes_last : Value} {cd_Writes_last : Value}
    (a_Writes_last : PySem.W.findIn K (.ref C_W) "last" = some (some (.ref f_Writes_last))) (i_Writes_last : PySem.W.isFn K (.ref f_Writes_last) = true)
    (l_Writes_last : K.lookup f_Writes_last = some ⟨oc_Writes_last, od_Writes_last, .func (PySem.W.fnOf "last" "Writes.last" (defArgs s_Writes_last) (defBody s_Writes_last) (defScope s_Writes_last) .none kV_Writes_last dc_Writes_last pm_Writes_last an_Writes_last cd_Writes_last ct_Writes_last), sl_Writes_last⟩)
    (c_Writes_last : PySem.W.codeIn K cd_Writes_last "Writes.last" = true) (k_Writes_last : PySem.W.keepIn K (.ref f_Writes_last) = true)
    {f_Writes_cut : Addr} {od_Writes_cut an_Writes_cut : Option Addr} {sl_Writes_cut : Array (Option Value)} {oc_Writes_cut kV_Writes_cut dc_Writes_cut pm_Writes_cut ct_Writes_cut : Value} {cd_Writes_cut : Value}
    (a_Writes_cut : PySem.W.findIn K (.ref C_W) "cut" = some (some (.ref f_Writes_cut))) (i_Writes_cut : PySem.W.isFn K (.ref f_Writes_cut) = true)
    (l_Writes_cut : K.lookup f_Writes_cut = some ⟨oc_Writes_cut, od_Writes_cut, .func (PySem.W.fnOf "cut" "Writes.cut" (defArgs s_Writes_cut) (defBody s_Writes_cut) (defScope s_Writes_cut) .none kV_Writes_cut dc_Writes_cut pm_Writes_cut an_Writes_cut cd_Writes_cut ct_Writes_cut), sl_Writes_cut⟩)
    (c_Writes_cut : PySem.W.codeIn K cd_Writes_cut "Writes.cut" = true) (k_Writes_cut : PySem.W.keepIn K (.ref f_Writes_cut) = true)
    {f_Writes_told : Addr} {od_Writes_told an_Writes_told : Option Addr} {sl_Writes_told : Array (Option Value)} {oc_Writes_told kV_Writes_told dc_Writes_told pm_Writes_told ct_Writes_told : Value} {cd_Writes_told : Value}
    (a_Writes_told : PySem.W.findIn K (.ref C_W) "told" = some (some (.ref f_Writes_told))) (i_Writes_told : PySem.W.isFn K (.ref f_Writes_told) = true)
    (l_Writes_told : K.lookup f_Writes_told = some ⟨oc_Writes_told, od_Writes_told, .func (PySem.W.fnOf "told" "Writes.told" (defArgs s_Writes_told) (defBody s_Writes_told) (defScope s_Writes_told) .none kV_Writes_told dc_Writes_told pm_Writes_told an_Writes_told cd_Writes_told ct_Writes_told), sl_Writes_told⟩)
    (c_Writes_told : PySem.W.codeIn K cd_Writes_told "Writes.told" = true) (k_Writes_told : PySem.W.keepIn K (.ref f_Writes_told) = true)
    {f_Writes_told_under : Addr} {od_Writes_told_under an_Writes_told_under : Option Addr} {sl_Writes_told_under : Array (Option Value)} {oc_Writes_told_under kV_Writes_told_under dc_Writes_told_under pm_Writes_told_under ct_Writes_told_under : Value} {cd_Writes_told_under : Value}
    (a_Writes_told_under : PySem.W.findIn K (.ref C_W) "told_under" = some (some (.ref f_Writes_told_under))) (i_Writes_told_under : PySem.W.isFn K (.ref f_Writes_told_under) = true)
    (l_Writes_told_under : K.lookup f_Writes_told_under = some ⟨oc_Writes_told_under, od_Writes_told_under, .func (PySem.W.fnOf "told_under" "Writes.told_under" (defArgs s_Writes_told_under) (defBody s_Writes_told_under) (defScope s_Writes_told_under) .none kV_Writes_told_under dc_Writes_told_under pm_Writes_told_under an_Writes_told_under cd_Writes_told_under ct_Writes_told_under), sl_Writes_told_under⟩)
    (c_Writes_told_under : PySem.W.codeIn K cd_Writes_told_under "Writes.told_under" = true) (k_Writes_told_under : PySem.W.keepIn K (.ref f_Writes_told_under) = true)
    {C_DealError : Addr} (a_DealError : PySem.W.nsIn K mainGlobals "DealError" = some (some (.ref C_DealError)))
    {C_NoDealing : Addr} (a_NoDealing : PySem.W.nsIn K mainGlobals "NoDealing" = some (some (.ref C_NoDealing)))
    {C_Over : Addr} (a_Over : PySem.W.nsIn K mainGlobals "Over" = some (some (.ref C_Over)))
    {C_NoName : Addr} (a_NoName : PySem.W.nsIn K mainGlobals "NoName" = some (some (.ref C_NoName)))
    {C_NoValue : Addr} (a_NoValue : PySem.W.nsIn K mainGlobals "NoValue" = some (some (.ref C_NoValue)))
    {C_NoMark : Addr} (a_NoMark : PySem.W.nsIn K mainGlobals "NoMark" = some (some (.ref C_NoMark)))
    {C_Taken : Addr} (a_Taken : PySem.W.nsIn K mainGlobals "Taken" = some (some (.ref C_Taken)))
    {C_Late : Addr} (a_Late : PySem.W.nsIn K mainGlobals "Late" = some (some (.ref C_Late)))
    {C_Crossed : Addr} (a_Crossed : PySem.W.nsIn K mainGlobals "Crossed" = some (some (.ref C_Crossed)))
    {C_Unlike : Addr} (a_Unlike : PySem.W.nsIn K mainGlobals "Unlike" = some (some (.ref C_Unlike)))
    (b_errs : errB K (S10.map fun e => (e, (Cof C_DealError C_NoDealing C_Over C_NoName C_NoValue C_NoMark C_Taken C_Late C_Crossed C_Unlike) e)) = true)
    {te_read_under_again : Value} {td_read_under_again : Option Addr} {tv_read_under_again : Array Value} {ts_read_under_again : Array (Option Value)} {t_read_under_again : Addr} (t1_read_under_again : K.lookup o_read_under_again = some ⟨te_read_under_again, td_read_under_again, .fields tv_read_under_again, ts_read_under_again⟩) (t2_read_under_again : tv_read_under_again[11]? = some (.ref t_read_under_again)) (t3_read_under_again : K.lookup t_read_under_again = none)
    (z_len : PySem.W.nsIn K mainGlobals "len" = some none)
    (z_range : PySem.W.nsIn K mainGlobals "range" = some none)
    (z_list : PySem.W.nsIn K mainGlobals "list" = some none)
    (z_isinstance : PySem.W.nsIn K mainGlobals "isinstance" = some none)
    (z_int : PySem.W.nsIn K mainGlobals "int" = some none)
    (z_bool : PySem.W.nsIn K mainGlobals "bool" = some none)
    (z_enumerate : PySem.W.nsIn K mainGlobals "enumerate" = some none)
    (z_all : PySem.W.nsIn K mainGlobals "all" = some none)
    (z_sorted : PySem.W.nsIn K mainGlobals "sorted" = some none)
    (z_dict : PySem.W.nsIn K mainGlobals "dict" = some none)
    (z_str : PySem.W.nsIn K mainGlobals "str" = some none)
    (z_tuple : PySem.W.nsIn K mainGlobals "tuple" = some none)
    (z_reversed : PySem.W.nsIn K mainGlobals "reversed" = some none)
    (z_ValueError : PySem.W.nsIn K mainGlobals "ValueError" = some none) :
    LamX.LawAtS l w K CX0 9 63 "_law_script" mg fa h := by
  obtain ⟨D_is_under⟩ := def_ex X G (ps := ["name", "head"]) (st := s_is_under) (fun _ _ _ _ _ _ us hl => match us, hl with | [_, _], _ => rfl) a_is_under l_is_under c_is_under k_is_under
  obtain ⟨D_pairs_of⟩ := def_ex X G (ps := ["values"]) (st := s_pairs_of) (fun _ _ _ _ _ _ us hl => match us, hl with | [_], _ => rfl) a_pairs_of l_pairs_of c_pairs_of k_pairs_of
  obtain ⟨D_walked⟩ := def_ex X G (ps := ["rows"]) (st := s_walked) (fun _ _ _ _ _ _ us hl => match us, hl with | [_], _ => rfl) a_walked l_walked c_walked k_walked
  obtain ⟨D_do_again⟩ := def_ex X G (ps := ["deed", "writes", "left"]) (st := s_do_again) (fun _ _ _ _ _ _ us hl => match us, hl with | [_, _, _], _ => rfl) a_do_again l_do_again c_do_again k_do_again
  obtain ⟨D_read_again⟩ := def_ex X G (ps := ["deed", "writes", "left"]) (st := s_read_again) (fun _ _ _ _ _ _ us hl => match us, hl with | [_, _, _], _ => rfl) a_read_again l_read_again c_read_again k_read_again
  obtain ⟨D_read_under_again, e_read_under_again, F_read_under_again⟩ := def_exC X G (ps := ["deed", "writes", "left"]) (st := s_read_under_again) (fun _ _ _ _ _ _ us hl => match us, hl with | [_, _, _], _ => rfl) a_read_under_again l_read_under_again c_read_under_again k_read_under_again
  obtain ⟨D_is_same⟩ := def_ex X G (ps := ["told", "said"]) (st := s_is_same) (fun _ _ _ _ _ _ us hl => match us, hl with | [_, _], _ => rfl) a_is_same l_is_same c_is_same k_is_same
  obtain ⟨D_law_whole⟩ := def_ex X G (ps := ["_law_found"]) (st := s_law_whole) (fun _ _ _ _ _ _ us hl => match us, hl with | [_], _ => rfl) a_law_whole l_law_whole c_law_whole k_law_whole
  obtain ⟨D_law_cell_at⟩ := def_ex X G (ps := ["_law_script", "_law_k"]) (st := s_law_cell_at) (fun _ _ _ _ _ _ us hl => match us, hl with | [_, _], _ => rfl) a_law_cell_at l_law_cell_at c_law_cell_at k_law_cell_at
  obtain ⟨D_law_mixed⟩ := def_ex X G (ps := ["_law_number"]) (st := s_law_mixed) (fun _ _ _ _ _ _ us hl => match us, hl with | [_], _ => rfl) a_law_mixed l_law_mixed c_law_mixed k_law_mixed
  obtain ⟨D_law_name_by⟩ := def_ex X G (ps := ["_law_cell"]) (st := s_law_name_by) (fun _ _ _ _ _ _ us hl => match us, hl with | [_], _ => rfl) a_law_name_by l_law_name_by c_law_name_by k_law_name_by
  obtain ⟨D_law_twin⟩ := def_ex X G (ps := ["_law_name", "_law_cell"]) (st := s_law_twin) (fun _ _ _ _ _ _ us hl => match us, hl with | [_, _], _ => rfl) a_law_twin l_law_twin c_law_twin k_law_twin
  obtain ⟨D_law_pool⟩ := def_ex X G (ps := ["_law_one", "_law_two"]) (st := s_law_pool) (fun _ _ _ _ _ _ us hl => match us, hl with | [_, _], _ => rfl) a_law_pool l_law_pool c_law_pool k_law_pool
  obtain ⟨D_law_value_by⟩ := def_ex X G (ps := ["_law_cell"]) (st := s_law_value_by) (fun _ _ _ _ _ _ us hl => match us, hl with | [_], _ => rfl) a_law_value_by l_law_value_by c_law_value_by k_law_value_by
  obtain ⟨D_law_same⟩ := def_ex X G (ps := ["_law_told", "_law_due"]) (st := s_law_same) (fun _ _ _ _ _ _ us hl => match us, hl with | [_, _], _ => rfl) a_law_same l_law_same c_law_same k_law_same
  obtain ⟨D_law_pairs⟩ := def_ex X G (ps := ["_law_told", "_law_due"]) (st := s_law_pairs) (fun _ _ _ _ _ _ us hl => match us, hl with | [_, _], _ => rfl) a_law_pairs l_law_pairs c_law_pairs k_law_pairs
  obtain ⟨D_law_last⟩ := def_ex X G (ps := ["_law_puts"]) (st := s_law_last) (fun _ _ _ _ _ _ us hl => match us, hl with | [_], _ => rfl) a_law_last l_law_last c_law_last k_law_last
  obtain ⟨D_law_told_under⟩ := def_ex X G (ps := ["_law_left", "_law_own", "_law_head"]) (st := s_law_told_under) (fun _ _ _ _ _ _ us hl => match us, hl with | [_, _, _], _ => rfl) a_law_told_under l_law_told_under c_law_told_under k_law_told_under
  obtain ⟨D_law_deed_by⟩ := def_ex X G (ps := ["_law_left", "_law_puts", "_law_pool_here", "_law_more", "_law_cell"]) (st := s_law_deed_by) (fun _ _ _ _ _ _ us hl => match us, hl with | [_, _, _, _, _], _ => rfl) a_law_deed_by l_law_deed_by c_law_deed_by k_law_deed_by
  obtain ⟨D_law_spoiled⟩ := def_ex X G (ps := ["_law_deed", "_law_way"]) (st := s_law_spoiled) (fun _ _ _ _ _ _ us hl => match us, hl with | [_, _], _ => rfl) a_law_spoiled l_law_spoiled c_law_spoiled k_law_spoiled
  obtain ⟨D_law_rows_by⟩ := def_ex X G (ps := ["_law_cells", "_law_pool_here"]) (st := s_law_rows_by) (fun _ _ _ _ _ _ us hl => match us, hl with | [_, _], _ => rfl) a_law_rows_by l_law_rows_by c_law_rows_by k_law_rows_by
  obtain ⟨D_law_alike⟩ := def_ex X G (ps := ["_law_rows", "_law_others"]) (st := s_law_alike) (fun _ _ _ _ _ _ us hl => match us, hl with | [_, _], _ => rfl) a_law_alike l_law_alike c_law_alike k_law_alike
  obtain ⟨D_law_copied⟩ := def_ex X G (ps := ["_law_deed"]) (st := s_law_copied) (fun _ _ _ _ _ _ us hl => match us, hl with | [_], _ => rfl) a_law_copied l_law_copied c_law_copied k_law_copied
  obtain ⟨D_law_refused_by_any⟩ := def_ex X G (ps := ["_law_rows"]) (st := s_law_refused_by_any) (fun _ _ _ _ _ _ us hl => match us, hl with | [_], _ => rfl) a_law_refused_by_any l_law_refused_by_any c_law_refused_by_any k_law_refused_by_any
  obtain ⟨D_law, e_law, b_law⟩ := def_exL X G (st := s_law) (p := "_law_script") (fun _ _ _ _ _ _ us hl => match us, hl with | [_], _ => rfl) a_law l_law c_law k_law
  have T_W : ClW K C_W := clW_of b_C_W
  obtain ⟨MK_W⟩ := mkdef_ex X G (x := "Writes") (ps := ["self"]) (st := s_Writes___init__) (fun _ _ _ _ _ _ us hl => match us, hl with | [_], _ => rfl) a_C_W b_C_W a_Writes___init__ i_Writes___init__ l_Writes___init__ c_Writes___init__ k_Writes___init__
  obtain ⟨D_Writes_add_write⟩ := mfun_ex (ps := ["self", "name", "value"]) (st := s_Writes_add_write) (fun _ _ _ _ _ _ us hl => match us, hl with | [_, _, _], _ => rfl) a_Writes_add_write i_Writes_add_write l_Writes_add_write c_Writes_add_write k_Writes_add_write
  obtain ⟨D_Writes_names⟩ := mfun_ex (ps := ["self"]) (st := s_Writes_names) (fun _ _ _ _ _ _ us hl => match us, hl with | [_], _ => rfl) a_Writes_names i_Writes_names l_Writes_names c_Writes_names k_Writes_names
  obtain ⟨D_Writes_touches⟩ := mfun_ex (ps := ["self", "name"]) (st := s_Writes_touches) (fun _ _ _ _ _ _ us hl => match us, hl with | [_, _], _ => rfl) a_Writes_touches i_Writes_touches l_Writes_touches c_Writes_touches k_Writes_touches
  obtain ⟨D_Writes_last⟩ := mfun_ex (ps := ["self", "name"]) (st := s_Writes_last) (fun _ _ _ _ _ _ us hl => match us, hl with | [_, _], _ => rfl) a_Writes_last i_Writes_last l_Writes_last c_Writes_last k_Writes_last
  obtain ⟨D_Writes_cut⟩ := mfun_ex (ps := ["self", "many"]) (st := s_Writes_cut) (fun _ _ _ _ _ _ us hl => match us, hl with | [_, _], _ => rfl) a_Writes_cut i_Writes_cut l_Writes_cut c_Writes_cut k_Writes_cut
  obtain ⟨D_Writes_told⟩ := mfun_ex (ps := ["self", "name", "before"]) (st := s_Writes_told) (fun _ _ _ _ _ _ us hl => match us, hl with | [_, _, _], _ => rfl) a_Writes_told i_Writes_told l_Writes_told c_Writes_told k_Writes_told
  obtain ⟨D_Writes_told_under⟩ := mfun_ex (ps := ["self", "head", "before"]) (st := s_Writes_told_under) (fun _ _ _ _ _ _ us hl => match us, hl with | [_, _, _], _ => rfl) a_Writes_told_under i_Writes_told_under l_Writes_told_under c_Writes_told_under k_Writes_told_under
  have ER : Errs K (Cof C_DealError C_NoDealing C_Over C_NoName C_NoValue C_NoMark C_Taken C_Late C_Crossed C_Unlike) S10 := errs_of b_errs
  have R_DealError : ErrD K mg "DealError" ((Cof C_DealError C_NoDealing C_Over C_NoName C_NoValue C_NoMark C_Taken C_Late C_Crossed C_Unlike) .deal) := errd_of b_errs (by decide) (PySem.W.mg_of X G a_DealError)
  have G_DealError : mg "DealError" = some (.ref ((Cof C_DealError C_NoDealing C_Over C_NoName C_NoValue C_NoMark C_Taken C_Late C_Crossed C_Unlike) .deal)) := PySem.W.mg_of X G a_DealError
  have R_NoDealing : ErrD K mg "NoDealing" ((Cof C_DealError C_NoDealing C_Over C_NoName C_NoValue C_NoMark C_Taken C_Late C_Crossed C_Unlike) .noDealing) := errd_of b_errs (by decide) (PySem.W.mg_of X G a_NoDealing)
  have G_NoDealing : mg "NoDealing" = some (.ref ((Cof C_DealError C_NoDealing C_Over C_NoName C_NoValue C_NoMark C_Taken C_Late C_Crossed C_Unlike) .noDealing)) := PySem.W.mg_of X G a_NoDealing
  have R_Over : ErrD K mg "Over" ((Cof C_DealError C_NoDealing C_Over C_NoName C_NoValue C_NoMark C_Taken C_Late C_Crossed C_Unlike) .over) := errd_of b_errs (by decide) (PySem.W.mg_of X G a_Over)
  have G_Over : mg "Over" = some (.ref ((Cof C_DealError C_NoDealing C_Over C_NoName C_NoValue C_NoMark C_Taken C_Late C_Crossed C_Unlike) .over)) := PySem.W.mg_of X G a_Over
  have R_NoName : ErrD K mg "NoName" ((Cof C_DealError C_NoDealing C_Over C_NoName C_NoValue C_NoMark C_Taken C_Late C_Crossed C_Unlike) .noName) := errd_of b_errs (by decide) (PySem.W.mg_of X G a_NoName)
  have G_NoName : mg "NoName" = some (.ref ((Cof C_DealError C_NoDealing C_Over C_NoName C_NoValue C_NoMark C_Taken C_Late C_Crossed C_Unlike) .noName)) := PySem.W.mg_of X G a_NoName
  have R_NoValue : ErrD K mg "NoValue" ((Cof C_DealError C_NoDealing C_Over C_NoName C_NoValue C_NoMark C_Taken C_Late C_Crossed C_Unlike) .noValue) := errd_of b_errs (by decide) (PySem.W.mg_of X G a_NoValue)
  have G_NoValue : mg "NoValue" = some (.ref ((Cof C_DealError C_NoDealing C_Over C_NoName C_NoValue C_NoMark C_Taken C_Late C_Crossed C_Unlike) .noValue)) := PySem.W.mg_of X G a_NoValue
  have R_NoMark : ErrD K mg "NoMark" ((Cof C_DealError C_NoDealing C_Over C_NoName C_NoValue C_NoMark C_Taken C_Late C_Crossed C_Unlike) .noMark) := errd_of b_errs (by decide) (PySem.W.mg_of X G a_NoMark)
  have G_NoMark : mg "NoMark" = some (.ref ((Cof C_DealError C_NoDealing C_Over C_NoName C_NoValue C_NoMark C_Taken C_Late C_Crossed C_Unlike) .noMark)) := PySem.W.mg_of X G a_NoMark
  have R_Taken : ErrD K mg "Taken" ((Cof C_DealError C_NoDealing C_Over C_NoName C_NoValue C_NoMark C_Taken C_Late C_Crossed C_Unlike) .taken) := errd_of b_errs (by decide) (PySem.W.mg_of X G a_Taken)
  have G_Taken : mg "Taken" = some (.ref ((Cof C_DealError C_NoDealing C_Over C_NoName C_NoValue C_NoMark C_Taken C_Late C_Crossed C_Unlike) .taken)) := PySem.W.mg_of X G a_Taken
  have R_Late : ErrD K mg "Late" ((Cof C_DealError C_NoDealing C_Over C_NoName C_NoValue C_NoMark C_Taken C_Late C_Crossed C_Unlike) .late) := errd_of b_errs (by decide) (PySem.W.mg_of X G a_Late)
  have G_Late : mg "Late" = some (.ref ((Cof C_DealError C_NoDealing C_Over C_NoName C_NoValue C_NoMark C_Taken C_Late C_Crossed C_Unlike) .late)) := PySem.W.mg_of X G a_Late
  have R_Crossed : ErrD K mg "Crossed" ((Cof C_DealError C_NoDealing C_Over C_NoName C_NoValue C_NoMark C_Taken C_Late C_Crossed C_Unlike) .crossed) := errd_of b_errs (by decide) (PySem.W.mg_of X G a_Crossed)
  have G_Crossed : mg "Crossed" = some (.ref ((Cof C_DealError C_NoDealing C_Over C_NoName C_NoValue C_NoMark C_Taken C_Late C_Crossed C_Unlike) .crossed)) := PySem.W.mg_of X G a_Crossed
  have R_Unlike : ErrD K mg "Unlike" ((Cof C_DealError C_NoDealing C_Over C_NoName C_NoValue C_NoMark C_Taken C_Late C_Crossed C_Unlike) .unlike) := errd_of b_errs (by decide) (PySem.W.mg_of X G a_Unlike)
  have G_Unlike : mg "Unlike" = some (.ref ((Cof C_DealError C_NoDealing C_Over C_NoName C_NoValue C_NoMark C_Taken C_Late C_Crossed C_Unlike) .unlike)) := PySem.W.mg_of X G a_Unlike
  have q_read_under_again := tab_at X G (hT "read_under_again" (by simp)) a_read_under_again l_read_under_again t1_read_under_again t2_read_under_again
  have m_len := PySem.W.mg_none_of X G z_len
  have m_range := PySem.W.mg_none_of X G z_range
  have m_list := PySem.W.mg_none_of X G z_list
  have m_isinstance := PySem.W.mg_none_of X G z_isinstance
  have m_int := PySem.W.mg_none_of X G z_int
  have m_bool := PySem.W.mg_none_of X G z_bool
  have m_enumerate := PySem.W.mg_none_of X G z_enumerate
  have m_all := PySem.W.mg_none_of X G z_all
  have m_sorted := PySem.W.mg_none_of X G z_sorted
  have m_dict := PySem.W.mg_none_of X G z_dict
  have m_str := PySem.W.mg_none_of X G z_str
  have m_tuple := PySem.W.mg_none_of X G z_tuple
  have m_reversed := PySem.W.mg_none_of X G z_reversed
  have m_ValueError := PySem.W.mg_none_of X G z_ValueError

  refine ⟨D_law.fd, [(o_read_under_again, t_read_under_again)], sp_law (footOf [t_read_under_again]) K, ?_, ?_, ?_, b_law, fun H a ns hl hb hH hS => ?_, fun base _ _ hTB => ?_⟩
  · exact (fun p hp => by
      rcases List.mem_cons.mp hp with z | hp
      · rw [z]
        exact q_read_under_again.2
      cases hp)
  · exact (fun p hp => by
      rcases List.mem_cons.mp hp with z | hp
      · rw [z]
        exact t3_read_under_again
      cases hp)
  · exact (fun p hp => by
      rcases List.mem_cons.mp hp with z | hp
      · rw [z]
        exact q_read_under_again.1
      cases hp)
  ·
    have h_read_under_again : TabG H t_read_under_again := ⟨_, hH (o_read_under_again, t_read_under_again) (by simp), True.intro⟩
    exact ⟨a, ns, rfl, (fun b hb => by rw [List.mem_singleton.mp hb]; exact h_read_under_again), hS, fun _ => rfl⟩
  ·
    have TB_read_under_again := hTB (o_read_under_again, t_read_under_again) (by simp)
    have ef : fa = D_law.f := by
      have e2 := hfa.symm.trans (PySem.W.mg_of X G a_law)
      cases e2
      exact e_law.symm
    rw [ef]
    have G_read_again := ok_read_again (P := l.prog) (w := w) (base := base) (C := (Cof C_DealError C_NoDealing C_Over C_NoName C_NoValue C_NoMark C_Taken C_Late C_Crossed C_Unlike)) T_W R_Unlike D_read_again D_is_same D_Writes_told D_Writes_last D_Writes_touches m_isinstance m_bool
    have G_read_under_again := ok_read_under_again (P := l.prog) (w := w) (base := base) (C := (Cof C_DealError C_NoDealing C_Over C_NoName C_NoValue C_NoMark C_Taken C_Late C_Crossed C_Unlike)) T_W R_Unlike F_read_under_again ⟨TB_read_under_again.code, TB_read_under_again.bm, TB_read_under_again.gP⟩ t3_read_under_again D_is_same D_is_under D_pairs_of D_Writes_told_under D_Writes_last m_isinstance m_bool m_sorted m_all m_range m_len
    have G_do_again := ok_do_again (P := l.prog) (w := w) (base := base) T_W D_do_again D_read_again D_read_under_again G_read_again G_read_under_again D_Writes_add_write D_Writes_cut m_len
    have G_walked := ok_walked (P := l.prog) (w := w) (base := base) T_W MK_W D_walked D_do_again G_do_again D_pairs_of m_sorted D_Writes_names D_Writes_last m_list
    exact ok_law (P := l.prog) (w := w) (base := base) D_law D_law_cell_at D_law_whole D_law_mixed D_law_name_by D_law_twin D_law_pool D_law_value_by D_law_same D_law_pairs D_law_last D_law_told_under D_law_deed_by D_law_spoiled D_law_rows_by D_law_alike D_law_copied D_law_refused_by_any D_walked G_walked ER G_DealError G_NoDealing G_Over G_NoName G_NoValue G_NoMark G_Taken G_Late G_Crossed G_Unlike m_isinstance m_ValueError m_len m_range m_list m_int m_bool m_str m_tuple m_dict m_sorted m_reversed m_enumerate
end Kt
open PySem PySem.W PyProof.Rows
set_option maxHeartbeats 0 in
theorem PySem.Challenge.cw_keptrow_k03_rows_walked_holds : PySem.Challenge.rw_keptrow_k03_rows_walked.Holds := by
  w_on; o_law; k_head; (case hw => w_witness2)
  k_fill
  refine Kt.walk_tabs (l := PySem.Challenge.rw_keptrow_k03_rows_walked) (n := 63) (k := 9) (x := "_law_script") (CX := fun _ => L2.CX0) ["read_under_again"] rfl (by decide) rfl ⟨rfl, by decide, by decide⟩ (by decide +kernel) (fun w h Y => PySem.W.kIn_of Y) ?F (fun _ _ _ _ _ h => h)
  case F =>
    intro w mg fa h Y X KX G hmg hT
    refine' Kt.all_mk KX G hmg hT ?a_is_under ?l_is_under ?c_is_under ?k_is_under ?a_pairs_of ?l_pairs_of ?c_pairs_of ?k_pairs_of ?a_walked ?l_walked ?c_walked ?k_walked ?a_do_again ?l_do_again ?c_do_again ?k_do_again ?a_read_again ?l_read_again ?c_read_again ?k_read_again ?a_read_under_again ?l_read_under_again ?c_read_under_again ?k_read_under_again ?a_is_same ?l_is_same ?c_is_same ?k_is_same ?a_law_whole ?l_law_whole ?c_law_whole ?k_law_whole ?a_law_cell_at ?l_law_cell_at ?c_law_cell_at ?k_law_cell_at ?a_law_mixed ?l_law_mixed ?c_law_mixed ?k_law_mixed ?a_law_name_by ?l_law_name_by ?c_law_name_by ?k_law_name_by ?a_law_twin ?l_law_twin ?c_law_twin ?k_law_twin ?a_law_pool ?l_law_pool ?c_law_pool ?k_law_pool ?a_law_value_by ?l_law_value_by ?c_law_value_by ?k_law_value_by ?a_law_same ?l_law_same ?c_law_same ?k_law_same ?a_law_pairs ?l_law_pairs ?c_law_pairs ?k_law_pairs ?a_law_last ?l_law_last ?c_law_last ?k_law_last ?a_law_told_under ?l_law_told_under ?c_law_told_under ?k_law_told_under ?a_law_deed_by ?l_law_deed_by ?c_law_deed_by ?k_law_deed_by ?a_law_spoiled ?l_law_spoiled ?c_law_spoiled ?k_law_spoiled ?a_law_rows_by ?l_law_rows_by ?c_law_rows_by ?k_law_rows_by ?a_law_alike ?l_law_alike ?c_law_alike ?k_law_alike ?a_law_copied ?l_law_copied ?c_law_copied ?k_law_copied ?a_law_refused_by_any ?l_law_refused_by_any ?c_law_refused_by_any ?k_law_refused_by_any ?a_law ?l_law ?c_law ?k_law ?a_C_W ?b_C_W ?a_Writes___init__ ?i_Writes___init__ ?l_Writes___init__ ?c_Writes___init__ ?k_Writes___init__ ?a_Writes_add_write ?i_Writes_add_write ?l_Writes_add_write ?c_Writes_add_write ?k_Writes_add_write ?a_Writes_names ?i_Writes_names ?l_Writes_names ?c_Writes_names ?k_Writes_names ?a_Writes_touches ?i_Writes_touches ?l_Writes_touches ?c_Writes_touches ?k_Writes_touches ?a_Writes_last ?i_Writes_last ?l_Writes_last ?c_Writes_last ?k_Writes_last ?a_Writes_cut ?i_Writes_cut ?l_Writes_cut ?c_Writes_cut ?k_Writes_cut ?a_Writes_told ?i_Writes_told ?l_Writes_told ?c_Writes_told ?k_Writes_told ?a_Writes_told_under ?i_Writes_told_under ?l_Writes_told_under ?c_Writes_told_under ?k_Writes_told_under ?a_DealError ?a_NoDealing ?a_Over ?a_NoName ?a_NoValue ?a_NoMark ?a_Taken ?a_Late ?a_Crossed ?a_Unlike ?b_errs ?t1_read_under_again ?t2_read_under_again ?t3_read_under_again ?z_len ?z_range ?z_list ?z_isinstance ?z_int ?z_bool ?z_enumerate ?z_all ?z_sorted ?z_dict ?z_str ?z_tuple ?z_reversed ?z_ValueError
    (case a_is_under => k_is)
    (case l_is_under => k_is)
    (case c_is_under => k_is)
    (case k_is_under => k_is)
    (case a_pairs_of => k_is)
    (case l_pairs_of => k_is)
    (case c_pairs_of => k_is)
    (case k_pairs_of => k_is)
    (case a_walked => k_is)
    (case l_walked => k_is)
    (case c_walked => k_is)
    (case k_walked => k_is)
    (case a_do_again => k_is)
    (case l_do_again => k_is)
    (case c_do_again => k_is)
    (case k_do_again => k_is)
    (case a_read_again => k_is)
    (case l_read_again => k_is)
    (case c_read_again => k_is)
    (case k_read_again => k_is)
    (case a_read_under_again => k_is)
    (case l_read_under_again => k_is)
    (case c_read_under_again => k_is)
    (case k_read_under_again => k_is)
    (case a_is_same => k_is)
    (case l_is_same => k_is)
    (case c_is_same => k_is)
    (case k_is_same => k_is)
    (case a_law_whole => k_is)
    (case l_law_whole => k_is)
    (case c_law_whole => k_is)
    (case k_law_whole => k_is)
    (case a_law_cell_at => k_is)
    (case l_law_cell_at => k_is)
    (case c_law_cell_at => k_is)
    (case k_law_cell_at => k_is)
    (case a_law_mixed => k_is)
    (case l_law_mixed => k_is)
    (case c_law_mixed => k_is)
    (case k_law_mixed => k_is)
    (case a_law_name_by => k_is)
    (case l_law_name_by => k_is)
    (case c_law_name_by => k_is)
    (case k_law_name_by => k_is)
    (case a_law_twin => k_is)
    (case l_law_twin => k_is)
    (case c_law_twin => k_is)
    (case k_law_twin => k_is)
    (case a_law_pool => k_is)
    (case l_law_pool => k_is)
    (case c_law_pool => k_is)
    (case k_law_pool => k_is)
    (case a_law_value_by => k_is)
    (case l_law_value_by => k_is)
    (case c_law_value_by => k_is)
    (case k_law_value_by => k_is)
    (case a_law_same => k_is)
    (case l_law_same => k_is)
    (case c_law_same => k_is)
    (case k_law_same => k_is)
    (case a_law_pairs => k_is)
    (case l_law_pairs => k_is)
    (case c_law_pairs => k_is)
    (case k_law_pairs => k_is)
    (case a_law_last => k_is)
    (case l_law_last => k_is)
    (case c_law_last => k_is)
    (case k_law_last => k_is)
    (case a_law_told_under => k_is)
    (case l_law_told_under => k_is)
    (case c_law_told_under => k_is)
    (case k_law_told_under => k_is)
    (case a_law_deed_by => k_is)
    (case l_law_deed_by => k_is)
    (case c_law_deed_by => k_is)
    (case k_law_deed_by => k_is)
    (case a_law_spoiled => k_is)
    (case l_law_spoiled => k_is)
    (case c_law_spoiled => k_is)
    (case k_law_spoiled => k_is)
    (case a_law_rows_by => k_is)
    (case l_law_rows_by => k_is)
    (case c_law_rows_by => k_is)
    (case k_law_rows_by => k_is)
    (case a_law_alike => k_is)
    (case l_law_alike => k_is)
    (case c_law_alike => k_is)
    (case k_law_alike => k_is)
    (case a_law_copied => k_is)
    (case l_law_copied => k_is)
    (case c_law_copied => k_is)
    (case k_law_copied => k_is)
    (case a_law_refused_by_any => k_is)
    (case l_law_refused_by_any => k_is)
    (case c_law_refused_by_any => k_is)
    (case k_law_refused_by_any => k_is)
    (case a_law => k_is)
    (case l_law => k_is)
    (case c_law => k_is)
    (case k_law => k_is)
    (case a_C_W => k_is)
    (case b_C_W => kernel_rfl)
    (case a_Writes___init__ => k_is)
    (case i_Writes___init__ => k_is)
    (case l_Writes___init__ => k_is)
    (case c_Writes___init__ => k_is)
    (case k_Writes___init__ => k_is)
    (case a_Writes_add_write => k_is)
    (case i_Writes_add_write => k_is)
    (case l_Writes_add_write => k_is)
    (case c_Writes_add_write => k_is)
    (case k_Writes_add_write => k_is)
    (case a_Writes_names => k_is)
    (case i_Writes_names => k_is)
    (case l_Writes_names => k_is)
    (case c_Writes_names => k_is)
    (case k_Writes_names => k_is)
    (case a_Writes_touches => k_is)
    (case i_Writes_touches => k_is)
    (case l_Writes_touches => k_is)
    (case c_Writes_touches => k_is)
    (case k_Writes_touches => k_is)
    (case a_Writes_last => k_is)
    (case i_Writes_last => k_is)
    (case l_Writes_last => k_is)
    (case c_Writes_last => k_is)
    (case k_Writes_last => k_is)
    (case a_Writes_cut => k_is)
    (case i_Writes_cut => k_is)
    (case l_Writes_cut => k_is)
    (case c_Writes_cut => k_is)
    (case k_Writes_cut => k_is)
    (case a_Writes_told => k_is)
    (case i_Writes_told => k_is)
    (case l_Writes_told => k_is)
    (case c_Writes_told => k_is)
    (case k_Writes_told => k_is)
    (case a_Writes_told_under => k_is)
    (case i_Writes_told_under => k_is)
    (case l_Writes_told_under => k_is)
    (case c_Writes_told_under => k_is)
    (case k_Writes_told_under => k_is)
    (case a_DealError => k_is)
    (case a_NoDealing => k_is)
    (case a_Over => k_is)
    (case a_NoName => k_is)
    (case a_NoValue => k_is)
    (case a_NoMark => k_is)
    (case a_Taken => k_is)
    (case a_Late => k_is)
    (case a_Crossed => k_is)
    (case a_Unlike => k_is)
    (case b_errs => kernel_rfl)
    (case t1_read_under_again => k_is)
    (case t2_read_under_again => rfl)
    (case t3_read_under_again => rfl)
    (case z_len => k_is)
    (case z_range => k_is)
    (case z_list => k_is)
    (case z_isinstance => k_is)
    (case z_int => k_is)
    (case z_bool => k_is)
    (case z_enumerate => k_is)
    (case z_all => k_is)
    (case z_sorted => k_is)
    (case z_dict => k_is)
    (case z_str => k_is)
    (case z_tuple => k_is)
    (case z_reversed => k_is)
    (case z_ValueError => k_is)
