import PyProof.Rows.All
import Wide.All
import OpenK.AllK
import Wide.FinOn
import HandS.ForMost
import HandS.More
import HandS.SortInts
import HandS.IsInst
import HandS.Rev
import HandS.RevTup
import HandS.AnyAll
import HandS.LawCells
import HandS.Walk
import HandS.Codes
import HandS.Exc
import HandS.TryOnly
import HandS.ExcOwn
import HandS.ExcIs
import HandS.TryMany
import HandS.SortKw
import KE.DataMinMax
import HandS.SetKeys
import HandS.DictComp
import HandS.EndTab
import PySem.Challenge.RW_keptrow_k01_places
set_option Elab.async false
set_option linter.all false
set_option maxRecDepth 100000
namespace Kr
open PySem PySem.Spec PyProof.Rows L2
/-! ### the order of texts -/
/-- Python's order of texts -/
def Lt (a b : Str) : Prop := a.cps.toList < b.cps.toList
instance (a b : Str) : Decidable (Lt a b) := inferInstanceAs (Decidable (a.cps.toList < b.cps.toList))
theorem Lt.irrefl (a : Str) : ¬ Lt a a := List.lt_irrefl a.cps.toList
theorem Lt.trans {a b c : Str} (h1 : Lt a b) (h2 : Lt b c) : Lt a c := List.lt_trans h1 h2
theorem Lt.asymm {a b : Str} (h : Lt a b) : ¬ Lt b a := fun h2 => Lt.irrefl a (h.trans h2)
theorem str_ext {a b : Str} (h : a.cps.toList = b.cps.toList) : a = b := by
  cases a
  cases b
  exact congrArg Str.mk (Array.toList_inj.mp h)
theorem Lt.tri {a b : Str} (h1 : ¬ Lt a b) (h2 : ¬ Lt b a) : a = b :=
  str_ext (List.le_antisymm (List.not_lt.mp h2) (List.not_lt.mp h1))
/-- not falling -/
def Up (ys : List Str) : Prop := ys.Pairwise fun a b => ¬ Lt b a
section
variable {prog : Program} {w : World} {A : Around} {E : Value → Shared → Prop} {s : Shared}
def tv : Value → Str
  | .str x _ => x
  | _ => ""
def ltTv (v u : Value) : Bool := decide (Lt (tv v) (tv u))
theorem swo_txt : SrtO.Swo ltTv := by
  refine ⟨fun x y h => ?_, fun x y z h1 h2 => ?_⟩
  · have a := of_decide_eq_true (p := Lt (tv x) (tv y)) h
    exact decide_eq_false (p := Lt (tv y) (tv x)) a.asymm
  · have a := of_decide_eq_false (p := Lt (tv y) (tv x)) h1
    have b := of_decide_eq_false (p := Lt (tv z) (tv y)) h2
    refine decide_eq_false (p := Lt (tv z) (tv x)) fun c => ?_
    by_cases d : Lt (tv x) (tv y)
    · exact b (c.trans d)
    · have e := Lt.tri d a
      rw [e] at c
      exact b c
theorem txt_mem : ∀ {vs : List Value} {ss : List Str}, StrsAre vs ss → ∀ v ∈ vs, ∃ x t, v = Value.str x t
  | _, _, .nil, v, h => absurd h (by simp)
  | _, _, .cons n t r, v, h => by
    rcases List.mem_cons.mp h with e | h
    · exact ⟨n, t, e⟩
    · exact txt_mem r v h
theorem txt_tv : ∀ {vs : List Value}, (∀ v ∈ vs, ∃ x t, v = Value.str x t) → StrsAre vs (vs.map tv)
  | [], _ => .nil
  | v :: vs, h => by
    obtain ⟨x, t, e⟩ := h v List.mem_cons_self
    subst e
    exact .cons x t (txt_tv fun u hu => h u (List.mem_cons_of_mem _ hu))
theorem tv_txt : ∀ {vs : List Value} {ss : List Str}, StrsAre vs ss → vs.map tv = ss
  | _, _, .nil => rfl
  | _, _, .cons n t r => congrArg (n :: ·) (tv_txt r)
theorem txt_sortable {a : Addr} {vs : List Value} {ss : List Str} (hS : StrsAre vs ss) (h2 : 2 ≤ vs.length) : SrtO.SortableO prog w A s a vs ltTv := by
  intro h' _
  refine ⟨oneType', fun Q E hq => ?_, fun p q hm hm' => ?_⟩
  · match vs, hS, h2 with
    | v1 :: v2 :: rest, hS, _ =>
      rw [keyKind_strs hS]
      exact wpAny_pure hq
    | [], _, h => exact absurd h (by decide)
    | [v], _, h => exact absurd h (by simp)
  · obtain ⟨x, t, e⟩ := txt_mem hS _ hm
    obtain ⟨y, u, e'⟩ := txt_mem hS _ hm'
    show wpAny (model prog w) A (keyLt' oneType' p.1 q.1) (fun r s' => s' = _ ∧ r = ltTv p.1 q.1) (fun _ _ => False) _
    rw [e, e', keyLt'_oneType]
    exact oneLt_str ⟨rfl, rfl⟩
theorem txt_out {vs out : List Value} {ss : List Str} (hS : StrsAre vs ss) (hs : SrtO.Srtd ltTv out) (hb : SrtO.Stb ltTv out vs) : StrsAre out (out.map tv) ∧ (out.map tv).Perm ss ∧ Up (out.map tv) := by
  refine ⟨txt_tv fun v hv => txt_mem hS v (hb.perm.mem_iff.mp hv), ?_, ?_⟩
  · have q := hb.perm.map tv
    rw [tv_txt hS] at q
    exact q
  · exact List.pairwise_map.mpr (hs.imp fun {x y} h => of_decide_eq_false (p := Lt (tv y) (tv x)) h)
end
section
variable {X : Cx}
/-- sorted(xs), texts, any number of them -/
def rSortedTx (K : PySem.W.Frag) : List V → Hp → VK → Prop := fun vs H Q => ∃ (a : Addr) (ss : List Str), vs = [V.ref a] ∧ SqL K H a (ss.map V.str) ∧
  ∀ (ys : List Str) (p : Addr), ys.Perm ss → Up ys → H p = none → Q (.ref p) (upd H p (.lst (ys.map V.str)))
theorem cr_sortedTx : CallR X (.builtin "sorted") (rSortedTx X.K) := by
  intro pins s σ H vs us Q I r h
  obtain ⟨a, ss, rfl, hs, q⟩ := h
  obtain ⟨its, rv, hl, hz⟩ := I.list hs
  rw [Vals.ref1 r]
  have hS := rv.strs
  refine SrtO.sorted_ord swo_txt hl.isList (by rw [← rv.length]; exact hz) (fun h2 h1 b _ _ => txt_sortable hS h2) fun out o1 o2 => ?_
  obtain ⟨k1, k2, k3⟩ := txt_out hS o1 o2
  obtain ⟨ep, hat⟩ := PyProof.Rows.sortedAll_at s.heap its out.toArray
  have hlen : ((out.map tv).map V.str).length ≤ sizeLine := by
    rw [List.length_map, k2.length_eq, ← List.length_map (f := V.str)]
    exact hz
  refine ⟨.ref _, upd H (s.heap.objs.size + 1) (.lst ((out.map tv).map V.str)), ?_, rfl, q _ _ k2 k3 (I.hok.fresh (Nat.le_succ _))⟩
  exact I.laid (t' := s.toks) (fun _ _ => PyProof.Rows.sortedAll_old) (Nat.le_succ _) ⟨hlen, out, ep, vals_of_strs k1, hat⟩
/-- sorted(d), d a dict of text keys, any number of them -/
def rSortedDx : List V → Hp → VK → Prop := fun vs H Q => ∃ (a : Addr) (kvs : List (Key × V)) (ks : List Str), vs = [.ref a] ∧ Rd H a (.dK kvs) ∧ kvs.map (·.1) = ks.map Sum.inr ∧
  ∀ (ys : List Str) (p : Addr), ys.Perm ks → Up ys → H p = none → Q (.ref p) (upd H p (.lst (ys.map V.str)))
theorem cr_sortedDx (hcalm : X.calm = true) : CallR X (.builtin "sorted") rSortedDx := by
  intro pins s σ H vs us Q I r h
  obtain ⟨a, kvs, ks, rfl, hd, hks, q⟩ := h
  rw [Vals.ref1 r]
  obtain ⟨hz, lo, dv, rel, dd⟩ := dk_rd I.hok hd
  obtain ⟨ep, hat⟩ := dd.dictAt
  have hkeys : dv.map (·.1) = ks.map Sum.inr := rel.keys.symm.trans hks
  have hl : dv.length = ks.length := by
    have e := congrArg List.length hkeys
    rw [List.length_map, List.length_map] at e
    exact e
  have hl2 : kvs.length = ks.length := by
    have e := congrArg List.length hks
    rw [List.length_map, List.length_map] at e
    exact e
  have hsz : dv.length ≤ sizeLine := by
    rw [hl, ← hl2]
    exact hz
  refine Calls.call_function_entry PyProof.Rows.kind_sorted PyProof.Rows.plain_sorted PyProof.Rows.entry_sorted (PyProof.Rows.args_sorted1 _) ?_
  unfold Builtin.«sorted»
  refine wpAny_bind (m := checkCount "sorted" 1 1 _) (wpAny_pure ?_)
  refine wpAny_bind (PySem.W.kdu_collect (A := X.A.in1) (PySem.W.kdl_dict (knd := mixKind X.prog X.w) (kvs := dv) (ep := ep) lo) (I.ok.hd hcalm) hat hsz fun h1 t1 acc keep hacc => ?_)
  have hal : acc.toList.length = ks.length := by
    rw [Array.length_toList, hacc.1]
    exact hl
  have hS : StrsAre acc.toList ks := by
    refine strs_at hal fun j v e => ?_
    obtain ⟨k, x, e1, e2⟩ := hacc.2 j v (by rw [← Array.getElem?_toList]; exact e)
    have e3 : (dv.map (·.1))[j]? = some k := by
      rw [List.getElem?_map, e1]
      rfl
    rw [hkeys, List.getElem?_map] at e3
    cases e4 : ks[j]? with
    | none =>
      rw [e4] at e3
      cases e3
    | some y =>
      rw [e4] at e3
      cases Option.some.inj e3
      obtain ⟨t, ev⟩ := Value.isStrOf_shape (x := y) (v := v) e2
      exact ⟨y, t, rfl, ev⟩
  have I1 : Inv X pins σ H { s with heap := h1, toks := t1 } := I.kept keep
  have hsa : acc.toList.length ≤ sizeLine := by
    rw [hal, ← hl]
    exact hsz
  refine wpAny_bind (wpAny_newList ?_ hsa)
  have hoL : (h1.push (seqObj "list" acc.toList.toArray 0)).get? h1.objs.size = some (seqObj "list" acc.toList.toArray 0) := Heap.get?_push_size _ rfl
  show wpAny _ _ _ _ _ { s with heap := h1.push (seqObj "list" acc.toList.toArray 0), toks := t1 }
  refine wpAny_bind (wpAny_holding (wpAny_call_entry PyProof.Rows.slot_list_sort ⟨_, hoL, rfl⟩ PyProof.Rows.entry_list_sort
    (SrtO.list_sort_ord swo_txt (s := { s with heap := h1.push (seqObj "list" acc.toList.toArray 0), toks := t1 }) hoL hsa (fun h2 => txt_sortable hS h2) fun out o1 o2 => ⟨_, rfl, ?_⟩)
    (PyProof.Rows.args_list_sort _)))
  obtain ⟨k1, k2, k3⟩ := txt_out hS o1 o2
  obtain ⟨ep2, hat2⟩ := PyProof.Rows.sortedHeap_at (vs := acc.toList) (out := out.toArray) hoL
  have hlen : ((out.map tv).map V.str).length ≤ sizeLine := by
    rw [List.length_map, k2.length_eq, ← hl]
    exact hsz
  refine wpAny_pure ⟨_, rfl, .ref h1.objs.size, upd H h1.objs.size (.lst ((out.map tv).map V.str)), ?_, rfl, q _ _ k2 k3 (I1.hok.fresh (Nat.le_refl _))⟩
  refine I1.laid (t' := t1) (fun b u e => ?_) (Nat.le_refl _) (show ObjOk X.prog X.w _ _ _ (.lst ((out.map tv).map V.str)) from ⟨hlen, out, ep2, vals_of_strs k1, hat2⟩)
  have hb : b < h1.objs.size := Heap.lt_size e
  rw [PyProof.Rows.sortedHeap_old (Nat.ne_of_lt hb) (by rw [size_push']; exact Nat.lt_succ_of_lt hb)]
  exact Heap.get?_push_of_some _ e
/-- d.update(e), e another dict -/
def rUpdD : V → List V → Hp → VK → Prop := fun x xs H Q => ∃ (d e : Addr) (kvs ls : List (Key × V)), x = .ref d ∧ xs = [.ref e] ∧ H d = some (.dK kvs) ∧ Rd H e (.dK ls) ∧ d ≠ e ∧
  kvs.length + ls.length ≤ sizeLine ∧ Q .non (upd H d (.dK (mergeK kvs ls)))
theorem mt_updD : MtR X "dict.update" rUpdD := by
  intro pins s σ H x xs v us Q I rx rxs h
  obtain ⟨d, e, kvs, ls, rfl, rfl, hd, he, hne, hsz, q⟩ := h
  cases rx
  rw [Vals.ref1 rxs]
  obtain ⟨z1, lo1, dv, rel1, dd1⟩ := dk_of I.hok hd
  obtain ⟨z2, lo2, ev, rel2, dd2⟩ := dk_rd I.hok he
  refine call_meetsIn PySem.F.slot_dict_update dd1.typeIs PySem.F.entry_dict_update (PySem.F.args_dict_update_2 _ _) (meets_dict_update (mixKind X.prog X.w) d e hne lo2)
    ⟨dv, ev, dd1, dd2, (by rw [← rel1.length, ← rel2.length]; exact hsz), fun h1 m1 m2 hs => ?_⟩
  have hl : (mergeK kvs ls).length ≤ sizeLine := Nat.le_trans (length_mergeK ls kvs) hsz
  have there : ∃ o, h1.get? d = some o := let ⟨o, _, _, ho, _⟩ := m1; ⟨o, ho⟩
  exact ⟨.non, _, d_write (t' := s.toks) I (by rw [hd]; exact True.intro) hs there (dk_new hl lo1 (KV.merge rel2 rel1) m1), rfl, q⟩
/-- xs.count(y), all of them flat -/
def rCnt (K : PySem.W.Frag) : V → List V → Hp → VK → Prop := fun x xs H Q => ∃ (p : Addr) (ys : List V) (y : V), x = .ref p ∧ xs = [y] ∧ SqL K H p ys ∧ flatV y = true ∧ ys.all flatV = true ∧
  Q (.int (ys.countP (fun z => eqV z y) : Nat)) H
theorem count_eqU {x : V} : ∀ {xs : List V} {us : List Value}, Vals xs us → xs.all flatV = true → us.countP (eqU x) = xs.countP fun y => eqV y x
  | _, _, .nil, _ => rfl
  | y :: xs, u :: us, .cons r t, f => by
    rw [List.all_cons, Bool.and_eq_true] at f
    rw [List.countP_cons, List.countP_cons, eqU_of r f.1, count_eqU t f.2]
theorem mt_cnt : MtR X "list.count" (rCnt X.K) := by
  intro pins s σ H x xs v us Q I rx rxs h
  obtain ⟨p, ys, y, rfl, rfl, hs, fy, fys, q⟩ := h
  cases rx
  obtain ⟨u, rfl, ru⟩ := rxs.one
  obtain ⟨its, rv, ⟨⟨cls, dd, data, sl⟩, n, ho, hc, hdn, hd⟩, hlen⟩ := I.list hs
  simp only at hc hd
  subst hc hd
  refine call_meets PySem.F.slot_list_count ⟨_, ho, rfl⟩ PySem.F.entry_list_count (PySem.F.args_list_count_2 _ _)
    (SeqAt.list_countAt p its.toArray n dd sl u (eqU y)) ⟨ho, fun z hz => mem_eqAt ru fy rv fys z (by simpa using hz), ?_⟩
  refine ⟨.int (ys.countP (fun z => eqV z y) : Nat), H, I.tok _, ⟨s.toks, ?_⟩, q⟩
  show Value.int ((its.toArray.toList.countP (eqU y) : Nat) : Int) s.toks = Value.int ((ys.countP (fun z => eqV z y) : Nat) : Int) s.toks
  rw [List.toList_toArray, count_eqU rv fys]
end
end Kr

namespace Kr
open PySem PySem.Spec PyProof.Rows L2
/-! ### rules within a comprehension: the written part by its own name -/
section
variable {X : Cx} {K : PySem.W.Frag}
theorem len_seqK (e : X.K = K := by rfl) : CallR X (.builtin "len") (fun xs H Q => ∃ p ys, xs = [V.ref p] ∧ (SqL K H p ys ∨ SqT K H p ys) ∧ Q (.int ys.length) H) := by
  subst e
  exact call_len_seq
theorem ix_listK (e : X.K = K := by rfl) : IxR X (rIxL K) := by
  subst e
  exact ix_list
theorem ix_tupK (e : X.K = K := by rfl) : IxR X (rIxT K) := by
  subst e
  exact ix_tup
theorem in_seqK (e : X.K = K := by rfl) : OpR X (compareOp .In) (rIn K false) := by
  subst e
  exact op_in_seq
theorem notIn_seqK (e : X.K = K := by rfl) : OpR X (compareOp .NotIn) (rIn K true) := by
  subst e
  exact op_notIn_seq
theorem eqDK (hu : X.A.units + 64 < cLine) (e : X.K = K := by rfl) : OpR X (compareOp .Eq) (rEqD K) := by
  subst e
  exact op_eqD hu
theorem neDK (hu : X.A.units + 64 < cLine) (e : X.K = K := by rfl) : OpR X (compareOp .NotEq) (rNeD K) := by
  subst e
  exact op_neD hu
theorem sl_listK (e : X.K = K := by rfl) : SlR X (rSlL K) := by
  subst e
  exact sl_list
theorem isiK (e : X.K = K := by rfl) : CallR X (.builtin "isinstance") (rIsi K) := by
  subst e
  exact call_isi
end
end Kr

set_option maxHeartbeats 2000000
namespace Kr
open PySem PySem.Spec PyProof.Rows L2
section
variable {prog : Program} {w : World} {A : Around} {E : Value → Shared → Prop} {s : Shared}
/-- list.__init__ of a new list by reversed(l) -/
theorem init_rev {R : Result → Shared → Prop} {it l S : Addr} {items : Array Value} (hh : A.handled = none) (hit : s.heap.IsRevIter it l ((items.size : Int) - 1)) (hl : s.heap.IsList l items) (hne : l ≠ it) (n1 : S ≠ it) (n2 : S ≠ l)
    (hn : items.size ≤ sizeLine) (hS : s.heap.get? S = some { cls := .type "list", data := .seq #[] })
    (hR : ∀ h' tk acc c, (∀ b o, b ≠ S → b ≠ it → s.heap.get? b = some o → h'.get? b = some o) → h'.get? S = some { cls := .type "list", dict := none, data := .seq acc c, slots := #[] } →
      ItemsOf (fun i v => items[items.size - 1 - i]? = some v) acc items.size → R (.ok (.ret .none)) { s with heap := h', toks := tk }) :
    wpAny (model prog w) A.in1 (Builtin.«list.__init__» ⟨[.ref S, .ref it], []⟩)
      (fun fin z => match fin with | .done f => R (.ok f) z | .again c => c.quiet = true ∧ codeAny (model prog w) A c R z) (fun e z => R (.error e) z) s := by
  show wpAny _ _ (do let old ← Builtin.List.listItems (.ref S); Builtin.List.listUpdate (.ref S) (fun _ => #[]); letGo old.toList.reverse; Builtin.List.listExtendWith (.ref S) (.ref it) .none) _ _ s
  refine wpAny_bind ?_
  unfold Builtin.List.listItems
  refine wpAny_bind (wpAny_seqItems hS rfl (wpAny_pure ?_))
  show wpAny _ _ (updateSeq S (fun _ => #[]) >>= fun _ => letGo (#[] : Array Value).toList.reverse >>= fun _ => Builtin.List.listExtendWith (.ref S) (.ref it) .none) _ _ s
  refine wpAny_bind (wpAny_updateSeq hS rfl ?_)
  have hS2 := Heap.get?_update_self (Obj.mapSeq (fun _ => (#[] : Array Value))) hS rfl
  have oth : ∀ b o, b ≠ S → s.heap.get? b = some o → (s.heap.update S (Obj.mapSeq (fun _ => (#[] : Array Value)))).get? b = some o := fun b o hb e => (Heap.get?_update_other _ _ (Ne.symm hb)).trans e
  refine wpAny_bind (wpAny_letGo ?_)
  generalize hg : s.heap.update S (Obj.mapSeq (fun _ => (#[] : Array Value))) = h1 at hS2 oth
  have hit1 : h1.IsRevIter it l ((items.size : Int) - 1) := hit.at fun o e => oth it o n1.symm e
  have hl1 : h1.IsList l items := hl.at fun o e => oth l o n2.symm e
  have hT : ({ s with heap := h1 } : Shared).TypeIs (.ref it) "list_reverseiterator" := Heap.IsRevIter.typeIs (s := { s with heap := h1 }) hit1
  have nosame : Builtin.List.listSameRef (.ref S) (.ref it) = false := by simp [Builtin.List.listSameRef, n1]
  unfold Builtin.List.listExtendWith
  refine wpAny_bind (wpAny_typeOf hT ?_)
  rw [if_neg (by rw [nosame]; decide)]
  refine wpAny_bind (wpAny_pyIter_revIter (s := { s with heap := h1 }) hit1 ?_)
  refine wpAny_bind (wpAny_holding ?_)
  unfold Builtin.List.listLengthHint
  refine wpAny_bind (wpAny_specialOf hT RT.nolen_lri ?_)
  show wpAny _ A.in1 (specialOf (Value.ref it) (Str.ofString "__length_hint__") >>= _) _ _ _
  refine wpAny_bind (wpAny_specialOf hT RT.hint_lri ?_)
  generalize hz : ("list_reverseiterator.__length_hint__" : String) = nm
  wp_delta
  rw [show splitId nm = some ("list_reverseiterator", "__length_hint__") from by subst hz; decide +kernel]
  subst hz
  refine wpAny_bind (wpAny_isInstance (b := true) hT (by rw [isSubtype_type]; kernel_rfl) (wpAny_pure ?_))
  rw [if_neg (by decide)]
  have e0 : ((items.size : Nat) : Int) - 1 - ((0 : Nat) : Int) = (items.size : Int) - 1 := by omega
  have out : S ∉ [it, l] := by
    simp only [List.mem_cons, List.not_mem_nil, or_false, not_or]
    exact ⟨n1, n2⟩
  have W := (Walks.listRev (prog := prog) (w := w) (A := A.in1) hh it l hne items).toS
  refine wpAny_pure ⟨plainId_quiet F.plain_extend_loop _, codeAny_extend_loopS W hn S out _ items.size 0 _ _ _ rfl (Nat.zero_le _) ⟨Nat.zero_le _, by rw [e0]; exact hit1, hl1⟩ hS2 (ItemsOf.nil _) fun z acc c hm hz hacc => ?_⟩
  rw [Moved.eq_with hm]
  refine hR z.heap z.toks acc c (fun b o b1 b2 e => hm.heap b o (fun q => ?_) (oth b o b1 e)) hz hacc
  rcases List.mem_cons.mp q with q | q
  · exact b1 q
  · exact b2 (List.mem_singleton.mp q)
/-- list(reversed(l)) behind the making of the iterator -/
theorem call_list_rev {Q : Value → Shared → Prop} {it l : Addr} {items : Array Value} (hh : A.handled = none) (hit : s.heap.IsRevIter it l ((items.size : Int) - 1)) (hl : s.heap.IsList l items) (hne : l ≠ it) (hn : items.size ≤ sizeLine)
    (hQ : ∀ h' tk acc c, (∀ b o, b ≠ it → s.heap.get? b = some o → h'.get? b = some o) → h'.get? s.heap.objs.size = some { cls := .type "list", dict := none, data := .seq acc c, slots := #[] } →
      ItemsOf (fun i v => items[items.size - 1 - i]? = some v) acc items.size → Q (.ref s.heap.objs.size) { s with heap := h', toks := tk }) : wpAny (model prog w) A (call (.type "list") [.ref it]) Q E s := by
  obtain ⟨oi, hoi, _⟩ := id hit
  obtain ⟨ol, hol, _⟩ := id hl
  refine callType_codes (Q₁ := fun v z => v = .ref s.heap.objs.size ∧ z = { s with heap := s.heap.push { cls := .type "list", data := .seq #[] } }) PySem.F.called_list (PySem.F.typeCall_list_1 _) PySem.F.entry_list_init
    (code_list_new _ ⟨rfl, rfl⟩) fun v z hv => ?_
  obtain ⟨rfl, rfl⟩ := hv
  have hS : (s.heap.push { cls := .type "list", data := .seq #[] }).get? s.heap.objs.size = some { cls := .type "list", data := .seq #[] } := Heap.get?_push_size _ rfl
  refine ⟨⟨_, hS, rfl⟩, PySem.F.args_list_init_2 _ _, init_rev (A := A.in1) hh (hit.at fun o e => Heap.get?_push_of_some _ e) (hl.push _) hne (Nat.ne_of_gt (Heap.lt_size hoi)) (Nat.ne_of_gt (Heap.lt_size hol)) hn hS fun h' tk acc c keep hz hacc => ?_⟩
  exact ⟨rfl, hQ h' tk acc c (fun b o b2 e => keep b o (Nat.ne_of_lt (Heap.lt_size e)) b2 (Heap.get?_push_of_some _ e)) hz hacc⟩
end
section
variable {X : Cx}
/-- list(reversed(x)), x a list -/
def tLstRev (K : PySem.W.Frag) (te : TE) : TE := fun σ H Q => te σ H fun v H1 => ∃ (a : Addr) (xs : List V), v = .ref a ∧ SqL K H1 a xs ∧ ∀ q, H1 q = none → Q (.ref q) (upd H1 q (.lst xs.reverse))
theorem pe_lstRev {e : Expr} {te : TE} {p p2 pos pos2 : Pos} (hc : X.calm = true) (hg : Gl X "list") (hm : X.mg "list" = none) (hg2 : Gl X "reversed") (hm2 : X.mg "reversed" = none) (he : PE X e te)
    (hs : starEach [e] X.env = (false, eval e X.env) :: starEach [] X.env := by rfl)
    (hs2 : starEach [.Call (.Name "reversed" p2) [e] [] pos2] X.env = (false, eval (.Call (.Name "reversed" p2) [e] [] pos2) X.env) :: starEach [] X.env := by rfl) :
    PE X (.Call (.Name "list" p) [.Call (.Name "reversed" p2) [e] [] pos2] [] pos) (tLstRev X.K te) := by
  refine ⟨fun pins s σ H Q I h => ?_⟩
  refine Call_ (ld_blt I hg hm (show bootBuiltins "list" = some (.type "list") by decide +kernel) (PyProof.Rows.callWith_type1 (args_cons (Call_ (ld_blt I hg2 hm2 PyProof.Rows.boot_reversed (PyProof.Rows.callWith_type1 (args_cons (thn (he.run pins s σ H _ I h) fun u z ⟨v, H1, Iz, rv, q⟩ => args_nil ?_) hs) hs rfl))) hs2) hs2 rfl))
  obtain ⟨a, xs, ev, hq, q⟩ := q
  subst ev
  obtain rfl : u = Value.ref a := rv
  obtain ⟨its, rl, pl, hz⟩ := Iz.list hq
  refine call_reversed_list pl.isList (args_nil ?_)
  have hl := pl.isList
  obtain ⟨ol, hol, _⟩ := id hl
  have k0 : ∀ b o, z.heap.get? b = some o → (z.heap.push (revObj a ((its.toArray.size : Int) - 1))).get? b = some o := fun b o e => Heap.get?_push_of_some _ e
  have I2 : Inv X pins σ H1 { z with heap := z.heap.push (revObj a ((its.toArray.size : Int) - 1)) } := Iz.kept (t' := z.toks) k0
  have fp := Iz.fpOk (H' := H1) (b := z.heap.objs.size) (Nat.le_refl _) (Iz.hok.fresh (Nat.le_refl _))
  have hn : its.toArray.size ≤ sizeLine := by
    rw [List.size_toArray, ← rl.length]
    exact hz
  refine call_list_rev (s := { z with heap := z.heap.push (revObj a ((its.toArray.size : Int) - 1)) }) (Iz.ok.hd hc) ⟨_, Heap.get?_push_size _ rfl, rfl, rfl⟩ (hl.push _) (Nat.ne_of_lt (Heap.lt_size hol)) hn fun h' tk acc c hk hS hi => ?_
  have I3 := I2.turnedNew (h' := h') (t' := tk) (ch := [z.heap.objs.size]) (T := (z.heap.push (revObj a ((its.toArray.size : Int) - 1))).objs.size) (ob := .lst xs.reverse)
    (fun b o hb e => hk b o (fun q => hb (by rw [q]; exact List.mem_cons_self)) e) (fun b hb => by rw [List.mem_singleton.mp hb]; exact fp) (Nat.le_refl _)
    (show ObjOk X.prog X.w _ _ _ (.lst xs.reverse) from ⟨by rw [List.length_reverse]; exact hz, acc.toList, c, RT.vals_rev rl hi, by rw [Array.toArray_toList]; exact hS⟩)
  exact ⟨.ref _, _, I3, rfl, q _ (I2.hok.fresh (Nat.le_refl _))⟩
end
end Kr

set_option maxHeartbeats 2000000
namespace Kt
open PySem PySem.Spec PyProof.Rows L2 GxR
/-- the element of a generator expression: a test of one sign, that may read the module's own names -/
def EltM (X : Cx) (sc : Scope) (x : Str) (e : Expr) (f : Nat → Bool) : Prop :=
  ∀ (en : Env) (B : Around) (R : Value → Shared → Prop) (n : Nat) (t : Tok) (z : Shared) (m : Str → Option Value),
    en.scope = sc → en.globals = mainGlobals → z.heap.Ns mainGlobals X.mg → z.heap.Ns en.locals m → m x = some (.str ⟨#[n]⟩ t) →
      wpAny (model X.prog X.w) B (eval e en) (fun y z' => y = .bool (f n) ∧ Keeps z z') R z
section
variable {X : Cx} {pins : List (Addr × Obj)} {σ : L2.St} {H : Hp} {s : Shared}
/-- x in NAME, NAME a text of the module -/
theorem elt_in {sc : Scope} {x y : Str} {w : Str} {tw : Tok} {p1 p2 p3 : Pos} (hk : sc.kind = .function) (hl : sc.names.lookup x = some .local) (hg : sc.names.lookup y = some .globalImplicit)
    (hm : X.mg y = some (.str w tw)) (d1 : (x == ("__debug__" : Str)) = false := by decide) (d2 : (y == ("__debug__" : Str)) = false := by decide) :
    EltM X sc x (.Compare (.Name x p1) [.In] [.Name y p2] p3) (fun n => decide (n ∈ w.cps.toList)) := by
  intro en B R n t z m hsc hgl hG hL hv
  refine wpAny_Compare1 (wpAny_Name (wpAny_loadName_local (by rw [hsc]; exact hk) (show en.scope.names.lookup x = some .local by rw [hsc]; exact hl) hL hv ?_) d1)
  refine Calls.Name_function_global (by rw [hsc]; exact hk) (show en.scope.names.lookup y = some .globalImplicit by rw [hsc]; exact hg) (Calls.loadGlobal_global (by rw [hgl]; exact hG) hm ?_) d2
  refine PyProof.Rows.in_str ⟨?_, keeps_tok _ _⟩
  exact congrArg Value.bool (PySem.StrLaws.found_one w n)
/-- what the making of the generator asks, behind its code object, in the state z4 -/
def Onward (X : Cx) (sc : Scope) (x : Str) (elt : Expr) (it : Addr) (cd : Value)
    (G : Value → Shared → Prop) (bi : Addr) (z4 : Shared) : Prop :=
  ∃ (J : Addr) (fp wr : List Addr) (n : Nat) (V : Nat → Value → Prop) (S0 : Nat → Heap → Prop)
      (pz : Nat → Bool) (F : Nat → Value → Prop), Value.ref it = .ref J ∧
    (∀ B : Around, B.handled = none → Walks X.prog X.w B J fp wr n V S0) ∧ S0 0 z4.heap ∧
    (∀ b ∈ fp, b < z4.heap.objs.size) ∧ z4.heap.NoLimit ∧ cStatics ∉ wr ∧
    (∀ hr : Heap, (∀ b o, z4.heap.get? b = some o → hr.get? b = some o) →
      QuietGen X.prog X.w (genEnv sc (cloFrom X.env.cells sc.names [])
        z4.heap.objs.size cd bi X.env) x [] elt (List.range z4.heap.objs.size) wr V pz F hr) ∧
    (∀ a h5 tk gs, gs.bare = true → z4.heap.objs.size < a → h5.objs.size = a + 1 →
      (∀ b o, z4.heap.get? b = some o → h5.get? b = some o) →
      WalksS X.prog X.w X.A.in4 a
        (a :: z4.heap.objs.size :: List.range z4.heap.objs.size) (z4.heap.objs.size :: wr)
        (GenOnlyQ z4.gens.size) (passing pz n 0).length
        (fun j y => ∃ i, (passing pz n 0)[j]? = some i ∧ F i y)
        (GenAt X.prog X.w X.A.in4 a z4.gens.size z4.heap.objs.size
          (List.range z4.heap.objs.size) wr pz n F) →
      GenAt X.prog X.w X.A.in4 a z4.gens.size z4.heap.objs.size
        (List.range z4.heap.objs.size) wr pz n F 0
        { z4 with gens := z4.gens.push gs, toks := tk, heap := h5 } →
      G (.ref a) { z4 with gens := z4.gens.push gs, toks := tk, heap := h5 })
/-- the walk over the signs of z, made ready for any or all -/
theorem gen_signs {c P : Addr} {elt iter : Expr} {x : Str} {px gp : Pos} {sc : Scope} {f : Nat → Bool} {te : TE} {k : Nat} {G : Value → Shared → Prop} {R : Str → Hp → Prop}
    (hr : Room k X.A) (TB : TabB X.base X.mg c P) (hcode : X.env.code = .ref c) (S : GenS X.env sc x) (hi : PE X iter te) (hel : EltM X sc x elt f)
    (hf : ∀ v, genFold iter X.env v = pure v) (I : Inv X pins σ H s) (h : te σ H fun v H1 => ∃ z : Str, v = .str z ∧ TabG H1 P ∧ R z H1)
    (hQ : ∀ z H1 g sg, R z H1 → Ready X pins σ H1 P z f g sg → G (.ref g) sg) :
    wpAny (model X.prog X.w) X.A (eval (.GeneratorExp elt [⟨.Name x px, iter, [], 0⟩] sc gp) X.env) G X.xe s := by
  refine wpAny_GeneratorExp_walksQ hr.hd S.co (closure_ok S.free) S.cell S.dot S.loc S.kind (by have := hr.dp; omega) ?_ hf
  refine thn (hi.run pins s σ H _ I h) fun u sa ⟨v, H1, Ia, rv, ⟨z, ev, ⟨ps, hP, htr⟩, hR⟩⟩ => ?_
  subst ev
  obtain ⟨tz, rfl⟩ := rv
  refine wpAny_pyIter_str fun ob St W hst => ?_
  have eP : sa.heap.get? P = some { cls := .none, data := .fields ps } := Ia.hok P _ hP
  have ltP : P < sa.heap.objs.size := Heap.lt_size eP
  have eP2 : (sa.heap.push ob).get? P = some { cls := .none, data := .fields ps } := Heap.get?_push_of_some _ eP
  have hcd : PySem.W.CodeHd (sa.heap.push ob) c P := TB.code.keeps fun b o e => Heap.get?_push_of_some _ (Ia.bk b o e)
  have nl : (sa.heap.push ob).NoLimit := Ia.nolimit.push ob
  have nsz : (sa.heap.push ob).objs.size = sa.heap.objs.size + 1 := Heap.size_push ..
  have ltS : cStatics < sa.heap.objs.size := let ⟨_, q, _⟩ := Ia.nolimit; q.lt
  have neS : cStatics ≠ P := fun q => by
    obtain ⟨_, ⟨o, es, ep, ho, hd, _⟩, _⟩ := Ia.nolimit
    rw [q, eP] at ho
    cases ho
    cases hd
  -- behind the code object (found, or made anew: then the table has grown)
  have behind : ∀ (cd : Value) (hh : Heap) (tk : Nat) (qs : Array Value), Heap.ExtBut P (sa.heap.push ob) hh → (sa.heap.push ob).objs.size ≤ hh.objs.size →
      hh.get? P = some { cls := .none, data := .fields qs } → (∃ more, qs = ps ++ more) → TriplesOk qs.toList →
      wpAny (model X.prog X.w) X.A (builtinsFor X.env.globals X.env.builtins) (Onward X sc x elt sa.heap.objs.size cd G) X.xe { sa with heap := hh, toks := tk } := by
    intro cd hh tk qs hx hsz hq hmore htq
    have lt2 : sa.heap.objs.size < hh.objs.size := Nat.lt_of_lt_of_le (by rw [nsz]; exact Nat.lt_succ_self _) hsz
    obtain ⟨bm, obm, b1, b2, b3, b4, b5, b6, b7, b8⟩ := TB.bm
    have up : ∀ b o, b ≠ P → sa.heap.get? b = some o → hh.get? b = some o := fun b o hb e => hx b o hb (Heap.get?_push_of_some _ e)
    have hgl : hh.Ns mainGlobals X.mg := ((Ia.mod.glob.keeps Ia.bk).push ob).extBut hx TB.gP
    refine wpAny_builtinsFor (m := X.mg) (by rw [Ia.ok.glob]; exact hgl) b1 b2 (up _ _ b4 (Ia.bk _ _ b5)) b6 b7 b8 ?_
    refine ⟨sa.heap.objs.size, [sa.heap.objs.size], [sa.heap.objs.size], z.cps.size, SignAt z, St, (fun _ => true),
      (fun i y => ∃ n, z.cps[i]? = some n ∧ y = .bool (f n)), rfl, W, ?_, ?_, nl.extBut hx neS, ?_, ?_, ?_⟩
    · refine (W X.A hr.hd).frame _ _ _ hst fun b hb o e => hx b o ?_ e
      intro q
      have e1 : b = sa.heap.objs.size := List.mem_singleton.mp hb
      have e2 : P = sa.heap.objs.size := q.symm.trans e1
      exact absurd ltP (by rw [e2]; exact Nat.lt_irrefl _)
    · intro b hb
      have e1 : b = sa.heap.objs.size := List.mem_singleton.mp hb
      show b < hh.objs.size
      rw [e1]
      exact lt2
    · intro q
      have e1 : cStatics = sa.heap.objs.size := List.mem_singleton.mp q
      exact absurd ltS (by rw [← e1]; exact Nat.lt_irrefl _)
    · intro hr2 hup
      refine ⟨fun B R i v z2 m2 hB hPv hn hm hkeep => ?_, fun B R i v z2 m2 hB hPv hp hn hm hkeep => ?_⟩
      · rw [List.forIn_nil]
        exact wpAny_pure ⟨rfl, keeps_tok _ _⟩
      · obtain ⟨n, u, hn2, rfl⟩ := hPv
        have ltG : mainGlobals < sa.heap.objs.size := let ⟨_, _, _, e, _⟩ := Ia.mod.glob.keeps Ia.bk; Heap.lt_size e
        have g2 : z2.heap.Ns mainGlobals X.mg := by
          obtain ⟨o, es, ep, e, r⟩ := hgl
          refine ⟨o, es, ep, hkeep mainGlobals (List.mem_range.mpr ?_) (fun q => ?_) o (hup _ _ e), r⟩
          · exact Nat.lt_trans ltG lt2
          · have e1 : mainGlobals = sa.heap.objs.size := List.mem_singleton.mp q
            exact absurd ltG (by rw [← e1]; exact Nat.lt_irrefl _)
        exact wpAny_mono (hel _ B R n u z2 m2 rfl Ia.ok.glob g2 hn hm) (fun y z3 r => ⟨⟨n, hn2, r.1⟩, r.2⟩) fun _ _ e => e
    · intro g h5 tk5 gs hgs hag hs5 hk5 W5 hat
      have en : (passing (fun _ => true) z.cps.size 0) = List.range z.cps.size := passing_true _
      rw [en, List.length_range] at W5
      refine hQ z H1 g _ hR ⟨_, _, _, _, _, W5.in4_1, hat, ?_, fun s' hmv => ?_⟩
      · intro j y sj Qj Ej hy hQj
        obtain ⟨i, hij, n, hn, rfl⟩ := hy
        obtain ⟨_, ej⟩ := List.getElem?_eq_some_iff.mp hij
        rw [List.getElem_range] at ej
        subst ej
        have e9 : z.cps.toList[j]? = some n := by
          rw [Array.getElem?_toList]
          exact hn
        have hq2 : Qj (trF f z.cps.toList j) sj := hQj
        rw [trF_some e9] at hq2
        exact wpAny_truthy_bool hq2
      · obtain ⟨more, em⟩ := hmore
        subst em
        have away : ∀ b o, sa.heap.get? b = some o → b ∉ hh.objs.size :: [sa.heap.objs.size] := fun b o e q => by
          have l1 := Heap.lt_size e
          rcases List.mem_cons.mp q with q | q
          · rw [q] at l1
            exact Nat.lt_irrefl _ (Nat.lt_of_lt_of_le l1 (Nat.le_of_lt lt2))
          · rw [List.mem_singleton.mp q] at l1
            exact Nat.lt_irrefl _ l1
        have I9 := inv_tab (more := more) (h' := s'.heap) (g' := s'.gens) (d' := s'.drawn) (t' := s'.toks) Ia hP
          (fun b o hb e => hmv.heap b o (away b o e) (hk5 b o (up b o hb e)))
          (hmv.heap P _ (away P _ eP) (hk5 P _ hq)) (AllBare.movedS (Ia.bare.push hgs) hmv)
        rw [sh_eta sa s' hmv.os] at I9
        exact ⟨_, ⟨⟨_, upd_same, htq⟩, fun b hb => upd_ne hb⟩, I9⟩
  refine ⟨nl, ?_⟩
  cases hf2 : codeAmong gp ps.toList with
  | none =>
    refine wpAny_genexprCodeX hcode (hcd.code eP2 htr) (hcd.tab eP2) hf2 fun c2 h2 tk hx hge hlt hco _ htb _ => ?_
    obtain ⟨_, _, _, _, _, _, _, _, _, _, _, _, _, _, _, _, _, _, _, ht2, _⟩ := hco
    exact behind _ h2 tk _ hx (Nat.le_trans hge (Nat.le_of_lt hlt)) htb.2 ⟨_, rfl⟩ ht2
  | some cv =>
    refine wpAny_genexprCode_hit hcode (hcd.code eP2 htr) hf2 ?_
    exact behind cv (sa.heap.push ob) sa.toks ps (Heap.ExtBut.refl _ _) (Nat.le_refl _) eP2 ⟨#[], by simp⟩ htr
/-- all(test for x in e), the test by the module's names too -/
theorem pe_allM {c P : Addr} {elt iter : Expr} {x : Str} {px p pos gp : Pos} {sc : Scope} {f : Nat → Bool} {te : TE} {k : Nat}
    (hr : Room k X.A) (hg : Gl X "all") (hm : X.mg "all" = none) (TB : TabB X.base X.mg c P) (hcode : X.env.code = .ref c) (S : GenS X.env sc x) (hi : PE X iter te) (hel : EltM X sc x elt f)
    (hf : ∀ v, genFold iter X.env v = pure v)
    (he : starEach [.GeneratorExp elt [⟨.Name x px, iter, [], 0⟩] sc gp] X.env = (false, eval (.GeneratorExp elt [⟨.Name x px, iter, [], 0⟩] sc gp) X.env) :: starEach [] X.env := by rfl) :
    PE X (.Call (.Name "all" p) [.GeneratorExp elt [⟨.Name x px, iter, [], 0⟩] sc gp] [] pos) (tAllS P f te) := by
  refine ⟨fun pins s σ H Q I h => ?_⟩
  refine wpAny_Call_Name_kw (ld_blt I hg hm (show bootBuiltins "all" = some (.builtin "all") by decide +kernel) (PyProof.Rows.callWith_builtin1 ?_ he (by rfl)))
  rw [he]
  refine Calls.spliced_cons ?_
  refine gen_signs (R := fun z H1 => ∀ H2, Tabbed P H1 H2 → Q (.bl (z.cps.toList.all f)) H2) hr TB hcode S hi hel hf I h fun z H1 g sg hR hG => ?_
  obtain ⟨fp, wr, G, F, St, W, hst, htr, hI⟩ := hG
  refine Calls.spliced_nil ?_
  refine call_all_walkS (W.self 0 _ _ _ hst ⟨g, fp, wr, G, _, F, St, _, rfl, W, hst, htr, fun s' hmv => ?_⟩)
  obtain ⟨H2, hT, J⟩ := hI s' hmv
  refine ⟨.bl _, H2, J, rfl, ?_⟩
  have e : (List.range z.cps.size).all (trF f z.cps.toList) = z.cps.toList.all f := all_signs z f
  rw [e]
  exact hR H2 hT
end
end Kt

namespace Kt
open PySem PySem.Spec PyProof.Rows L2 GxR Kr
/-! ### defs of the text -/
/-- a def of the module: where it stands, how its arguments bind, its name -/
structure Def (K : PySem.W.Frag) (mg : Str → Option Value) (x : Str) (st : Stmt) (ps : List Str) where
  f : Addr
  fd : FuncData
  F : Fun K x x st f fd
  b : Binds K fd ps []
  g : mg x = some (.ref f)
theorem def_ex {K : PySem.W.Frag} {h : Heap} {mg : Str → Option Value} {x : Str} {st : Stmt} {ps : List Str} {f : Addr} {oc : Value} {od an : Option Addr} {osl : Array (Option Value)} {kV dc pm cdv ct : Value}
    (X : K.In h) (G : h.Ns mainGlobals mg) (hb : ∀ (kV doc pm : Value) (an : Option Addr) (cdv ct : Value) (us : List Value), us.length = ps.length →
      bindArgs (PySem.W.fnOf x x (defArgs st) (defBody st) (defScope st) .none kV doc pm an cdv ct) ⟨us, []⟩ = pure (ps.zip us))
    (a : PySem.W.nsIn K mainGlobals x = some (some (.ref f))) (l : K.lookup f = some ⟨oc, od, .func (PySem.W.fnOf x x (defArgs st) (defBody st) (defScope st) .none kV dc pm an cdv ct), osl⟩)
    (c : PySem.W.codeIn K cdv x = true) (k : PySem.W.keepIn K (.ref f) = true) : Nonempty (Def K mg x st ps) :=
  ⟨⟨f, _, fun_mk l c k, (fun_mk (st := st) l c k).binds hb, PySem.W.mg_of X G a⟩⟩
/-! ### heaps -/
theorem same_new {H : Hp} {p : Addr} {o : HO} (h : H p = none) : Same H (upd H p o) := fun b x e => by
  rw [upd_ne (ne_of_none e h)]
  exact e
/-- what is new in H' -/
def Fresh (H H' : Hp) : Hp := fun b => match H b with
  | some _ => none
  | none => H' b
theorem fresh_iff {H H' : Hp} {b : Addr} {o : HO} : Fresh H H' b = some o ↔ H b = none ∧ H' b = some o := by
  unfold Fresh
  cases e : H b with
  | none => exact ⟨fun h => ⟨rfl, h⟩, fun h => h.2⟩
  | some u => exact ⟨fun h => (nomatch h), fun h => (nomatch h.1)⟩
theorem fresh_to (H H' : Hp) : Same (Fresh H H') H' := fun _ _ h => (fresh_iff.mp h).2
theorem fresh_back {H H1 H2 : Hp} (s : Same H H1) : Same (Fresh H1 H2) (Fresh H H2) := fun b o h => by
  obtain ⟨h1, h2⟩ := fresh_iff.mp h
  exact fresh_iff.mpr ⟨s.free h1, h2⟩
theorem fresh_on {H H1 H2 : Hp} (s : Same H1 H2) : Same (Fresh H H1) (Fresh H H2) := fun b o h => by
  obtain ⟨h1, h2⟩ := fresh_iff.mp h
  exact fresh_iff.mpr ⟨h1, s _ _ h2⟩
theorem fresh_at {H H' : Hp} {p : Addr} {o : HO} (h : H p = none) : Fresh H (upd H' p o) p = some o := fresh_iff.mpr ⟨h, upd_same⟩
open Classical in
/-- what stands outside M -/
noncomputable def Cut (M : Addr → Prop) (H : Hp) : Hp := fun b => if M b then none else H b
theorem cut_iff {M : Addr → Prop} {H : Hp} {b : Addr} {o : HO} : Cut M H b = some o ↔ ¬ M b ∧ H b = some o := by
  unfold Cut
  by_cases h : M b
  · rw [if_pos h]
    exact ⟨fun e => (nomatch e), fun e => absurd h e.1⟩
  · rw [if_neg h]
    exact ⟨fun e => ⟨h, e⟩, fun e => e.2⟩
theorem cut_to (M : Addr → Prop) (H : Hp) : Same (Cut M H) H := fun _ _ h => (cut_iff.mp h).2
theorem cut_same {M : Addr → Prop} {H H' : Hp} (s : Same H H') : Same (Cut M H) (Cut M H') := fun b o h => by
  obtain ⟨h1, h2⟩ := cut_iff.mp h
  exact cut_iff.mpr ⟨h1, s _ _ h2⟩
/-- the new part lies outside what stood -/
theorem fresh_cut {M : Addr → Prop} {H H' : Hp} (hM : ∀ b, M b → ∃ o, H b = some o) : Same (Fresh H H') (Cut M H') := fun b o h => by
  obtain ⟨h1, h2⟩ := fresh_iff.mp h
  refine cut_iff.mpr ⟨fun z => ?_, h2⟩
  obtain ⟨u, e⟩ := hM b z
  rw [h1] at e
  cases e
/-- a store within M -/
theorem cut_upd {M : Addr → Prop} {H : Hp} {p : Addr} {o : HO} (h : M p) : Same (Cut M H) (Cut M (upd H p o)) := fun b u e => by
  obtain ⟨h1, h2⟩ := cut_iff.mp e
  exact cut_iff.mpr ⟨h1, by rw [upd_ne (fun z => h1 (by rw [z]; exact h))]; exact h2⟩
/-- M grows by what is new -/
theorem cut_grow {M M' : Addr → Prop} {H H' : Hp} (s : Same H H') (g : ∀ b, M' b → M b ∨ H b = none) : Same (Cut M H) (Cut M' H') := fun b u e => by
  obtain ⟨h1, h2⟩ := cut_iff.mp e
  refine cut_iff.mpr ⟨fun z => ?_, s _ _ h2⟩
  rcases g b z with q | q
  · exact h1 q
  · rw [q] at h2
    cases h2
/-! ### numbers, texts, lists -/
theorem at_has {α : Type} {l : List α} {i : Int} (h0 : 0 ≤ i) (h1 : i < (l.length : Int)) : ∃ c, atI l i = some c := by
  obtain ⟨j, rfl⟩ : ∃ j : Nat, i = (j : Int) := ⟨i.toNat, by omega⟩
  have hj : j < l.length := by omega
  exact ⟨l[j], atI_nat (List.getElem?_eq_getElem hj)⟩
theorem small_line {n : Nat} (h : n ≤ 1000000) : n ≤ sizeLine := Nat.le_trans h (by decide)
theorem len_app (a b : Str) : (a ++ b).length = a.length + b.length := Str.length_append a b
theorem len_list (a : Str) : a.cps.toList.length = a.length := Array.length_toList
theorem app_list (a b : Str) : (a ++ b).cps.toList = a.cps.toList ++ b.cps.toList := Array.toList_append
theorem cut_head (a b : Str) : (cutS a none (some (b.length : Int))).cps.toList = a.cps.toList.take b.length := by
  unfold cutS
  rw [HT.sIx_none, HT.sIx_nat, List.drop_zero, Nat.sub_zero]
  show (a.cps.toList.take (min b.length a.length)) = _
  have e : a.cps.toList.length = a.length := len_list a
  by_cases h : b.length ≤ a.length
  · rw [Nat.min_eq_left h]
  · rw [Nat.min_eq_right (by omega), List.take_of_length_le (by omega), List.take_of_length_le (by omega)]
/-- the name lies under the head -/
def pre (head name : Str) : Bool := Txt.startswith name head
theorem under_eq (a b : Str) : decide (V.str (cutS a none (some (b.length : Int))) = V.str b) = pre b a := by
  have la := len_list a
  have lb := len_list b
  unfold pre Txt.startswith
  rw [StrLaws.subAt_eq, List.drop_zero]
  by_cases h : a.cps.toList.take b.length = b.cps.toList
  · have hl : b.length ≤ a.length := by
      have e := congrArg List.length h
      rw [List.length_take, la, lb] at e
      omega
    have e : cutS a none (some (b.length : Int)) = b := Kr.str_ext (by rw [cut_head]; exact h)
    rw [e, h, decide_eq_true rfl, decide_eq_true (by omega : 0 + b.length ≤ a.length), beq_self_eq_true]
    rfl
  · have e : ¬ (V.str (cutS a none (some (b.length : Int))) = V.str b) := fun q => h (by
      have q2 := V.str.inj q
      rw [← cut_head, q2])
    rw [decide_eq_false e, beq_eq_false_iff_ne.mpr h, Bool.and_false]
theorem cut_sub (z : Str) (lo hi : Option Int) : ∀ c ∈ (cutS z lo hi).cps.toList, c ∈ z.cps.toList := fun c hc => by
  have h1 : c ∈ (z.cps.toList.drop (HT.sIx z.length 0 lo)).take (HT.sIx z.length z.length hi - HT.sIx z.length 0 lo) := hc
  exact List.mem_of_mem_drop (List.mem_of_mem_take h1)
/-! ### names, heads, values -/
def signsS : Str := "abcdefghijklmnopqrstuvwxyz0123456789."
theorem signs_len : signsS.cps.toList.length = 37 := by decide +kernel
theorem signs_len2 : signsS.length = 37 := by decide +kernel
/-- the signs that may stand -/
def Good (z : Str) : Prop := ∀ c ∈ z.cps.toList, c ∈ signsS.cps.toList
def headB (z : Str) : Bool := z.cps.toList.all (fun n => decide (n ∈ signsS.cps.toList)) && decide (z.length ≤ 12)
def headV : V → Bool
  | .str z => headB z
  | _ => false
def nameV : V → Bool
  | .str z => headB z && !decide (V.str z = V.str "")
  | _ => false
def valueV : V → Bool
  | .non => true
  | .int i => decide (-(10 ^ 30) ≤ i) && decide (i ≤ 10 ^ 30)
  | _ => false
theorem headB_iff {z : Str} : headB z = true ↔ Good z ∧ z.length ≤ 12 := by
  unfold headB Good
  rw [Bool.and_eq_true, List.all_eq_true, decide_eq_true_eq]
  simp only [decide_eq_true_eq]
structure Name (z : Str) : Prop where
  good : Good z
  lo : 1 ≤ z.length
  hi : z.length ≤ 12
theorem Name.head {z : Str} (h : Name z) : headB z = true := headB_iff.mpr ⟨h.good, h.hi⟩
theorem Name.v {z : Str} (h : Name z) : nameV (.str z) = true := by
  show (headB z && _) = true
  rw [h.head, decide_eq_false (fun e => by
    have e2 := V.str.inj e
    have h1 := h.lo
    rw [e2] at h1
    exact absurd h1 (by decide))]
  rfl
theorem good_app {a b : Str} (ha : Good a) (hb : Good b) : Good (a ++ b) := fun c hc => by
  rw [app_list] at hc
  rcases List.mem_append.mp hc with h | h
  · exact ha c h
  · exact hb c h
theorem good_cut {z : Str} (h : Good z) (lo hi : Option Int) : Good (cutS z lo hi) := fun c hc => h c (cut_sub z lo hi c hc)
theorem good_at {i : Int} {c : Nat} (h : atI signsS.cps.toList i = some c) : Good ⟨#[c]⟩ := fun d hd => by
  have e : d = c := by simpa using hd
  rw [e]
  unfold atI at h
  cases hx : ixN signsS.cps.toList.length i with
  | none =>
    rw [hx] at h
    cases h
  | some j =>
    rw [hx] at h
    exact List.mem_of_getElem? (show signsS.cps.toList[j]? = some c from h)
/-- None or a whole number -/
def IsVal (x : V) : Prop := x = .non ∨ ∃ i, x = .int i
theorem isVal_of {x : V} (h : valueV x = true) : IsVal x := by
  cases x with
  | non => exact .inl rfl
  | int i => exact .inr ⟨i, rfl⟩
  | _ => cases h
/-! ### pairs of names and values -/
abbrev Prs := List (Str × V)
/-- a list of pairs stands at p -/
def PairsAt (H : Hp) (p : Addr) (ps : Prs) : Prop := ∃ as : List Addr, H p = some (.lst (as.map V.ref)) ∧ Paired (fun (a : Addr) (q : Str × V) => H a = some (.tup [.str q.1, q.2])) as ps
theorem PairsAt.mono {H H' : Hp} {p : Addr} {ps : Prs} (h : PairsAt H p ps) (s : Same H H') : PairsAt H' p ps := by
  obtain ⟨as, h1, h2⟩ := h
  exact ⟨as, s _ _ h1, Paired.mono (fun a b e => s _ _ e) h2⟩
theorem paired_get {α β : Type} {F : α → β → Prop} : ∀ {xs : List α} {ys : List β} {i : Nat} {y : β}, Paired F xs ys → ys[i]? = some y → ∃ x, xs[i]? = some x ∧ F x y
  | _, _, _, _, .nil, e => by simp at e
  | _, _, 0, _, .cons r _, e => by
    simp at e
    subst e
    exact ⟨_, rfl, r⟩
  | _, _, i + 1, y, .cons _ t, e => by
    obtain ⟨u, h1, h2⟩ := paired_get (i := i) (y := y) t (by simpa using e)
    exact ⟨u, by simpa using h1, h2⟩
theorem PairsAt.len {H : Hp} {p : Addr} {ps : Prs} (h : PairsAt H p ps) : ∃ xs, H p = some (.lst xs) ∧ xs.length = ps.length := by
  obtain ⟨as, h1, h2⟩ := h
  exact ⟨_, h1, by rw [List.length_map, h2.length]⟩
/-! ### dicts with text keys -/
def dk (m : Prs) : List (Key × V) := m.map fun q => ((Sum.inr q.1 : Key), q.2)
theorem dk_keys (m : Prs) : (dk m).map (·.1) = (m.map (·.1)).map Sum.inr := by
  unfold dk
  rw [List.map_map, List.map_map]
  rfl
theorem dk_len (m : Prs) : (dk m).length = m.length := by
  unfold dk
  rw [List.length_map]
theorem inr_dec (a b : Str) : decide ((Sum.inr a : Key) = Sum.inr b) = decide (a = b) := by
  by_cases h : a = b
  · rw [h, decide_eq_true rfl, decide_eq_true rfl]
  · rw [decide_eq_false h, decide_eq_false (fun e => h (Sum.inr.inj e))]
theorem dk_val : ∀ (m : Prs) (n : Str), valV (dk m) (Sum.inr n : Key) = valV m n
  | [], n => rfl
  | q :: r, n => by
    by_cases h : q.1 = n
    · rw [valV_pos h]
      exact valV_pos (p := ((Sum.inr q.1 : Key), q.2)) (r := dk r) (by rw [h])
    · rw [valV_neg h, ← dk_val r n]
      exact valV_neg (p := ((Sum.inr q.1 : Key), q.2)) (r := dk r) (fun e => h (Sum.inr.inj e))
theorem dk_put (m : Prs) (n : Str) (v : V) : putK (dk m) (Sum.inr n : Key) v = dk (putK m n v) := by
  unfold putK
  rw [valV_any, valV_any, dk_val]
  by_cases h : (valV m n).isSome = true
  · rw [if_pos h, if_pos h]
    unfold dk
    rw [List.map_map, List.map_map]
    refine List.map_congr_left fun q _ => ?_
    show (if (Sum.inr q.1 : Key) = Sum.inr n then ((Sum.inr q.1 : Key), v) else (Sum.inr q.1, q.2)) = _
    by_cases e : q.1 = n
    · rw [if_pos (by rw [e])]
      show _ = ((Sum.inr (if q.1 = n then (q.1, v) else q).1 : Key), (if q.1 = n then (q.1, v) else q).2)
      rw [if_pos e]
    · rw [if_neg (fun z => e (Sum.inr.inj z))]
      show _ = ((Sum.inr (if q.1 = n then (q.1, v) else q).1 : Key), (if q.1 = n then (q.1, v) else q).2)
      rw [if_neg e]
  · rw [if_neg h, if_neg h]
    unfold dk
    rw [List.map_append]
    rfl
/-- the second's entries put into the first -/
def putAll (m l : Prs) : Prs := l.foldl (fun acc q => putK acc q.1 q.2) m
theorem dk_merge : ∀ (l m : Prs), mergeK (dk m) (dk l) = dk (putAll m l)
  | [], m => rfl
  | q :: r, m => by
    show mergeK (putK (dk m) (Sum.inr q.1 : Key) q.2) (dk r) = dk (putAll (putK m q.1 q.2) r)
    rw [dk_put]
    exact dk_merge r _
theorem put_keys {m : Prs} {n : Str} {v : V} (h : (m.map (·.1)).Nodup) : ((putK m n v).map (·.1)).Nodup := by
  cases e : valV m n with
  | none => exact nd_putK v h e
  | some x =>
    have ha : (m.any fun kv => decide (kv.1 = n)) = true := by rw [valV_any, e]; rfl
    unfold putK
    rw [if_pos ha, List.map_map]
    have : (m.map ((fun x : Str × V => x.1) ∘ fun kv => if kv.1 = n then (kv.1, v) else kv)) = m.map (·.1) := List.map_congr_left fun q _ => by
      show (if q.1 = n then (q.1, v) else q).1 = q.1
      by_cases z : q.1 = n
      · rw [if_pos z]
      · rw [if_neg z]
    rw [this]
    exact h
theorem putAll_keys : ∀ (l : Prs) {m : Prs}, (m.map (·.1)).Nodup → ((putAll m l).map (·.1)).Nodup
  | [], _, h => h
  | q :: r, _, h => putAll_keys r (put_keys h)
theorem putAll_len : ∀ (l m : Prs), (putAll m l).length ≤ m.length + l.length
  | [], m => Nat.le_refl _
  | q :: r, m => by
    have h1 := putAll_len r (putK m q.1 q.2)
    have h2 := length_putK m q.1 q.2
    show (putAll (putK m q.1 q.2) r).length ≤ m.length + (r.length + 1)
    omega
theorem putAll_val : ∀ (l m : Prs) (n : Str), valV (putAll m l) n = (match valV (putAll [] l) n with | some v => some v | none => valV m n)
  | [], m, n => rfl
  | q :: r, m, n => by
    show valV (putAll (putK m q.1 q.2) r) n = (match valV (putAll (putK [] q.1 q.2) r) n with | some v => some v | none => valV m n)
    rw [putAll_val r (putK m q.1 q.2) n, putAll_val r (putK [] q.1 q.2) n]
    cases valV (putAll [] r) n with
    | some v => rfl
    | none =>
      show valV (putK m q.1 q.2) n = (match valV (putK [] q.1 q.2) n with | some v => some v | none => valV m n)
      rw [valV_put, valV_put]
      by_cases e : n = q.1
      · rw [if_pos e, if_pos e]
      · rw [if_neg e, if_neg e]
        rfl
theorem val_mem : ∀ {m : Prs} {n : Str} {v : V}, (m.map (·.1)).Nodup → ((n, v) ∈ m ↔ valV m n = some v)
  | [], n, v, _ => by simp [valV_nil]
  | q :: r, n, v, h => by
    rw [List.map_cons, List.nodup_cons] at h
    by_cases e : q.1 = n
    · rw [valV_pos e]
      constructor
      · intro hm
        rcases List.mem_cons.mp hm with z | z
        · rw [← z]
        · exact absurd (by rw [e]; exact List.mem_map.mpr ⟨_, z, rfl⟩) h.1
      · intro z
        cases z
        rw [← e]
        exact List.mem_cons_self
    · rw [valV_neg e, ← val_mem h.2]
      constructor
      · intro hm
        rcases List.mem_cons.mp hm with z | z
        · exact absurd (by rw [← z]) e
        · exact z
      · exact fun z => List.mem_cons_of_mem _ z
/-- what a dict tells of a name: None where it is not there -/
def tells (m : Prs) (n : Str) : V := (valV m n).getD .non
/-- a dict with text keys stands at a -/
structure DictAt (H : Hp) (a : Addr) (m : Prs) : Prop where
  at' : H a = some (.dK (dk m))
  nd : (m.map (·.1)).Nodup
theorem DictAt.mono {H H' : Hp} {a : Addr} {m : Prs} (h : DictAt H a m) (s : Same H H') : DictAt H' a m := ⟨s _ _ h.at', h.nd⟩
/-! ### what a head tells -/
/-- the list of pairs that is told of a head, where the names have the values f -/
structure IsTold (f : Str → V) (head : Str) (ps : Prs) : Prop where
  up : ps.Pairwise fun p q => Lt p.1 q.1
  mem : ∀ n v, (n, v) ∈ ps ↔ v ≠ .non ∧ f n = v ∧ pre head n = true
theorem told_sub : ∀ {ps qs : Prs}, ps.Pairwise (fun p q => Lt p.1 q.1) → qs.Pairwise (fun p q => Lt p.1 q.1) → (∀ x, x ∈ ps ↔ x ∈ qs) → ps = qs
  | [], [], _, _, _ => rfl
  | [], q :: r, _, _, h => absurd ((h q).mpr List.mem_cons_self) (by simp)
  | q :: r, [], _, _, h => absurd ((h q).mp List.mem_cons_self) (by simp)
  | p :: ps, q :: qs, hp, hq, h => by
    rw [List.pairwise_cons] at hp hq
    have e : p = q := by
      rcases List.mem_cons.mp ((h p).mp List.mem_cons_self) with z | z
      · exact z
      · rcases List.mem_cons.mp ((h q).mpr List.mem_cons_self) with y | y
        · exact y.symm
        · exact absurd (hq.1 p z) (hp.1 q y).asymm
    subst e
    have h2 : ∀ x, x ∈ ps ↔ x ∈ qs := fun x => by
      constructor
      · intro hx
        rcases List.mem_cons.mp ((h x).mp (List.mem_cons_of_mem _ hx)) with z | z
        · subst z
          exact absurd (hp.1 x hx) (Lt.irrefl _)
        · exact z
      · intro hx
        rcases List.mem_cons.mp ((h x).mpr (List.mem_cons_of_mem _ hx)) with z | z
        · subst z
          exact absurd (hq.1 x hx) (Lt.irrefl _)
        · exact z
    rw [told_sub hp.2 hq.2 h2]
theorem IsTold.unique {f : Str → V} {head : Str} {ps qs : Prs} (a : IsTold f head ps) (b : IsTold f head qs) : ps = qs :=
  told_sub a.up b.up fun x => by
    obtain ⟨n, v⟩ := x
    rw [a.mem, b.mem]
end Kt

namespace Kt
open PySem PySem.Spec PyProof.Rows L2 GxR Kr
/-! ### data, compared -/
/-- it may be laid, and is no deeper -/
def Sd (d : PyData) (n : Nat) : Prop := d.canLay0 = true ∧ d.depth ≤ n
theorem Sd.mono {d : PyData} {n m : Nat} (h : Sd d n) (l : n ≤ m) : Sd d m := ⟨h.1, Nat.le_trans h.2 l⟩
theorem all_lay : ∀ {xs : List PyData} {n : Nat}, (∀ x ∈ xs, Sd x n) → PyData.canLayAll0 xs = true ∧ PyData.depthAll xs ≤ n
  | [], n, _ => ⟨rfl, Nat.zero_le _⟩
  | x :: r, n, h => by
    have h1 := h x List.mem_cons_self
    have h2 := all_lay (fun y hy => h y (List.mem_cons_of_mem _ hy))
    refine ⟨?_, ?_⟩
    · show (PyData.canLay0 x && PyData.canLayAll0 r) = true
      rw [h1.1, h2.1]
      rfl
    · show max (PyData.depth x) (PyData.depthAll r) ≤ n
      exact Nat.max_le.mpr ⟨h1.2, h2.2⟩
theorem sd_list {xs : List PyData} {n : Nat} (h : ∀ x ∈ xs, Sd x n) : Sd (.list xs) (n + 1) := by
  have h1 := all_lay h
  exact ⟨h1.1, Nat.succ_le_succ h1.2⟩
theorem sd_tuple {xs : List PyData} {n : Nat} (h : ∀ x ∈ xs, Sd x n) : Sd (.tuple xs) (n + 1) := by
  have h1 := all_lay h
  exact ⟨h1.1, Nat.succ_le_succ h1.2⟩
theorem Sd.shaped {d : PyData} {n : Nat} (h : Sd d n) (l : n ≤ 64) : SeqAt.shaped d = true := by
  unfold SeqAt.shaped
  rw [h.1, decide_eq_true (Nat.le_trans h.2 l)]
  rfl
theorem sd_none (n : Nat) : Sd .none n := ⟨rfl, Nat.zero_le _⟩
theorem sd_int (i : Int) (n : Nat) : Sd (.int i) n := ⟨rfl, Nat.zero_le _⟩
theorem strOk_good {z : Str} (h : Good z) : PyData.strOk z = true := by
  unfold PyData.strOk
  rw [← Array.all_toList, List.all_eq_true]
  intro c hc
  have h1 : ∀ d ∈ signsS.cps.toList, d < 0x110000 := by decide +kernel
  exact decide_eq_true (h1 c (h c hc))
theorem sd_str {z : Str} (h : PyData.strOk z = true) (n : Nat) : Sd (.str z) n := ⟨h, Nat.zero_le _⟩
mutual
/-- no truth values, no dicts -/
def plain : PyData → Bool
  | .bool _ => false
  | .dict _ => false
  | .list xs => plainAll xs
  | .tuple xs => plainAll xs
  | _ => true
def plainAll : List PyData → Bool
  | [] => true
  | x :: r => plain x && plainAll r
end
mutual
theorem eqv_iff : ∀ a b : PyData, plain a = true → plain b = true → (PyData.eqv a b = true ↔ a = b)
  | .none, b, _, hb => by cases b <;> simp_all [PyData.eqv, plain]
  | .bool _, _, ha, _ => absurd ha Bool.false_ne_true
  | .int i, b, _, hb => by cases b <;> simp_all [PyData.eqv, plain]
  | .str x, b, _, hb => by cases b <;> simp_all [PyData.eqv, plain]
  | .list xs, b, ha, hb => by
    cases b with
    | list ys =>
      have h := eqvAll_iff xs ys ha hb
      show PyData.eqvAll xs ys = true ↔ _
      rw [h]
      exact ⟨fun e => by rw [e], fun e => by injection e⟩
    | bool _ => exact absurd hb Bool.false_ne_true
    | dict _ => exact absurd hb Bool.false_ne_true
    | none => exact ⟨fun e => (nomatch e), fun e => (nomatch e)⟩
    | int _ => exact ⟨fun e => (nomatch e), fun e => (nomatch e)⟩
    | str _ => exact ⟨fun e => (nomatch e), fun e => (nomatch e)⟩
    | tuple _ => exact ⟨fun e => (nomatch e), fun e => (nomatch e)⟩
  | .tuple xs, b, ha, hb => by
    cases b with
    | tuple ys =>
      have h := eqvAll_iff xs ys ha hb
      show PyData.eqvAll xs ys = true ↔ _
      rw [h]
      exact ⟨fun e => by rw [e], fun e => by injection e⟩
    | bool _ => exact absurd hb Bool.false_ne_true
    | dict _ => exact absurd hb Bool.false_ne_true
    | none => exact ⟨fun e => (nomatch e), fun e => (nomatch e)⟩
    | int _ => exact ⟨fun e => (nomatch e), fun e => (nomatch e)⟩
    | str _ => exact ⟨fun e => (nomatch e), fun e => (nomatch e)⟩
    | list _ => exact ⟨fun e => (nomatch e), fun e => (nomatch e)⟩
  | .dict _, _, ha, _ => absurd ha Bool.false_ne_true
theorem eqvAll_iff : ∀ xs ys : List PyData, plainAll xs = true → plainAll ys = true → (PyData.eqvAll xs ys = true ↔ xs = ys)
  | [], [], _, _ => ⟨fun _ => rfl, fun _ => rfl⟩
  | [], y :: ys, _, _ => ⟨fun e => (nomatch e), fun e => (nomatch e)⟩
  | x :: xs, [], _, _ => ⟨fun e => (nomatch e), fun e => (nomatch e)⟩
  | x :: xs, y :: ys, ha, hb => by
    have ha2 : plain x = true ∧ plainAll xs = true := Bool.and_eq_true_iff.mp ha
    have hb2 : plain y = true ∧ plainAll ys = true := Bool.and_eq_true_iff.mp hb
    show (PyData.eqv x y && PyData.eqvAll xs ys) = true ↔ _
    rw [Bool.and_eq_true, eqv_iff x y ha2.1 hb2.1, eqvAll_iff xs ys ha2.2 hb2.2]
    exact ⟨fun e => by rw [e.1, e.2], fun e => by injection e with e1 e2; exact ⟨e1, e2⟩⟩
end
theorem plainAll_of : ∀ {xs : List PyData}, (∀ x ∈ xs, plain x = true) → plainAll xs = true
  | [], _ => rfl
  | x :: r, h => by
    show (plain x && plainAll r) = true
    rw [h x List.mem_cons_self, plainAll_of fun y hy => h y (List.mem_cons_of_mem _ hy)]
    rfl
/-! ### values, pairs and deeds as data -/
def vD : V → PyData
  | .int i => .int i
  | .str z => .str z
  | .bl b => .bool b
  | _ => .none
theorem vD_dp {K : PySem.W.Frag} {H : Hp} {x : V} (h : IsVal x) : Dp K H x (vD x) := by
  rcases h with h | ⟨i, h⟩ <;> subst h
  · exact .non
  · exact .int i
theorem vD_sd {x : V} (h : IsVal x) (n : Nat) : Sd (vD x) n := by
  rcases h with h | ⟨i, h⟩ <;> subst h
  · exact sd_none n
  · exact sd_int i n
theorem vD_plain {x : V} (h : IsVal x) : plain (vD x) = true := by
  rcases h with h | ⟨i, h⟩ <;> subst h <;> rfl
theorem vD_inj {x y : V} (hx : IsVal x) (hy : IsVal y) (e : vD x = vD y) : x = y := by
  rcases hx with h | ⟨i, h⟩ <;> rcases hy with h2 | ⟨j, h2⟩ <;> subst h <;> subst h2
  · rfl
  · cases e
  · cases e
  · cases e
    rfl
/-- a pair of a text that may be laid and a value -/
def PrOk (q : Str × V) : Prop := PyData.strOk q.1 = true ∧ IsVal q.2
def pD (q : Str × V) : PyData := .tuple [.str q.1, vD q.2]
theorem pD_sd {q : Str × V} (h : PrOk q) : Sd (pD q) 1 := sd_tuple fun x hx => by
  have h2 : x = .str q.1 ∨ x = vD q.2 := by simpa using hx
  rcases h2 with e | e <;> subst e
  · exact sd_str h.1 0
  · exact vD_sd h.2 0
theorem pD_plain {q : Str × V} (h : PrOk q) : plain (pD q) = true := by
  show (true && (plain (vD q.2) && true)) = true
  rw [vD_plain h.2]
  rfl
theorem pD_inj {p q : Str × V} (hp : PrOk p) (hq : PrOk q) (e : pD p = pD q) : p = q := by
  unfold pD at e
  injection e with e
  injection e with e1 e2
  injection e1 with e1
  injection e2 with e2 _
  exact Prod.ext e1 (vD_inj hp.2 hq.2 e2)
theorem map_inj_on {α β : Type} {f : α → β} : ∀ {xs ys : List α}, (∀ x ∈ xs, ∀ y ∈ ys, f x = f y → x = y) → xs.map f = ys.map f → xs = ys
  | [], [], _, _ => rfl
  | [], y :: ys, _, e => by simp at e
  | x :: xs, [], _, e => by simp at e
  | x :: xs, y :: ys, h, e => by
    rw [List.map_cons, List.map_cons] at e
    injection e with e1 e2
    rw [h x List.mem_cons_self y List.mem_cons_self e1, map_inj_on (fun a ha b hb => h a (List.mem_cons_of_mem _ ha) b (List.mem_cons_of_mem _ hb)) e2]
def psD (ps : Prs) : PyData := .list (ps.map pD)
theorem psD_sd {ps : Prs} (h : ∀ q ∈ ps, PrOk q) : Sd (psD ps) 2 := sd_list fun x hx => by
  obtain ⟨q, hq, e⟩ := List.mem_map.mp hx
  rw [← e]
  exact pD_sd (h q hq)
theorem psD_plain {ps : Prs} (h : ∀ q ∈ ps, PrOk q) : plain (psD ps) = true := plainAll_of fun x hx => by
  obtain ⟨q, hq, e⟩ := List.mem_map.mp hx
  rw [← e]
  exact pD_plain (h q hq)
theorem psD_inj {ps qs : Prs} (hp : ∀ q ∈ ps, PrOk q) (hq : ∀ q ∈ qs, PrOk q) (e : psD ps = psD qs) : ps = qs := by
  injection e with e
  exact map_inj_on (fun x hx y hy => pD_inj (hp x hx) (hq y hy)) e
theorem dp_paired {K : PySem.W.Frag} {H : Hp} {α : Type} {f : α → PyData} : ∀ {as : List Addr} {xs : List α}, Paired (fun (a : Addr) (x : α) => Dp K H (.ref a) (f x)) as xs → DpAll K H (as.map V.ref) (xs.map f)
  | _, _, .nil => .nil
  | _, _, .cons h t => .cons h (dp_paired t)
theorem paired_mem {α β : Type} {F G : α → β → Prop} : ∀ {xs : List α} {ys : List β}, Paired F xs ys → (∀ x y, y ∈ ys → F x y → G x y) → Paired G xs ys
  | _, _, .nil, _ => .nil
  | _, _, .cons h t, k => .cons (k _ _ List.mem_cons_self h) (paired_mem t fun x y hy => k x y (List.mem_cons_of_mem _ hy))
theorem PairsAt.dp {K : PySem.W.Frag} {H : Hp} {p : Addr} {ps : Prs} (h : PairsAt H p ps) (ok : ∀ q ∈ ps, PrOk q) : Dp K H (.ref p) (psD ps) := by
  obtain ⟨as, h1, h2⟩ := h
  exact .lst (SqL.of h1) (dp_paired (paired_mem h2 fun a q hq e => .tup (SqT.of e) (.cons (.str q.1) (.cons (vD_dp (ok q hq).2) .nil))))
/-- a deed of a dealing -/
inductive Deed where
  | read (n : Str) (v : V)
  | under (h : Str) (ps : Prs)
  | write (n : Str) (v : V)
  | back (m : Nat)
/-- a deed stands at a -/
def DeedAt (H : Hp) (a : Addr) : Deed → Prop
  | .read n v => H a = some (.tup [.str "read", .str n, v])
  | .under h ps => ∃ p, H a = some (.tup [.str "under", .str h, .ref p]) ∧ PairsAt H p ps
  | .write n v => H a = some (.tup [.str "write", .str n, v])
  | .back m => H a = some (.tup [.str "back", .int (m : Nat)])
theorem DeedAt.mono {H H' : Hp} {a : Addr} {d : Deed} (h : DeedAt H a d) (s : Same H H') : DeedAt H' a d := by
  cases d with
  | read n v => exact s _ _ h
  | under z ps =>
    obtain ⟨p, h1, h2⟩ := h
    exact ⟨p, s _ _ h1, h2.mono s⟩
  | write n v => exact s _ _ h
  | back m => exact s _ _ h
/-- names, values and heads of a deed are such -/
def DeedOk : Deed → Prop
  | .read n v => Name n ∧ valueV v = true
  | .under h ps => headB h = true ∧ ∀ q ∈ ps, Name q.1 ∧ valueV q.2 = true
  | .write n v => Name n ∧ valueV v = true
  | .back _ => True
theorem prOk_of {q : Str × V} (h : Name q.1 ∧ valueV q.2 = true) : PrOk q := ⟨strOk_good h.1.good, isVal_of h.2⟩
/-- a deed's items as data -/
def dD : Deed → List PyData
  | .read n v => [.str "read", .str n, vD v]
  | .under h ps => [.str "under", .str h, psD ps]
  | .write n v => [.str "write", .str n, vD v]
  | .back m => [.str "back", .int (m : Nat)]
theorem DeedAt.items {K : PySem.W.Frag} {H : Hp} {a : Addr} {d : Deed} (h : DeedAt H a d) (ok : DeedOk d) : ∃ xs, H a = some (.tup xs) ∧ DpAll K H xs (dD d) ∧ xs.length ≤ 3 := by
  cases d with
  | read n v => exact ⟨_, h, .cons (.str _) (.cons (.str _) (.cons (vD_dp (isVal_of ok.2)) .nil)), Nat.le_refl _⟩
  | under z ps =>
    obtain ⟨p, h1, h2⟩ := h
    exact ⟨_, h1, .cons (.str _) (.cons (.str _) (.cons (h2.dp fun q hq => prOk_of (ok.2 q hq)) .nil)), Nat.le_refl _⟩
  | write n v => exact ⟨_, h, .cons (.str _) (.cons (.str _) (.cons (vD_dp (isVal_of ok.2)) .nil)), Nat.le_refl _⟩
  | back m => exact ⟨_, h, .cons (.str _) (.cons (.int _) .nil), Nat.le_succ 2⟩
theorem dD_sd {d : Deed} (ok : DeedOk d) : ∀ x ∈ dD d, Sd x 2 := by
  intro x hx
  cases d with
  | read n v =>
    have h2 : x = .str "read" ∨ x = .str n ∨ x = vD v := by simpa [dD] using hx
    rcases h2 with e | e | e <;> subst e
    · exact sd_str (by decide +kernel) 2
    · exact sd_str (strOk_good ok.1.good) 2
    · exact vD_sd (isVal_of ok.2) 2
  | under h ps =>
    have h2 : x = .str "under" ∨ x = .str h ∨ x = psD ps := by simpa [dD] using hx
    rcases h2 with e | e | e <;> subst e
    · exact sd_str (by decide +kernel) 2
    · exact sd_str (strOk_good (headB_iff.mp ok.1).1) 2
    · exact psD_sd fun q hq => prOk_of (ok.2 q hq)
  | write n v =>
    have h2 : x = .str "write" ∨ x = .str n ∨ x = vD v := by simpa [dD] using hx
    rcases h2 with e | e | e <;> subst e
    · exact sd_str (by decide +kernel) 2
    · exact sd_str (strOk_good ok.1.good) 2
    · exact vD_sd (isVal_of ok.2) 2
  | back m =>
    have h2 : x = .str "back" ∨ x = .int (m : Nat) := by simpa [dD] using hx
    rcases h2 with e | e <;> subst e
    · exact sd_str (by decide +kernel) 2
    · exact sd_int _ 2
theorem dD_plain {d : Deed} (ok : DeedOk d) : plainAll (dD d) = true := by
  cases d with
  | read n v =>
    show (true && (true && (plain (vD v) && true))) = true
    rw [vD_plain (isVal_of ok.2)]
    rfl
  | under h ps =>
    show (true && (true && (plain (psD ps) && true))) = true
    rw [psD_plain fun q hq => prOk_of (ok.2 q hq)]
    rfl
  | write n v =>
    show (true && (true && (plain (vD v) && true))) = true
    rw [vD_plain (isVal_of ok.2)]
    rfl
  | back m => rfl
theorem str_ne (a b : Str) (h : decide (a = b) = false) : ¬ (PyData.str a = PyData.str b) := fun e => by
  injection e with e
  rw [e, decide_eq_true rfl] at h
  cases h
theorem dD_inj {d e : Deed} (hd : DeedOk d) (he : DeedOk e) (h : dD d = dD e) : d = e := by
  have k1 : ¬ (PyData.str "read" = PyData.str "under") := str_ne _ _ (by decide +kernel)
  have k2 : ¬ (PyData.str "read" = PyData.str "write") := str_ne _ _ (by decide +kernel)
  have k3 : ¬ (PyData.str "under" = PyData.str "write") := str_ne _ _ (by decide +kernel)
  cases d <;> cases e <;> simp only [dD, List.cons.injEq, and_true, PyData.str.injEq, PyData.int.injEq] at h
  case read.read => rw [h.2.1, vD_inj (isVal_of hd.2) (isVal_of he.2) h.2.2]
  case under.under => rw [h.2.1, psD_inj (fun q hq => prOk_of (hd.2 q hq)) (fun q hq => prOk_of (he.2 q hq)) h.2.2]
  case write.write => rw [h.2.1, vD_inj (isVal_of hd.2) (isVal_of he.2) h.2.2]
  case back.back => rw [Int.ofNat.inj h.2]
  all_goals first
    | exact absurd (congrArg PyData.str h.1) k1
    | exact absurd (congrArg PyData.str h.1.symm) k1
    | exact absurd (congrArg PyData.str h.1) k2
    | exact absurd (congrArg PyData.str h.1.symm) k2
    | exact absurd (congrArg PyData.str h.1) k3
    | exact absurd (congrArg PyData.str h.1.symm) k3
    | (exfalso; simp at h)
/-! ### what rows of deeds tell, walked one after the other -/
def readV (left : Str → V) (puts : Prs) (n : Str) : V := match valV (putAll [] puts) n with
  | some v => v
  | none => left n
def nextP (puts : Prs) : Deed → Prs
  | .write n v => puts ++ [(n, v)]
  | .back m => puts.take m
  | _ => puts
def Right (left : Str → V) (puts : Prs) : Deed → Prop
  | .read n v => readV left puts n = v
  | .under h ps => IsTold (readV left puts) h ps
  | _ => True
def Fits (puts : Prs) : Deed → Prop
  | .back m => m ≤ puts.length
  | _ => True
/-- every deed of a row fits, each reading tells what it would -/
def RowFits : Prs → List Deed → Prop
  | _, [] => True
  | puts, d :: r => Fits puts d ∧ RowFits (nextP puts d) r
def RowRight (left : Str → V) : Prs → List Deed → Prop
  | _, [] => True
  | puts, d :: r => Right left puts d ∧ RowRight left (nextP puts d) r
def endP (puts : Prs) (ds : List Deed) : Prs := ds.foldl nextP puts
def RowsFit : List (List Deed) → Prop
  | [] => True
  | ds :: r => RowFits [] ds ∧ RowsFit r
def RowsRight : (Str → V) → List (List Deed) → Prop
  | _, [] => True
  | left, ds :: r => RowRight left [] ds ∧ RowsRight (readV left (endP [] ds)) r
def rowsLeft : (Str → V) → List (List Deed) → Str → V
  | left, [] => left
  | left, ds :: r => rowsLeft (readV left (endP [] ds)) r
/-- a list of deeds stands at a; a list of such lists -/
def DeedsAt (H : Hp) (a : Addr) (ds : List Deed) : Prop := ∃ as : List Addr, H a = some (.lst (as.map V.ref)) ∧ Paired (DeedAt H) as ds
def RowsAt (H : Hp) (a : Addr) (rows : List (List Deed)) : Prop := ∃ as : List Addr, H a = some (.lst (as.map V.ref)) ∧ Paired (DeedsAt H) as rows
theorem DeedsAt.mono {H H' : Hp} {a : Addr} {ds : List Deed} (h : DeedsAt H a ds) (s : Same H H') : DeedsAt H' a ds := by
  obtain ⟨as, h1, h2⟩ := h
  exact ⟨as, s _ _ h1, Paired.mono (fun _ _ e => e.mono s) h2⟩
theorem RowsAt.mono {H H' : Hp} {a : Addr} {rows : List (List Deed)} (h : RowsAt H a rows) (s : Same H H') : RowsAt H' a rows := by
  obtain ⟨as, h1, h2⟩ := h
  exact ⟨as, s _ _ h1, Paired.mono (fun _ _ e => e.mono s) h2⟩
def noLeft : Str → V := fun _ => .non
end Kt

namespace Kr
open PySem PySem.Spec PyProof.Rows L2
/-! ### more rules within a comprehension -/
section
variable {X : Cx} {K : PySem.W.Frag}
theorem it_listK {tg l : Expr} {tl : TE} (h : PE X l tl) (e : X.K = K := by rfl) : PI X tg l (iList K tl) := by
  subst e
  exact pi_list h
theorem it_tupK {tg l : Expr} {tl : TE} (h : PE X l tl) (e : X.K = K := by rfl) : PI X tg l (iTup K tl) := by
  subst e
  exact pi_tup h
theorem list_ofK (e : X.K = K := by rfl) : CallR X (.type "list") (fun xs H Q => ∃ p ys, xs = [V.ref p] ∧ (SqL K H p ys ∨ SqT K H p ys) ∧ ∀ l : Addr, H l = none → Q (.ref l) (upd H l (.lst ys))) := by
  subst e
  exact call_list_of
end
end Kr

namespace Kt
open PySem PySem.Spec PyProof.Rows L2 GxR Kr
/-! ### refusals -/
/-- what never raises passes -/
theorem passF {P : Program} {w : World} {X : Cx} : Passes (CX P w) X (fun _ _ _ => False) := fun _ _ _ _ _ _ _ h => by
  obtain ⟨_, _, _, _, _, _, _, _, _, _, _, _, z⟩ := h
  exact z.elim
theorem passFS {P : Program} {w : World} {X : Cx} (σ : L2.St) : PassesAt (CX P w) X σ (fun _ _ _ => False) := fun _ _ _ _ _ _ h => by
  obtain ⟨_, _, _, _, _, _, _, _, _, _, _, _, z⟩ := h
  exact z.elim
/-- a suite that is asked for one class alone -/
theorem pss_when {X : Cx} {b : List Stmt} {t : TS} {oe : Obj} {cls : Value} {d : Option Addr} {D : Addr} (h : Zc (.ref D) none oe → PSs X b t) (hz : Zc cls d oe) : PSs X b (fun E σ H => (cls = .ref D ∧ d = none) ∧ t E σ H) := by
  by_cases c : cls = .ref D ∧ d = none
  · obtain ⟨rfl, rfl⟩ := c
    exact ⟨fun pins s σ H E I q => (h hz).run pins s σ H E I q.2⟩
  · exact ⟨fun pins s σ H E I q => absurd q.1 c⟩
/-- the classes of refusals -/
inductive Er where
  | deal | noDealing | over | noName | noValue | noMark | taken | late | crossed | unlike
  deriving DecidableEq
def Er.under (e f : Er) : Bool := decide (e = f) || decide (f = .deal)
structure Errs (K : PySem.W.Frag) (C : Er → Addr) : Prop where
  own : ∀ e, ExcC K (C e)
  exm : ∀ e f, PySem.W.exmOne K (.ref (C e)) (.ref (C f)) = some (e.under f)
  kit : ∀ e f, PySem.W.kitOne K (.ref (C e)) (.ref (C f)) = some (e.under f)
  val : ∀ e, PySem.W.kitOne K (.ref (C e)) (.type "ValueError") = some true
theorem isEK {X : Cx} {a D : Addr} {oe : Obj} {pn : List (Addr × Obj)} {K : PySem.W.Frag} (C : ExcC X.K D) (hz : Zc (.ref D) none oe) (hf : ∃ vs, oe.data = .fields vs) (e : X.K = K := by rfl) : CallR (X.suite a ((a, oe) :: pn)) (.builtin "isinstance") (rIsE K D a) := by
  subst e
  exact call_isE C hz hf
theorem cntK {X : Cx} {K : PySem.W.Frag} (e : X.K = K := by rfl) : MtR X "list.count" (rCnt K) := by
  subst e
  exact mt_cnt
theorem bmK {X : Cx} {K : PySem.W.Frag} {o e : Expr} {es : List Expr} {to : TE} {t : TA} {name : Str} {apos cpos : Pos} {T id : String} {r : V → List V → Hp → VK → Prop} (hp : PlainAttrs T) (hs : Slot T name id)
    (ht : typeOf (Value.builtin id) = pure (Value.type "method_descriptor")) (hm : MtR X id r) (ho : PE X o to) (ha : PA X (e :: es) t) (h1 : attributeBase o name X.env (eval o X.env) = eval o X.env := by rfl)
    (h2 : ((((backTo cpos (starEach (e :: es) X.env)).all fun x => !x.fst) && (backToKw cpos (keywordEach [] X.env)).all fun x => x.fst.isSome) && decide (((e :: es).length + ([] : List Keyword).length + if ([] : List Keyword).isEmpty = true then 0 else 1) < 30)) = true := by rfl)
    (h3 : (apos.endLine == cpos.line) = true := by rfl) (h4 : starEach (e :: es) X.env = (false, eval e X.env) :: starEach es X.env := by rfl) (h5 : ((backTo cpos (starEach es X.env)).any fun x => x.fst) = false := by rfl) (e' : X.K = K := by rfl) :
    PE X ((o.Attribute name apos).Call (e :: es) [] cpos) (tBM K T r to t) := by
  subst e'
  exact pe_bm hp hs ht hm ho ha h1 h2 h3 h4 h5
theorem rel_ref {a : Addr} : ∀ u, RelV (.ref a) u → u = .ref a := fun u h => by cases h; rfl
theorem rel_ty {t : String} : ∀ u, RelV (.ty t) u → u = .type t := fun u h => by cases h; rfl
theorem isE_ref {K : PySem.W.Frag} {C : Er → Addr} (R : Errs K C) {a : Addr} {e f : Er} {H : Hp} {Q : VK} (q : Q (.bl (e.under f)) H) : rIsE K (C e) a [.ref a, .ref (C f)] H Q :=
  ⟨_, _, _, rfl, fun u h => by cases h; rfl, R.kit e f, q⟩
theorem isE_val {K : PySem.W.Frag} {C : Er → Addr} (R : Errs K C) {a : Addr} {e : Er} {H : Hp} {Q : VK} (q : Q (.bl true) H) : rIsE K (C e) a [.ref a, .ty "ValueError"] H Q :=
  ⟨_, _, _, rfl, fun u h => by cases h; rfl, R.val e, q⟩
end Kt

namespace Kt
open PySem PySem.Spec PyProof.Rows L2 GxR Kr
section
variable {P : Program} {w : World} {K : PySem.W.Frag} {mg : Str → Option Value} {base : Heap}
/-- what may be asked about -/
inductive Thing (H : Hp) : V → Prop where
  | non : Thing H .non
  | bl (b : Bool) : Thing H (.bl b)
  | int (i : Int) : Thing H (.int i)
  | str (z : Str) (h : z.length ≤ 1000000) : Thing H (.str z)
  | lst {a : Addr} {xs : List V} (h : H a = some (.lst xs)) : Thing H (.ref a)
  | tup {a : Addr} {xs : List V} (h : H a = some (.tup xs)) : Thing H (.ref a)
theorem IsVal.thing {H : Hp} {x : V} (h : IsVal x) : Thing H x := by
  rcases h with h | ⟨i, h⟩
  · rw [h]
    exact .non
  · rw [h]
    exact .int i
def strB : V → Bool
  | .str _ => true
  | _ => false
def blB : V → Bool
  | .bl _ => true
  | _ => false
def intB : V → Bool
  | .bl _ => true
  | .int _ => true
  | _ => false
/-- a whole number -/
def wholeB : V → Bool
  | .int _ => true
  | _ => false
theorem ty_of {H : Hp} {x : V} (h : Thing H x) : ∃ t : String, TyX K H x (.type t) ∧ kitB t "str" = some (strB x) ∧ kitB t "bool" = some (blB x) ∧ kitB t "int" = some (intB x) := by
  cases h with
  | non => exact ⟨"NoneType", .base .non, (show kitB "NoneType" "str" = some false by decide +kernel), (show kitB "NoneType" "bool" = some false by decide +kernel), (show kitB "NoneType" "int" = some false by decide +kernel)⟩
  | bl b => exact ⟨"bool", .base (.bl b), (show kitB "bool" "str" = some false by decide +kernel), (show kitB "bool" "bool" = some true by decide +kernel), (show kitB "bool" "int" = some true by decide +kernel)⟩
  | int i => exact ⟨"int", .base (.int i), (show kitB "int" "str" = some false by decide +kernel), (show kitB "int" "bool" = some false by decide +kernel), (show kitB "int" "int" = some true by decide +kernel)⟩
  | str z h => exact ⟨"str", .base (.str z), (show kitB "str" "str" = some true by decide +kernel), (show kitB "str" "bool" = some false by decide +kernel), (show kitB "str" "int" = some false by decide +kernel)⟩
  | lst h => exact ⟨"list", .base (.lst h), (show kitB "list" "str" = some false by decide +kernel), (show kitB "list" "bool" = some false by decide +kernel), (show kitB "list" "int" = some false by decide +kernel)⟩
  | tup h => exact ⟨"tuple", .base (.tup h), (show kitB "tuple" "str" = some false by decide +kernel), (show kitB "tuple" "bool" = some false by decide +kernel), (show kitB "tuple" "int" = some false by decide +kernel)⟩
def sp_law_whole : Sp := fun vs H Q _ => ∃ x : V, vs = [x] ∧ Thing H x ∧ Q (.bl (wholeB x)) H
def mixZ (n : Int) : Int := (n * 48271 + 7919) % 2147483647
theorem mixZ_lo (n : Int) : 0 ≤ mixZ n := Int.emod_nonneg _ (by decide)
theorem mixZ_hi (n : Int) : mixZ n < 2147483647 := Int.emod_lt_of_pos _ (by decide)
def sp_law_mixed : Sp := fun vs H Q _ => ∃ n : Int, vs = [.int n] ∧ Q (.int (mixZ n)) H
def sp_law_name_by : Sp := fun vs H Q _ => ∃ c : Int, vs = [.int c] ∧ ∀ z : Str, Name z → Q (.str z) H
def sp_law_twin : Sp := fun vs H Q _ => ∃ (z : Str) (c : Int), vs = [.str z, .int c] ∧ Name z ∧ ∀ y : Str, Name y → Q (.str y) H
theorem cut_len (z : Str) (lo hi : Option Int) : (cutS z lo hi).length = min (HT.sIx z.length z.length hi - HT.sIx z.length 0 lo) (z.length - HT.sIx z.length 0 lo) := by
  rw [← len_list]
  show ((z.cps.toList.drop (HT.sIx z.length 0 lo)).take (HT.sIx z.length z.length hi - HT.sIx z.length 0 lo)).length = _
  rw [List.length_take, List.length_drop, len_list]
structure Pool (H : Hp) (p : Addr) (ns : List Str) : Prop where
  at' : H p = some (.lst (ns.map V.str))
  lo : 1 ≤ ns.length
  hi : ns.length ≤ 136
  ok : ∀ z ∈ ns, Name z
def sp_law_pool : Sp := fun vs H Q _ => ∃ a b : Int, vs = [.int a, .int b] ∧ ∀ (p : Addr) (ns : List Str) (H' : Hp), Same H H' → H p = none → Pool H' p ns → Q (.ref p) H'
theorem digits_good : ∀ k : Nat, k < 130 → (Str.ofString "n" ++ Str.ofString (toString (k : Int))).cps.toList.all (fun n => decide (n ∈ signsS.cps.toList)) = true ∧ (Str.ofString "n" ++ Str.ofString (toString (k : Int))).length ≤ 12 ∧ 1 ≤ (Str.ofString "n" ++ Str.ofString (toString (k : Int))).length := by
  decide +kernel
theorem digits_name (k : Nat) (h : k < 130) : Name (Str.ofString "n" ++ Str.ofString (toString (k : Int))) := by
  obtain ⟨h1, h2, h3⟩ := digits_good k h
  refine ⟨fun c hc => ?_, h3, h2⟩
  have e := List.all_eq_true.mp h1 c hc
  exact of_decide_eq_true e
/-- n0, n1 .. -/
def numbered (i : Nat) : List Str := (List.range i).map fun k => Str.ofString "n" ++ Str.ofString (toString ((k : Nat) : Int))
theorem numbered_len (i : Nat) : (numbered i).length = i := by
  unfold numbered
  rw [List.length_map, List.length_range]
theorem numbered_succ (i : Nat) : numbered (i + 1) = numbered i ++ [Str.ofString "n" ++ Str.ofString (toString ((i : Nat) : Int))] := by
  unfold numbered
  rw [List.range_succ, List.map_append]
  rfl
theorem cutV_mem {xs : List V} {lo hi : Option Int} {x : V} (h : x ∈ cutV xs lo hi) : x ∈ xs := by
  unfold cutV at h
  exact List.mem_of_mem_drop (List.mem_of_mem_take h)
theorem cut_name {z : Str} (h : Good z) (k : Nat) (h1 : 1 ≤ k) (h2 : k ≤ 12) (h3 : 1 ≤ z.length) : Name (cutS z none (some (k : Int))) := by
  have l : (cutS z none (some (k : Int))).length = min k z.length := by
    rw [cut_len, HT.sIx_none, HT.sIx_nat]
    omega
  exact ⟨good_cut h _ _, by omega, by omega⟩
/-- the value by a cell -/
def valBy (c : Int) : V :=
  if c % 7 = 3 then .non else if c % 7 = 4 then (atI [V.int 0, .int 1, .int (-1), .int (10 ^ 30), .int (-(10 ^ 30))] (c / 7 % 5)).getD .non
    else if c % 7 = 5 then .int (c / 7 % 9) else .int ((c / 7).fmod (2 * 10 ^ 30 + 1) - 10 ^ 30)
theorem five (i : Int) (h0 : 0 ≤ i) (h1 : i < 5) : ∃ v, atI [V.int 0, .int 1, .int (-1), .int (10 ^ 30), .int (-(10 ^ 30))] i = some v ∧ valueV v = true := by
  rcases (by omega : i = 0 ∨ i = 1 ∨ i = 2 ∨ i = 3 ∨ i = 4) with e | e | e | e | e <;> subst e
  · exact ⟨_, atI_nat (j := 0) rfl, by decide⟩
  · exact ⟨_, atI_nat (j := 1) rfl, by decide⟩
  · exact ⟨_, atI_nat (j := 2) rfl, by decide⟩
  · exact ⟨_, atI_nat (j := 3) rfl, by decide⟩
  · exact ⟨_, atI_nat (j := 4) rfl, by decide⟩
theorem valBy_ok (c : Int) : valueV (valBy c) = true := by
  unfold valBy
  by_cases h3 : c % 7 = 3
  · rw [if_pos h3]
    rfl
  rw [if_neg h3]
  by_cases h4 : c % 7 = 4
  · rw [if_pos h4]
    obtain ⟨v, e, hv⟩ := five (c / 7 % 5) (Int.emod_nonneg _ (by decide)) (Int.emod_lt_of_pos _ (by decide))
    rw [e]
    exact hv
  rw [if_neg h4]
  by_cases h5 : c % 7 = 5
  · rw [if_pos h5]
    have e0 : 0 ≤ c / 7 % 9 := Int.emod_nonneg _ (by decide)
    have e1 : c / 7 % 9 < 9 := Int.emod_lt_of_pos _ (by decide)
    show (decide _ && decide _) = true
    rw [decide_eq_true (by omega), decide_eq_true (by omega)]
    rfl
  rw [if_neg h5, Int.fmod_eq_emod_of_nonneg _ (by decide)]
  have e0 : 0 ≤ c / 7 % (2 * 10 ^ 30 + 1) := Int.emod_nonneg _ (by decide)
  have e1 : c / 7 % (2 * 10 ^ 30 + 1) < 2 * 10 ^ 30 + 1 := Int.emod_lt_of_pos _ (by decide)
  show (decide _ && decide _) = true
  rw [decide_eq_true (by omega), decide_eq_true (by omega)]
  rfl
def sp_law_value_by : Sp := fun vs H Q _ => ∃ c : Int, vs = [.int c] ∧ ∀ H' : Hp, Same H H' → Q (valBy c) H'
def sp_law_same : Sp := fun vs H Q _ => ∃ a b : V, vs = [a, b] ∧ IsVal a ∧ IsVal b ∧ Q (.bl (decide (a = b))) H
theorem paired_at {α β : Type} {F : α → β → Prop} : ∀ {xs : List α} {ys : List β} {i : Nat} {x : α}, Paired F xs ys → xs[i]? = some x → ∃ y, ys[i]? = some y ∧ F x y
  | _, _, _, _, .nil, e => by simp at e
  | _, _, 0, _, .cons r _, e => by
    simp at e
    subst e
    exact ⟨_, rfl, r⟩
  | _, _, i + 1, x, .cons _ t, e => by
    obtain ⟨u, h1, h2⟩ := paired_at (i := i) (x := x) t (by simpa using e)
    exact ⟨u, by simpa using h1, h2⟩
theorem take_eq_succ {α : Type} {xs ys : List α} {i : Nat} {x : α} (h : xs.take i = ys.take i) (hx : xs[i]? = some x) (hy : ys[i]? = some x) : xs.take (i + 1) = ys.take (i + 1) := by
  rw [List.take_add_one, List.take_add_one, h, hx, hy]
def sp_law_pairs : Sp := fun vs H Q _ => ∃ (a b : Addr) (ps qs : Prs), vs = [.ref a, .ref b] ∧ PairsAt H a ps ∧ PairsAt H b qs ∧ (∀ x ∈ ps, IsVal x.2) ∧ (∀ x ∈ qs, IsVal x.2) ∧ qs.length ≤ 1000000 ∧ Q (.bl (decide (ps = qs))) H
theorem putAll_snoc (m l : Prs) (q : Str × V) : putAll m (l ++ [q]) = putK (putAll m l) q.1 q.2 := by
  unfold putAll
  rw [List.foldl_append]
  rfl
def sp_law_last : Sp := fun vs H Q _ => ∃ (a : Addr) (ps : Prs), vs = [.ref a] ∧ PairsAt H a ps ∧ ps.length ≤ 1000000 ∧ ∀ (d : Addr) (H' : Hp), Same H H' → H d = none → DictAt H' d (putAll [] ps) → Q (.ref d) H'
def sp_law_told_under : Sp := fun vs H Q _ => ∃ (a b : Addr) (m l : Prs) (hd : Str), vs = [.ref a, .ref b, .str hd] ∧ DictAt H a m ∧ DictAt H b l ∧ hd.length ≤ 1000000 ∧ m.length + l.length ≤ 1000000 ∧
  (∀ x ∈ putAll m l, x.1.length ≤ 1000000) ∧ ∀ (p : Addr) (ps : Prs) (H' : Hp), Same H H' → H p = none → PairsAt (Fresh H H') p ps → IsTold (tells (putAll m l)) hd ps → ps.length ≤ m.length + l.length → Q (.ref p) H'
/-- names and values -/
def Ok (ps : Prs) : Prop := ∀ q ∈ ps, Name q.1 ∧ valueV q.2 = true
theorem ok_nil : Ok [] := fun q h => by cases h
theorem ok_put {m : Prs} {n : Str} {v : V} (h : Ok m) (hn : Name n) (hv : valueV v = true) : Ok (putK m n v) := by
  intro q hq
  unfold putK at hq
  split at hq
  · obtain ⟨x, hx, e⟩ := List.mem_map.mp hq
    by_cases z : x.1 = n
    · rw [if_pos z] at e
      rw [← e]
      exact ⟨(h x hx).1, hv⟩
    · rw [if_neg z] at e
      rw [← e]
      exact h x hx
  · rcases List.mem_append.mp hq with z | z
    · exact h q z
    · rw [List.mem_singleton.mp z]
      exact ⟨hn, hv⟩
theorem ok_putAll : ∀ {l m : Prs}, Ok m → Ok l → Ok (putAll m l)
  | [], _, h, _ => h
  | q :: r, m, h, hl => by
    show Ok (putAll (putK m q.1 q.2) r)
    exact ok_putAll (l := r) (ok_put h (hl q List.mem_cons_self).1 (hl q List.mem_cons_self).2) fun x hx => hl x (List.mem_cons_of_mem _ hx)
theorem putAll_new : ∀ {l m : Prs}, ((m ++ l).map (·.1)).Nodup → putAll m l = m ++ l
  | [], m, _ => (List.append_nil m).symm
  | q :: r, m, h => by
    have hn : valV m q.1 = none := by
      cases e : valV m q.1 with
      | none => rfl
      | some v =>
        rw [List.map_append, List.nodup_append] at h
        exact absurd rfl (h.2.2 q.1 (valV_in e) q.1 List.mem_cons_self)
    show putAll (putK m q.1 q.2) r = m ++ q :: r
    rw [putK_new _ hn, putAll_new (l := r) (by rw [List.append_assoc]; exact h), List.append_assoc]
    rfl
theorem putAll_idem (ps : Prs) : putAll [] (putAll [] ps) = putAll [] ps := putAll_new (l := putAll [] ps) (m := []) (putAll_keys ps List.nodup_nil)
theorem ok_app {a b : Prs} (ha : Ok a) (hb : Ok b) : Ok (a ++ b) := fun q hq => by
  rcases List.mem_append.mp hq with h | h
  · exact ha q h
  · exact hb q h
theorem ok_take {a : Prs} (ha : Ok a) (k : Nat) : Ok (a.take k) := fun q hq => ha q (List.mem_of_mem_take hq)
theorem Ok.len {m : Prs} (h : Ok m) : ∀ x ∈ m, x.1.length ≤ 1000000 := fun x hx => by
  have h1 := (h x hx).1.hi
  omega
theorem val_ok {m : Prs} {n : Str} {v : V} (h : Ok m) (e : valV m n = some v) : valueV v = true := by
  unfold valV at e
  cases hf : m.find? (fun kv => decide (kv.1 = n)) with
  | none =>
    rw [hf] at e
    cases e
  | some q =>
    rw [hf] at e
    cases e
    exact (h q (List.mem_of_find?_eq_some hf)).2
theorem val_name {m : Prs} {n : Str} {v : V} (h : Ok m) (e : valV m n = some v) : Name n := by
  unfold valV at e
  cases hf : m.find? (fun kv => decide (kv.1 = n)) with
  | none =>
    rw [hf] at e
    cases e
  | some q =>
    have h1 := List.find?_some hf
    have h2 : q.1 = n := of_decide_eq_true h1
    rw [← h2]
    exact (h q (List.mem_of_find?_eq_some hf)).1
theorem tells_ok {m : Prs} (h : Ok m) (n : Str) : valueV (tells m n) = true := by
  unfold tells
  cases e : valV m n with
  | none => rfl
  | some v => exact val_ok h e
theorem tells_all (m l : Prs) (n : Str) : tells (putAll m l) n = readV (tells m) l n := by
  unfold tells readV
  rw [putAll_val]
  cases valV (putAll [] l) n with
  | none => rfl
  | some v => rfl
theorem tells_fun (m l : Prs) : tells (putAll m l) = readV (tells m) l := funext (tells_all m l)
theorem told_ok {m : Prs} {hd : Str} {ps : Prs} (h : Ok m) (t : IsTold (tells m) hd ps) : Ok ps := fun q hq => by
  obtain ⟨h1, h2, _⟩ := (t.mem q.1 q.2).mp hq
  unfold tells at h2
  cases e : valV m q.1 with
  | none =>
    rw [e] at h2
    exact absurd h2.symm h1
  | some v =>
    rw [e] at h2
    have h3 : v = q.2 := h2
    exact ⟨val_name h e, by rw [← h3]; exact val_ok h e⟩
theorem head_cut {z : Str} (h : Name z) (k : Int) (hk : 0 ≤ k) : headB (cutS z none (some k)) = true := by
  refine headB_iff.mpr ⟨good_cut h.good _ _, ?_⟩
  have h1 := cutS_length z none (some k)
  have h2 := h.hi
  omega
theorem ints_dp {K : PySem.W.Frag} {H : Hp} : ∀ ns : List Int, DpAll K H (ns.map V.int) (ns.map PyData.int)
  | [] => .nil
  | n :: r => .cons (.int n) (ints_dp r)
theorem ints_lay : ∀ ns : List Int, PyData.canLayAll0 (ns.map PyData.int) = true
  | [] => rfl
  | n :: r => ints_lay r
theorem ints_deep : ∀ ns : List Int, PyData.depthAll (ns.map PyData.int) = 0
  | [] => rfl
  | n :: r => by
    show max (PyData.depth (.int n)) (PyData.depthAll (r.map PyData.int)) = 0
    rw [ints_deep r]
    rfl
theorem ints_shaped (ns : List Int) : SeqAt.shaped (.list (ns.map PyData.int)) = true := by
  unfold SeqAt.shaped
  rw [show PyData.canLay0 (.list (ns.map PyData.int)) = PyData.canLayAll0 (ns.map PyData.int) from rfl, ints_lay,
    show PyData.depth (.list (ns.map PyData.int)) = PyData.depthAll (ns.map PyData.int) + 1 from rfl, ints_deep]
  rfl
theorem ints_eqv : ∀ ns ms : List Int, PyData.eqv (.list (ns.map PyData.int)) (.list (ms.map PyData.int)) = decide (ns = ms)
  | [], [] => rfl
  | [], m :: ms => rfl
  | n :: ns, [] => rfl
  | n :: ns, m :: ms => by
    show ((n == m) && PyData.eqv (.list (ns.map PyData.int)) (.list (ms.map PyData.int))) = _
    rw [ints_eqv ns ms]
    by_cases h : n = m
    · subst h
      rw [beq_self_eq_true, Bool.true_and]
      by_cases h2 : ns = ms
      · rw [decide_eq_true h2, decide_eq_true (by rw [h2])]
      · rw [decide_eq_false h2, decide_eq_false (fun e => h2 (List.cons.inj e).2)]
    · rw [beq_eq_false_iff_ne.mpr h, Bool.false_and, decide_eq_false (fun e => h (List.cons.inj e).1)]
theorem eq_ints {K : PySem.W.Frag} {H : Hp} {a b : Addr} {ns ms : List Int} {Q : VK} (ha : SqL K H a (ns.map V.int)) (hb : SqL K H b (ms.map V.int)) (q : Q (.bl (decide (ns = ms))) H) : rEqD K (.ref a) (.ref b) H Q :=
  ⟨_, _, .lst ha (ints_dp ns), .lst hb (ints_dp ms), ints_shaped ns, ints_shaped ms, by rw [ints_eqv]; exact q⟩
theorem ne_ints {K : PySem.W.Frag} {H : Hp} {a b : Addr} {ns ms : List Int} {Q : VK} (ha : SqL K H a (ns.map V.int)) (hb : SqL K H b (ms.map V.int)) (q : Q (.bl (!decide (ns = ms))) H) : rNeD K (.ref a) (.ref b) H Q :=
  ⟨_, _, .lst ha (ints_dp ns), .lst hb (ints_dp ms), ints_shaped ns, ints_shaped ms, by rw [ints_eqv]; exact q⟩
theorem int_at {ns : List Int} {i : Nat} {v : V} (h : (ns.map V.int)[i]? = some v) : ∃ z, v = V.int z ∧ ns[i]? = some z := by
  rw [List.getElem?_map] at h
  cases e : ns[i]? with
  | none =>
    rw [e] at h
    cases h
  | some z =>
    rw [e] at h
    exact ⟨z, (Option.some.inj h).symm, rfl⟩
theorem inV_ints (z : Int) : ∀ ns : List Int, inV (.int z) (ns.map V.int) = decide (z ∈ ns)
  | [] => rfl
  | n :: r => by
    show (eqV (.int n) (.int z) || inV (.int z) (r.map V.int)) = _
    rw [inV_ints z r, show eqV (.int n) (.int z) = (n == z) from rfl]
    by_cases h : n = z
    · subst h
      rw [beq_self_eq_true, decide_eq_true List.mem_cons_self]
      rfl
    · rw [beq_eq_false_iff_ne.mpr h, Bool.false_or]
      exact decide_eq_decide.mpr ⟨fun m => List.mem_cons_of_mem _ m, fun m => (List.mem_cons.mp m).resolve_left (fun e => h e.symm)⟩
theorem flat_ints : ∀ ns : List Int, (ns.map V.int).all flatV = true
  | [] => rfl
  | n :: r => flat_ints r
theorem cutV_ints (ns : List Int) (lo hi : Option Int) : cutV (ns.map V.int) lo hi = ((ns.drop (HT.sIx ns.length 0 lo)).take (HT.sIx ns.length ns.length hi - HT.sIx ns.length 0 lo)).map V.int := by
  unfold cutV
  rw [List.length_map, List.map_take, List.map_drop]
theorem cutV_to (ns : List Int) (k : Nat) (h : k ≤ ns.length) : cutV (ns.map V.int) none (some (k : Int)) = (ns.take k).map V.int := by
  rw [cutV_ints, HT.sIx_none, HT.sIx_nat, List.drop_zero, Nat.sub_zero, Nat.min_eq_left h]
theorem cutV_from (ns : List Int) (k : Nat) (h : k ≤ ns.length) : cutV (ns.map V.int) (some (k : Int)) none = (ns.drop k).map V.int := by
  rw [cutV_ints, HT.sIx_none, HT.sIx_nat, Nat.min_eq_left h, List.take_of_length_le (by rw [List.length_drop]; omega)]
/-- the place right ahead of the first that must be behind, or the end -/
def placeOf (row behind : List Int) : Nat := row.findIdx (fun x => decide (x ∈ behind))
/-- the place, or None -/
def placeV (row ahead behind : List Int) : V := if (ahead.filter fun x => decide (x ∈ row.drop (placeOf row behind))) = [] then .int (placeOf row behind) else .non
theorem placeOf_le (row behind : List Int) : placeOf row behind ≤ row.length := List.findIdx_le_length
def sp_law_some : Sp := fun vs H Q _ => ∃ (a r : Addr) (ns row : List Int) (k n : Nat), vs = [.ref a, .int (k : Nat), .int (n : Nat), .ref r] ∧ SqL K H a (ns.map V.int) ∧ H r = some (.lst (row.map V.int)) ∧ k ≤ 1000 ∧ n ≤ 1000 ∧
  ∀ (p : Addr) (out : List Int) (H' : Hp), Same H H' → H p = none → H' p = some (.lst (out.map V.int)) → out.length ≤ 1000 → (∀ z ∈ out, z ∈ row) → Q (.ref p) H'
def sp_law_due : Sp := fun vs H Q _ => ∃ (a b c : Addr) (row ahead behind : List Int), vs = [.ref a, .ref b, .ref c] ∧ H a = some (.lst (row.map V.int)) ∧ H b = some (.lst (ahead.map V.int)) ∧ H c = some (.lst (behind.map V.int)) ∧
  row.length ≤ 1000 ∧ ahead.length ≤ 1000 ∧ behind.length ≤ 1000 ∧ ∀ H' : Hp, Same H H' → Q (placeV row ahead behind) H'
theorem filter_ne {behind row : List Int} : (behind.filter fun x => decide (x ∈ row)) = [] ↔ ∀ x ∈ behind, x ∉ row := by
  rw [List.filter_eq_nil_iff]
  constructor
  · intro h x hx hr
    exact h x hx (decide_eq_true hr)
  · intro h x hx hr
    exact h x hx (of_decide_eq_true hr)
theorem comp_in {a b c e : Addr} {pl : Int} {k : Option V} {i : Nat} {H : Hp} {L sub : List Int} {T : TE} {Q : VK} (hi : [some (V.ref a), some (V.ref b), some (V.ref c), some (V.int pl), k][i]? = some (some (V.ref e)))
    (he : H e = some (.lst (L.map V.int))) (hl : L.length ≤ 1000)
    (hT : ∀ (z : Int) (H1 : Hp) (R : VK), Same H H1 → (∀ p H2, Same H1 H2 → SqL K H2 p (sub.map V.int) → R (.ref p) H2) → T [some (V.ref a), some (V.ref b), some (V.ref c), some (V.int pl), some (V.int z)] H1 R)
    (q : ∀ D H', Same H H' → H D = none → H' D = some (.lst ((L.filter fun x => decide (x ∈ sub)).map V.int)) → Q (.ref D) H') :
    tLc (iList K (tVar i)) (gName 4) (tTest (tOp (rIn K false) (tVar 4) T)) (tVar 4) [4] [some (V.ref a), some (V.ref b), some (V.ref c), some (V.int pl), k] H Q := by
  refine ⟨_, hi, e, rfl, ⟨_, SqL.of he⟩, fun D nD => lc_list (K := K) (a := e) (xs := L.map V.int) (fun i H' => Same H H' ∧ H' D = some (.lst (((L.take i).filter fun x => decide (x ∈ sub)).map V.int)))
    ⟨same_new nD, upd_same⟩ (fun i H' _ h => SqL.of (h.1 _ _ he)) ?_ ?_⟩
  · rintro i x H' hx ⟨s1, hD⟩
    obtain ⟨z, rfl, hz⟩ := int_at hx
    have e1 : L.take (i + 1) = L.take i ++ [z] := by rw [List.take_add_one, hz]; rfl
    refine ⟨rfl, _, rfl, ?_⟩
    refine hT z H' _ s1 fun p H2 s2 hp => ⟨p, _, rfl, .inl hp, rfl, flat_ints _, _, rfl, ?_⟩
    have s3 := s1.trans s2
    have hD2 := s2 _ _ hD
    show if inV (.int z) (sub.map V.int) = true then _ else _
    rw [inV_ints]
    by_cases hm : z ∈ sub
    · rw [decide_eq_true hm]
      refine iteT ⟨_, rfl, _, hD2, ?_, ?_, ?_⟩
      · rw [List.length_map]
        have h1 := List.length_filter_le (fun x => decide (x ∈ sub)) (L.take i)
        rw [List.length_take] at h1
        exact Nat.lt_of_le_of_lt (by omega : _ ≤ 1000000) (by decide)
      · intro y o e
        rw [upd_ne (ne_of_none e nD)]
        exact s3 y o e
      · rw [upd_same, e1, List.filter_append, List.map_append, List.filter_cons, decide_eq_true hm]
        rfl
    · rw [decide_eq_false hm]
      refine iteF ⟨s3, ?_⟩
      rw [e1, List.filter_append, List.filter_cons, decide_eq_false hm]
      show _ = some (HO.lst (List.map V.int (_ ++ [])))
      rw [List.append_nil]
      exact hD2
  · rintro H' ⟨s1, hD⟩
    rw [List.length_map, List.take_length] at hD
    exact q D H' s1 nD hD
/-- [..] != [] -/
theorem ne_nil {H : Hp} {D : Addr} {ns : List Int} {Q : VK} (hD : H D = some (.lst (ns.map V.int))) (q : ∀ H', Same H H' → Q (.bl (!decide (ns = []))) H') {σ : L2.St} :
    tLst tNil σ H (fun y H2 => rNeD K (.ref D) y H2 Q) := by
  refine ⟨Nat.zero_le _, fun p np => ?_⟩
  have s := same_new (o := .lst []) np
  exact ne_ints (ms := []) (SqL.of (s _ _ hD)) (SqL.of upd_same) (q _ s)
theorem test_in {a b c e : Addr} {pl : Int} {k : Option V} {i : Nat} {H : Hp} {L sub : List Int} {T : TE} {R : Bool → Hp → Prop} (hi : [some (V.ref a), some (V.ref b), some (V.ref c), some (V.int pl), k][i]? = some (some (V.ref e)))
    (he : H e = some (.lst (L.map V.int))) (hl : L.length ≤ 1000)
    (hT : ∀ (z : Int) (H1 : Hp) (R : VK), Same H H1 → (∀ p H2, Same H1 H2 → SqL K H2 p (sub.map V.int) → R (.ref p) H2) → T [some (V.ref a), some (V.ref b), some (V.ref c), some (V.int pl), some (V.int z)] H1 R)
    (q : ∀ H', Same H H' → R (!decide ((L.filter fun x => decide (x ∈ sub)) = [])) H') :
    tTest (tOp (rNeD K) (tLc (iList K (tVar i)) (gName 4) (tTest (tOp (rIn K false) (tVar 4) T)) (tVar 4) [4]) (tLst tNil)) [some (V.ref a), some (V.ref b), some (V.ref c), some (V.int pl), k] H R := by
  show tLc (iList K (tVar i)) (gName 4) (tTest (tOp (rIn K false) (tVar 4) T)) (tVar 4) [4] [some (V.ref a), some (V.ref b), some (V.ref c), some (V.int pl), k] H
    (fun y H2 => tLst tNil [some (V.ref a), some (V.ref b), some (V.ref c), some (V.int pl), k] H2 fun x H3 => rNeD K y x H3 fun w H4 => ∃ t, w = .bl t ∧ R t H4)
  exact comp_in hi he hl hT fun D H' s nD hD => ne_nil hD fun H2 s2 => ⟨_, rfl, q H2 (s.trans s2)⟩
theorem take_none {row behind : List Int} {k : Nat} (h : k ≤ row.length) : (∀ x ∈ behind, x ∉ row.take k) ↔ k ≤ placeOf row behind := by
  unfold placeOf
  constructor
  · intro hn
    refine Nat.le_of_not_lt fun hlt => ?_
    have hm : row.findIdx (fun x => decide (x ∈ behind)) < row.length := Nat.lt_of_lt_of_le hlt h
    have e := List.findIdx_getElem (w := hm)
    have e2 := of_decide_eq_true e
    refine hn _ e2 ?_
    rw [List.mem_take_iff_getElem]
    exact ⟨_, by omega, rfl⟩
  · intro hk x hx hm
    rw [List.mem_take_iff_getElem] at hm
    obtain ⟨j, hj, e⟩ := hm
    have hj2 : j < row.findIdx (fun x => decide (x ∈ behind)) := by omega
    have e2 := List.not_of_lt_findIdx hj2
    rw [e] at e2
    exact absurd hx (of_decide_eq_false e2)
theorem inv61 : ∀ s : Nat, s < 61 → 1 ≤ s → ∃ t : Nat, t < 61 ∧ s * t % 61 = 1 := by decide +kernel
theorem mul61 {s i j : Nat} (h1 : 1 ≤ s) (h2 : s ≤ 60) (hi : i < 61) (hj : j < 61) (h : i * s % 61 = j * s % 61) : i = j := by
  obtain ⟨t, _, ht⟩ := inv61 s (by omega) h1
  have key : ∀ k : Nat, k < 61 → (k * s % 61) * t % 61 = k := fun k hk => by
    rw [Nat.mod_mul_mod, Nat.mul_assoc, Nat.mul_mod, ht, Nat.mul_one, Nat.mod_mod, Nat.mod_eq_of_lt hk]
  rw [← key i hi, h, key j hj]
theorem findIdx_none {row : List Int} : placeOf row [] = row.length := by
  unfold placeOf
  rw [List.findIdx_eq_length]
  intro x _
  exact decide_eq_false (by simp)
theorem findIdx_all {row : List Int} : placeOf row row = 0 := by
  unfold placeOf
  cases row with
  | nil => rfl
  | cons x r =>
    rw [List.findIdx_cons, decide_eq_true List.mem_cons_self]
    rfl
def sp_place_in0 : Sp := fun vs H Q _ => ∃ (a b c : Addr) (row ahead behind : List Int), vs = [.ref a, .ref b, .ref c] ∧ H a = some (.lst (row.map V.int)) ∧ H b = some (.lst (ahead.map V.int)) ∧ H c = some (.lst (behind.map V.int)) ∧
  row.Nodup ∧ (∀ x ∈ ahead, x ∈ row) ∧ (∀ x ∈ behind, x ∈ row) ∧ row.length ≤ 1000 ∧ ahead.length ≤ 1000 ∧ behind.length ≤ 1000 ∧ ∀ H' : Hp, Same H H' → Q (placeV row ahead behind) H'
theorem placeV_val (row ahead behind : List Int) : placeV row ahead behind = .non ∨ placeV row ahead behind = .int (placeOf row behind : Nat) := by
  unfold placeV
  split
  · exact .inr rfl
  · exact .inl rfl
def sp_law_deed_by : Sp := fun vs H Q _ => ∃ (l p po : Addr) (m ps : Prs) (ns : List Str) (x c : Int), vs = [.ref l, .ref p, .ref po, .int x, .int c] ∧ DictAt H l m ∧ PairsAt H p ps ∧ Pool H po ns ∧ Ok m ∧ Ok ps ∧ 0 ≤ x ∧
  m.length + ps.length ≤ 100000 ∧ ∀ (a : Addr) (d : Deed) (H' : Hp), Same H H' → H a = none → DeedAt (Fresh H H') a d → DeedOk d → Right (tells m) ps d → Fits ps d → Q (.ref a) H'
theorem nodup_len {α : Type} [DecidableEq α] : ∀ {xs ys : List α}, xs.Nodup → (∀ x ∈ xs, x ∈ ys) → xs.length ≤ ys.length
  | [], ys, _, _ => Nat.zero_le _
  | x :: r, ys, h, k => by
    rw [List.nodup_cons] at h
    have hx := k x List.mem_cons_self
    have h1 := nodup_len (xs := r) (ys := ys.erase x) h.2 fun y hy => (List.mem_erase_of_ne (fun e => h.1 (by rw [← e]; exact hy))).mpr (k y (List.mem_cons_of_mem _ hy))
    rw [List.length_erase_of_mem hx] at h1
    have h2 := List.length_pos_of_mem hx
    rw [List.length_cons]
    omega
theorem val_in : ∀ {m : Prs} {n : Str} {v : V}, valV m n = some v → n ∈ m.map (·.1)
  | [], n, v, e => by
    rw [valV_nil] at e
    cases e
  | q :: r, n, v, e => by
    by_cases h : q.1 = n
    · rw [List.map_cons, h]
      exact List.mem_cons_self
    · rw [valV_neg h] at e
      exact List.mem_cons_of_mem _ (val_in e)
theorem IsTold.names {f : Str → V} {hd : Str} {ps : Prs} (t : IsTold f hd ps) : (ps.map (·.1)).Nodup := List.pairwise_map.mpr (List.Pairwise.imp (fun {a b} (h : Lt a.1 b.1) (e : a.1 = b.1) => by rw [e] at h; exact Lt.irrefl _ h) t.up)
theorem told_len {m l ps : Prs} {hd : Str} (t : IsTold (readV (tells m) l) hd ps) : ps.length ≤ m.length + l.length := by
  have h1 : (ps.map (·.1)).length ≤ (m.map (·.1) ++ (putAll [] l).map (·.1)).length := nodup_len t.names fun n hn => by
    obtain ⟨q, hq, rfl⟩ := List.mem_map.mp hn
    obtain ⟨n1, n2, _⟩ := (t.mem q.1 q.2).mp hq
    refine List.mem_append.mpr ?_
    unfold readV at n2
    cases e : valV (putAll [] l) q.1 with
    | some v => exact .inr (val_in e)
    | none =>
      rw [e] at n2
      unfold tells at n2
      cases e2 : valV m q.1 with
      | some v => exact .inl (val_in e2)
      | none =>
        rw [e2] at n2
        exact absurd n2.symm n1
  have h2 := putAll_len l []
  rw [List.length_map, List.length_append, List.length_map, List.length_map] at h1
  have h3 : ([] : Prs).length = 0 := rfl
  omega
/-- a reading, its pairs with whole numbers -/
def IsReading : Deed → Prop
  | .read _ _ => True
  | .under _ ps => ps.length ≤ 100000 ∧ ∀ q ∈ ps, ∃ i, q.2 = .int i
  | _ => False
/-- names and values are such; pairs have whole numbers, and there are not too many -/
structure Fine (d : Deed) : Prop where
  ok : DeedOk d
  u : ∀ h ps, d = .under h ps → ps.length ≤ 100000 ∧ ∀ q ∈ ps, ∃ i, q.2 = .int i
theorem fine_of {m l : Prs} {d : Deed} (ok : DeedOk d) (r : Right (tells m) l d) (h : m.length + l.length ≤ 100000) : Fine d := ⟨ok, fun hd ps e => by
  subst e
  have r2 : IsTold (readV (tells m) l) hd ps := r
  refine ⟨Nat.le_trans (told_len r2) h, fun q hq => ?_⟩
  have h1 := isVal_of (ok.2 q hq).2
  rcases h1 with h1 | h1
  · exact absurd h1 ((r2.mem q.1 q.2).mp hq).1
  · exact h1⟩
theorem endP_snoc (puts : Prs) (ds : List Deed) (d : Deed) : endP puts (ds ++ [d]) = nextP (endP puts ds) d := by
  unfold endP
  rw [List.foldl_append]
  rfl
theorem rowRight_snoc (left : Str → V) : ∀ (ds : List Deed) (puts : Prs) (d : Deed), RowRight left puts (ds ++ [d]) ↔ RowRight left puts ds ∧ Right left (endP puts ds) d
  | [], puts, d => ⟨fun h => ⟨trivial, h.1⟩, fun h => ⟨h.2, trivial⟩⟩
  | x :: r, puts, d => by
    show Right left puts x ∧ RowRight left (nextP puts x) (r ++ [d]) ↔ (Right left puts x ∧ RowRight left (nextP puts x) r) ∧ Right left (endP (nextP puts x) r) d
    rw [rowRight_snoc left r (nextP puts x) d, and_assoc]
theorem rowFits_snoc : ∀ (ds : List Deed) (puts : Prs) (d : Deed), RowFits puts (ds ++ [d]) ↔ RowFits puts ds ∧ Fits (endP puts ds) d
  | [], puts, d => ⟨fun h => ⟨trivial, h.1⟩, fun h => ⟨h.2, trivial⟩⟩
  | x :: r, puts, d => by
    show Fits puts x ∧ RowFits (nextP puts x) (r ++ [d]) ↔ (Fits puts x ∧ RowFits (nextP puts x) r) ∧ Fits (endP (nextP puts x) r) d
    rw [rowFits_snoc r (nextP puts x) d, and_assoc]
theorem rowsLeft_snoc : ∀ (rows : List (List Deed)) (left : Str → V) (ds : List Deed), rowsLeft left (rows ++ [ds]) = readV (rowsLeft left rows) (endP [] ds)
  | [], left, ds => rfl
  | x :: r, left, ds => rowsLeft_snoc r (readV left (endP [] x)) ds
theorem rowsRight_snoc : ∀ (rows : List (List Deed)) (left : Str → V) (ds : List Deed), RowsRight left (rows ++ [ds]) ↔ RowsRight left rows ∧ RowRight (rowsLeft left rows) [] ds
  | [], left, ds => ⟨fun h => ⟨trivial, h.1⟩, fun h => ⟨h.2, trivial⟩⟩
  | x :: r, left, ds => by
    show RowRight left [] x ∧ RowsRight (readV left (endP [] x)) (r ++ [ds]) ↔ (RowRight left [] x ∧ RowsRight (readV left (endP [] x)) r) ∧ RowRight (rowsLeft (readV left (endP [] x)) r) [] ds
    rw [rowsRight_snoc r (readV left (endP [] x)) ds, and_assoc]
theorem rowsFit_snoc : ∀ (rows : List (List Deed)) (ds : List Deed), RowsFit (rows ++ [ds]) ↔ RowsFit rows ∧ RowFits [] ds
  | [], ds => ⟨fun h => ⟨trivial, h.1⟩, fun h => ⟨h.2, trivial⟩⟩
  | x :: r, ds => by
    show RowFits [] x ∧ RowsFit (r ++ [ds]) ↔ (RowFits [] x ∧ RowsFit r) ∧ RowFits [] ds
    rw [rowsFit_snoc r ds, and_assoc]
theorem ok_next {puts : Prs} {d : Deed} (h : Ok puts) (hd : DeedOk d) : Ok (nextP puts d) := by
  cases d with
  | read n v => exact h
  | under z ps => exact h
  | write n v =>
    refine ok_app h fun q hq => ?_
    rw [List.mem_singleton.mp hq]
    exact hd
  | back m => exact ok_take h m
theorem len_next (puts : Prs) (d : Deed) : (nextP puts d).length ≤ puts.length + 1 := by
  cases d with
  | read n v => exact Nat.le_succ _
  | under z ps => exact Nat.le_succ _
  | write n v =>
    show (puts ++ [(n, v)]).length ≤ _
    rw [List.length_append]
    exact Nat.le_refl _
  | back m =>
    show (puts.take m).length ≤ _
    rw [List.length_take]
    omega
def RowIn (G H : Hp) (a : Addr) (ds : List Deed) : Prop := ∃ es : List Addr, H a = some (.lst (es.map V.ref)) ∧ Paired (DeedAt G) es ds
theorem RowIn.mono {G G' H H' : Hp} {a : Addr} {ds : List Deed} (h : RowIn G H a ds) (s : Same G G') (k : ∀ o, H a = some o → H' a = some o) : RowIn G' H' a ds := by
  obtain ⟨es, h1, h2⟩ := h
  exact ⟨es, k _ h1, Paired.mono (fun _ _ e => e.mono s) h2⟩
theorem paired_app {α β : Type} {F : α → β → Prop} : ∀ {xs xs' : List α} {ys ys' : List β}, Paired F xs ys → Paired F xs' ys' → Paired F (xs ++ xs') (ys ++ ys')
  | _, _, _, _, .nil, h => h
  | _, _, _, _, .cons a t, h => .cons a (paired_app t h)
theorem paired_split {α β : Type} {F : α → β → Prop} : ∀ {xs : List α} {ys : List β} {z : β}, Paired F xs (ys ++ [z]) → ∃ as a, xs = as ++ [a] ∧ Paired F as ys ∧ F a z
  | _, [], z, .cons h .nil => ⟨[], _, rfl, .nil, h⟩
  | _, y :: ys, z, .cons h t => by
    obtain ⟨as, a, e, h1, h2⟩ := paired_split (ys := ys) t
    exact ⟨_ :: as, a, by rw [e]; rfl, .cons h h1, h2⟩
theorem paired_mem2 {α β : Type} {F G : α → β → Prop} : ∀ {xs : List α} {ys : List β}, Paired F xs ys → (∀ x y, x ∈ xs → y ∈ ys → F x y → G x y) → Paired G xs ys
  | _, _, .nil, _ => .nil
  | _, _, .cons h t, k => .cons (k _ _ List.mem_cons_self List.mem_cons_self h) (paired_mem2 t fun x y hx hy => k x y (List.mem_cons_of_mem _ hx) (List.mem_cons_of_mem _ hy))
theorem paired_take {α β : Type} {F : α → β → Prop} : ∀ {xs : List α} {ys : List β}, Paired F xs ys → ∀ k : Nat, Paired F (xs.take k) (ys.take k)
  | _, _, .nil, k => by
    rw [List.take_nil, List.take_nil]
    exact .nil
  | _, _, .cons h t, 0 => .nil
  | _, _, .cons h t, k + 1 => .cons h (paired_take t k)
theorem cutF_upd {M : Addr → Prop} {H H1 : Hp} {p : Addr} {o : HO} (h : M p) : Same (Cut M (Fresh H H1)) (Cut M (Fresh H (upd H1 p o))) := fun b u e => by
  obtain ⟨h1, h2⟩ := cut_iff.mp e
  obtain ⟨h3, h4⟩ := fresh_iff.mp h2
  exact cut_iff.mpr ⟨h1, fresh_iff.mpr ⟨h3, by rw [upd_ne (fun z => h1 (by rw [z]; exact h))]; exact h4⟩⟩
theorem cutF_same {M : Addr → Prop} {H H1 H2 : Hp} (s : Same H1 H2) : Same (Cut M (Fresh H H1)) (Cut M (Fresh H H2)) := cut_same (fresh_on s)
theorem cutF_new {M : Addr → Prop} {H H1 H2 : Hp} (s : Same H H1) (hM : ∀ b, M b → ∃ o, H1 b = some o) : Same (Fresh H1 H2) (Cut M (Fresh H H2)) := fun b o h => by
  obtain ⟨h1, h2⟩ := fresh_iff.mp h
  refine cut_iff.mpr ⟨fun z => ?_, fresh_iff.mpr ⟨s.free h1, h2⟩⟩
  obtain ⟨u, e⟩ := hM b z
  rw [h1] at e
  cases e
theorem cutF_grow {M M' : Addr → Prop} {H H1 H2 : Hp} (s : Same H1 H2) (g : ∀ b, M' b → M b ∨ H1 b = none) : Same (Cut M (Fresh H H1)) (Cut M' (Fresh H H2)) := fun b o h => by
  obtain ⟨h1, h2⟩ := cut_iff.mp h
  obtain ⟨h3, h4⟩ := fresh_iff.mp h2
  refine cut_iff.mpr ⟨fun z => ?_, fresh_iff.mpr ⟨h3, s _ _ h4⟩⟩
  rcases g b z with q | q
  · exact h1 q
  · rw [q] at h4
    cases h4
def Mu (R L p : Addr) (as : List Addr) (b : Addr) : Prop := b = R ∨ b = L ∨ b = p ∨ b ∈ as
/-- the rows at R, the last one cur under way; what is left at L, the writes at p -/
structure RB (H H' : Hp) (R L p : Addr) (as : List Addr) (rows : List (List Deed)) (m ps : Prs) : Prop where
  same : Same H H'
  nR : H R = none
  nL : H L = none
  np : H p = none
  na : ∀ a ∈ as, H a = none
  nd : as.Nodup
  dR : R ∉ as
  dp : p ∉ as
  dRp : R ≠ p
  hR : H' R = some (.lst (as.map V.ref))
  hL : H' L = some (.dK (dk m))
  ndm : (m.map (·.1)).Nodup
  row : Paired (RowIn (Cut (Mu R L p as) (Fresh H H')) H') as rows
  hp : ∃ qs : List Addr, H' p = some (.lst (qs.map V.ref)) ∧ Paired (fun (a : Addr) (q : Str × V) => Cut (Mu R L p as) (Fresh H H') a = some (.tup [.str q.1, q.2])) qs ps
  okm : Ok m
  okp : Ok ps
theorem RB.there (b : RB H H1 R L p as rows m ps) : ∀ c, Mu R L p as c → ∃ o, H1 c = some o := by
  rintro c (h | h | h | h)
  · exact ⟨_, by rw [h]; exact b.hR⟩
  · exact ⟨_, by rw [h]; exact b.hL⟩
  · obtain ⟨qs, h1, _⟩ := b.hp
    exact ⟨_, by rw [h]; exact h1⟩
  · obtain ⟨i, hi, e⟩ := List.getElem_of_mem h
    obtain ⟨ds, _, es, h1, _⟩ := paired_at b.row (List.getElem?_eq_getElem hi)
    exact ⟨_, by rw [← e]; exact h1⟩
theorem RB.dL (b : RB H H1 R L p as rows m ps) : L ≠ R ∧ L ≠ p ∧ L ∉ as := by
  refine ⟨fun e => ?_, fun e => ?_, fun h => ?_⟩
  · have h1 := b.hL
    rw [e, b.hR] at h1
    cases h1
  · obtain ⟨qs, h2, _⟩ := b.hp
    have h1 := b.hL
    rw [e, h2] at h1
    cases h1
  · obtain ⟨i, hi, e⟩ := List.getElem_of_mem h
    obtain ⟨ds, _, es, h2, _⟩ := paired_at b.row (List.getElem?_eq_getElem hi)
    have h1 := b.hL
    rw [← e, h2] at h1
    cases h1
/-- new things are laid -/
theorem RB.on (b : RB H H1 R L p as rows m ps) (s : Same H1 H2) : RB H H2 R L p as rows m ps := by
  have g := cutF_same (M := Mu R L p as) (H := H) s
  obtain ⟨qs, h1, h2⟩ := b.hp
  exact { b with same := b.same.trans s, hR := s _ _ b.hR, hL := s _ _ b.hL, row := Paired.mono (fun a ds e => e.mono g fun o q => s _ _ q) b.row, hp := ⟨qs, s _ _ h1, Paired.mono (fun a q e => g _ _ e) h2⟩ }
/-- the last row grows -/
theorem RB.add {done : List (List Deed)} {cur : List Deed} {a : Addr} {d : Deed} (b : RB H H1 R L p as (done ++ [cur]) m ps) (ha : DeedAt (Cut (Mu R L p as) (Fresh H H1)) a d) :
    ∃ (as' : List Addr) (r : Addr) (xs : List V), as = as' ++ [r] ∧ H1 r = some (.lst xs) ∧ xs.length = cur.length ∧ RB H (upd H1 r (.lst (xs ++ [.ref a]))) R L p as (done ++ [cur ++ [d]]) m ps := by
  obtain ⟨as', r, e, hd, es, hr, he⟩ := paired_split b.row
  have mr : Mu R L p as r := .inr (.inr (.inr (by rw [e]; simp)))
  have ra : r ∈ as := by rw [e]; simp
  have g := cutF_upd (M := Mu R L p as) (H := H) (H1 := H1) (o := .lst (es.map V.ref ++ [.ref a])) mr
  obtain ⟨qs, h1, h2⟩ := b.hp
  have nR : R ≠ r := fun z => b.dR (by rw [z]; exact ra)
  have np : p ≠ r := fun z => b.dp (by rw [z]; exact ra)
  have nL : L ≠ r := fun z => b.dL.2.2 (by rw [z]; exact ra)
  have nas : r ∉ as' := fun z => by
    have h3 := b.nd
    rw [e, List.nodup_append] at h3
    exact h3.2.2 r z r List.mem_cons_self rfl
  refine ⟨as', r, es.map V.ref, e, hr, by rw [List.length_map, he.length], ?_⟩
  refine { b with same := fun c o q => ?_, hR := by rw [upd_ne nR]; exact b.hR, hL := by rw [upd_ne nL]; exact b.hL, row := ?_, hp := ⟨qs, by rw [upd_ne np]; exact h1, Paired.mono (fun a q e => g _ _ e) h2⟩ }
  · rw [upd_ne (ne_of_none q (b.na r ra))]
    exact b.same _ _ q
  · have k1 : Paired (RowIn (Cut (Mu R L p as) (Fresh H (upd H1 r (.lst (es.map V.ref ++ [.ref a]))))) (upd H1 r (.lst (es.map V.ref ++ [.ref a])))) as' done :=
      paired_mem2 hd fun x ds hx _ q => q.mono g fun o z => by rw [upd_ne (fun y => nas (by rw [← y]; exact hx))]; exact z
    have k2 : RowIn (Cut (Mu R L p as) (Fresh H (upd H1 r (.lst (es.map V.ref ++ [.ref a]))))) (upd H1 r (.lst (es.map V.ref ++ [.ref a]))) r (cur ++ [d]) :=
      ⟨es ++ [a], by rw [upd_same, List.map_append]; rfl, paired_app (Paired.mono (fun _ _ z => z.mono g) he) (.cons (ha.mono g) .nil)⟩
    have k3 := paired_app k1 (.cons k2 .nil)
    rw [← e] at k3
    exact k3
/-- a write is noted: the tuple at t is new -/
theorem RB.put {t : Addr} {n : Str} {v : V} (b : RB H H1 R L p as rows m ps) (nt : H1 t = none) (hn : Name n) (hv : valueV v = true) :
    ∃ xs : List V, H1 p = some (.lst xs) ∧ xs.length = ps.length ∧ RB H (upd (upd H1 t (.tup [.str n, v])) p (.lst (xs ++ [.ref t]))) R L p as rows m (ps ++ [(n, v)]) := by
  have s := same_new (o := .tup [.str n, v]) nt
  have b1 := b.on s
  have mp : Mu R L p as p := .inr (.inr (.inl rfl))
  obtain ⟨qs, h1, h2⟩ := b1.hp
  have h0 : H1 p = some (.lst (qs.map V.ref)) := by
    obtain ⟨qs0, h3, _⟩ := b.hp
    have h4 := s _ _ h3
    rw [h1] at h4
    rw [h3, ← h4]
  have g := cutF_upd (M := Mu R L p as) (H := H) (H1 := upd H1 t (.tup [.str n, v])) (o := .lst (qs.map V.ref ++ [.ref t])) mp
  have nL := b.dL
  refine ⟨qs.map V.ref, h0, by rw [List.length_map, h2.length], ?_⟩
  refine { b1 with same := fun c o q => ?_, hR := by rw [upd_ne b.dRp]; exact b1.hR, hL := by rw [upd_ne nL.2.1]; exact b1.hL, row := ?_, hp := ⟨qs ++ [t], by rw [upd_same, List.map_append]; rfl, ?_⟩, okp := ok_app b.okp fun q hq => by rw [List.mem_singleton.mp hq]; exact ⟨hn, hv⟩ }
  · rw [upd_ne (ne_of_none q b.np)]
    exact b1.same _ _ q
  · exact paired_mem2 b1.row fun x ds hx _ q => q.mono g fun o z => by rw [upd_ne (fun y => b.dp (by rw [← y]; exact hx))]; exact z
  · refine paired_app (Paired.mono (fun a q e => g _ _ e) h2) (.cons ?_ .nil)
    refine g _ _ (cut_iff.mpr ⟨fun z => ?_, fresh_at (b.same.free nt)⟩)
    obtain ⟨o, ho⟩ := b.there t z
    rw [nt] at ho
    cases ho
/-- the writes are another list from here on -/
theorem RB.turn {p2 : Addr} {qs : List Addr} {ps2 : Prs} (b : RB H H1 R L p as rows m ps) (n2 : H1 p2 = none) (hq : Paired (fun (a : Addr) (q : Str × V) => Cut (Mu R L p as) (Fresh H H1) a = some (.tup [.str q.1, q.2])) qs ps2) (ok2 : Ok ps2) :
    RB H (upd H1 p2 (.lst (qs.map V.ref))) R L p2 as rows m ps2 := by
  have s := same_new (o := .lst (qs.map V.ref)) n2
  have b1 := b.on s
  have g : Same (Cut (Mu R L p as) (Fresh H H1)) (Cut (Mu R L p2 as) (Fresh H (upd H1 p2 (.lst (qs.map V.ref))))) := cutF_grow s (by
    rintro c (h | h | h | h)
    · exact .inl (.inl h)
    · exact .inl (.inr (.inl h))
    · exact .inr (by rw [h]; exact n2)
    · exact .inl (.inr (.inr (.inr h))))
  refine { b1 with np := b.same.free n2, dp := fun h => ?_, dRp := ne_of_none b.hR n2, row := paired_mem2 b.row fun x ds hx _ q => q.mono g fun o z => s _ _ z, hp := ⟨qs, upd_same, Paired.mono (fun a q e => g _ _ e) hq⟩, okp := ok2 }
  obtain ⟨o, ho⟩ := b.there p2 (.inr (.inr (.inr h)))
  rw [n2] at ho
  cases ho
/-- a new row -/
theorem RB.fresh {r : Addr} (b : RB H H1 R L p as rows m ps) (nr : H1 r = none) : RB H (upd (upd H1 r (.lst [])) R (.lst (as.map V.ref ++ [.ref r]))) R L p (as ++ [r]) (rows ++ [[]]) m ps := by
  have s := same_new (o := .lst []) nr
  have b1 := b.on s
  have hne : ∀ c, Mu R L p as c → c ≠ r := fun c hc z => by
    obtain ⟨o, ho⟩ := b.there c hc
    rw [z, nr] at ho
    cases ho
  have g1 : Same (Cut (Mu R L p as) (Fresh H H1)) (Cut (Mu R L p (as ++ [r])) (Fresh H (upd H1 r (.lst [])))) := cutF_grow s (by
    rintro c (h | h | h | h)
    · exact .inl (.inl h)
    · exact .inl (.inr (.inl h))
    · exact .inl (.inr (.inr (.inl h)))
    · rcases List.mem_append.mp h with h | h
      · exact .inl (.inr (.inr (.inr h)))
      · exact .inr (by rw [List.mem_singleton.mp h]; exact nr))
  have g := fun (c : Addr) (o : HO) e => cutF_upd (M := Mu R L p (as ++ [r])) (H := H) (H1 := upd H1 r (.lst [])) (o := .lst (as.map V.ref ++ [.ref r])) (.inl rfl) c o (g1 c o e)
  obtain ⟨qs, h1, h2⟩ := b.hp
  have nRr := hne R (.inl rfl)
  have npr := hne p (.inr (.inr (.inl rfl)))
  have nLr := hne L (.inr (.inl rfl))
  refine { b1 with same := fun c o q => ?_, na := ?_, nd := ?_, dR := ?_, dp := ?_, hR := by rw [upd_same, List.map_append]; rfl, hL := by rw [upd_ne b.dL.1]; exact b1.hL, row := ?_, hp := ⟨qs, by rw [upd_ne b.dRp.symm, upd_ne npr]; exact h1, Paired.mono (fun a q e => g _ _ e) h2⟩ }
  · rw [upd_ne (ne_of_none q b.nR)]
    exact b1.same _ _ q
  · intro c hc
    rcases List.mem_append.mp hc with h | h
    · exact b.na c h
    · rw [List.mem_singleton.mp h]
      exact b.same.free nr
  · rw [List.nodup_append]
    refine ⟨b.nd, List.nodup_cons.mpr ⟨by simp, List.nodup_nil⟩, fun x hx y hy => ?_⟩
    rw [List.mem_singleton.mp hy]
    exact hne x (.inr (.inr (.inr hx)))
  · intro h
    rcases List.mem_append.mp h with h | h
    · exact b.dR h
    · exact nRr (List.mem_singleton.mp h)
  · intro h
    rcases List.mem_append.mp h with h | h
    · exact b.dp h
    · exact npr (List.mem_singleton.mp h)
  · refine paired_app (paired_mem2 b.row fun x ds hx _ q => q.mono g fun o z => ?_) (.cons ⟨[], by rw [upd_ne nRr.symm, upd_same]; rfl, .nil⟩ .nil)
    rw [upd_ne (fun y => b.dR (by rw [← y]; exact hx)), upd_ne (hne x (.inr (.inr (.inr hx))))]
    exact z
/-- the dealing's writes are left -/
theorem RB.leave {l : Prs} (b : RB H H1 R L p as rows m ps) (ok : Ok l) : RB H (upd H1 L (.dK (mergeK (dk m) (dk l)))) R L p as rows (putAll m l) ps := by
  have mL : Mu R L p as L := .inr (.inl rfl)
  have g := cutF_upd (M := Mu R L p as) (H := H) (H1 := H1) (o := .dK (mergeK (dk m) (dk l))) mL
  obtain ⟨qs, h1, h2⟩ := b.hp
  have d := b.dL
  refine { b with same := fun c o q => ?_, hR := by rw [upd_ne d.1.symm]; exact b.hR, hL := by rw [upd_same, dk_merge], ndm := putAll_keys l b.ndm, row := ?_, hp := ⟨qs, by rw [upd_ne d.2.1.symm]; exact h1, Paired.mono (fun a q e => g _ _ e) h2⟩, okm := ok_putAll b.okm ok }
  · rw [upd_ne (ne_of_none q b.nL)]
    exact b.same _ _ q
  · exact paired_mem2 b.row fun x ds hx _ q => q.mono g fun o z => by rw [upd_ne (fun y => d.2.2 (by rw [← y]; exact hx))]; exact z
/-- the made rows: what is said of them -/
structure Made (rows : List (List Deed)) (m : Prs) : Prop where
  ok : ∀ ds ∈ rows, ∀ d ∈ ds, Fine d
  ne : rows ≠ []
  fit : RowsFit rows
  right : RowsRight noLeft rows
  left : rowsLeft noLeft rows = tells m
  lr : rows.length ≤ 1000
  ld : ∀ ds ∈ rows, ds.length ≤ 1000
  lm : m.length ≤ 100000
def sp_law_rows_by (K : PySem.W.Frag) : Sp := fun vs H Q _ => ∃ (c po : Addr) (ns : List Int) (zs : List Str), vs = [.ref c, .ref po] ∧ SqL K H c (ns.map V.int) ∧ Pool H po zs ∧ ns.length ≤ 100 ∧
  ∀ (t R L p : Addr) (as : List Addr) (rows : List (List Deed)) (m ps : Prs) (H' : Hp), RB H H' R L p as rows m ps → H t = none → H' t = some (.tup [.ref R, .ref L]) → Made rows m → Q (.ref t) H'
/-- a reading of the same name or head -/
def SameKind : Deed → Deed → Prop
  | .read n _, .read m _ => n = m
  | .under h _, .under g _ => h = g
  | _, _ => False
def Prd (G : Hp) : List Addr → Prs → Prop := Paired fun (a : Addr) (q : Str × V) => G a = some (.tup [.str q.1, q.2])
theorem Prd.mono {G G' : Hp} {as : List Addr} {ps : Prs} (h : Prd G as ps) (s : Same G G') : Prd G' as ps := Paired.mono (fun a q e => s _ _ e) h
theorem Prd.app {G : Hp} {as bs : List Addr} {ps qs : Prs} (a : Prd G as ps) (b : Prd G bs qs) : Prd G (as ++ bs) (ps ++ qs) := paired_app a b
theorem paired_drop {α β : Type} {F : α → β → Prop} : ∀ {xs : List α} {ys : List β}, Paired F xs ys → ∀ k : Nat, Paired F (xs.drop k) (ys.drop k)
  | _, _, .nil, k => by
    rw [List.drop_nil, List.drop_nil]
    exact .nil
  | _, _, .cons h t, 0 => .cons h t
  | _, _, .cons h t, k + 1 => paired_drop t k
theorem paired_rev {α β : Type} {F : α → β → Prop} : ∀ {xs : List α} {ys : List β}, Paired F xs ys → Paired F xs.reverse ys.reverse
  | _, _, .nil => .nil
  | _, _, .cons h t => by
    rw [List.reverse_cons, List.reverse_cons]
    exact paired_app (paired_rev t) (.cons h .nil)
theorem cutR_to (as : List Addr) (k : Nat) (h : k ≤ as.length) : cutV (as.map V.ref) none (some (k : Int)) = (as.take k).map V.ref := by
  unfold cutV
  rw [HT.sIx_none, HT.sIx_nat, List.drop_zero, Nat.sub_zero, List.length_map, Nat.min_eq_left h, List.map_take]
theorem cutR_from (as : List Addr) (k : Nat) (h : k ≤ as.length) : cutV (as.map V.ref) (some (k : Int)) none = (as.drop k).map V.ref := by
  unfold cutV
  rw [HT.sIx_none, HT.sIx_nat, List.length_map, Nat.min_eq_left h, List.take_of_length_le (by rw [List.length_drop, List.length_map]; omega), List.map_drop]
theorem ok_drop {a : Prs} (ha : Ok a) (k : Nat) : Ok (a.drop k) := fun q hq => ha q (List.mem_of_mem_drop hq)
theorem psD_nil (ps : Prs) : PyData.eqv (psD ps) (.list []) = decide (ps = []) := by
  cases ps with
  | nil => rfl
  | cons q r => rfl
theorem zz_name : Name (Str.ofString "zz") := ⟨fun c hc => by
  have e : c = 122 := by simpa using (show c ∈ [122, 122] from hc)
  rw [e]
  decide +kernel, by decide, by decide⟩
theorem q_name {z : Str} (h : Name z) : Name (cutS (Str.ofString "q" ++ z) none (some 12)) := by
  have hq : Good (Str.ofString "q") := fun c hc => by
    have e : c = 113 := by simpa using (show c ∈ [113] from hc)
    rw [e]
    decide +kernel
  exact cut_name (good_app hq h.good) 12 (by omega) (by omega) (by rw [len_app]; have := h.lo; omega)
def sp_law_spoiled : Sp := fun vs H Q _ => ∃ (M : Addr → Prop) (a : Addr) (d : Deed) (x : Int), vs = [.ref a, .int x] ∧ (∀ b, M b → ∃ o, H b = some o) ∧ DeedAt (Cut M H) a d ∧ DeedOk d ∧ IsReading d ∧
  ∀ (t : Addr) (d' : Deed) (H' : Hp), Same H H' → H t = none → DeedAt (Cut M H') t d' → DeedOk d' → SameKind d d' → Q (.ref t) H'
theorem new_cut {M : Addr → Prop} {H H' : Hp} {c : Addr} {o : HO} (hM : ∀ b, M b → ∃ o, H b = some o) (n : H c = none) (h : H' c = some o) : Cut M H' c = some o := by
  refine cut_iff.mpr ⟨fun z => ?_, h⟩
  obtain ⟨u, e⟩ := hM _ z
  rw [n] at e
  cases e
theorem str_dec {x y : Str} (h : decide (x = y) = false) : decide (V.str x = V.str y) = false := decide_eq_false fun e => by
  rw [V.str.inj e, decide_eq_true rfl] at h
  cases h
theorem sqT_mono {K : PySem.W.Frag} {H H' : Hp} (s : Same H H') {a : Addr} {xs : List V} (h : SqT K H a xs) : SqT K H' a xs := by
  rcases h with h | h
  · refine .inl ?_
    rcases h with h | ⟨o, h⟩
    · exact .inl (s _ _ h)
    · exact .inr ⟨o, s _ _ h⟩
  · exact .inr h
mutual
theorem dp_mono {K : PySem.W.Frag} {H H' : Hp} (s : Same H H') : ∀ {v : V} {d : PyData}, Dp K H v d → Dp K H' v d
  | _, _, .non => .non
  | _, _, .bl b => .bl b
  | _, _, .int i => .int i
  | _, _, .str x => .str x
  | _, _, .lst h t => .lst (s.seq h) (dpAll_mono s t)
  | _, _, .tup h t => .tup (sqT_mono s h) (dpAll_mono s t)
theorem dpAll_mono {K : PySem.W.Frag} {H H' : Hp} (s : Same H H') : ∀ {vs : List V} {ds : List PyData}, DpAll K H vs ds → DpAll K H' vs ds
  | _, _, .nil => .nil
  | _, _, .cons h t => .cons (dp_mono s h) (dpAll_mono s t)
end
def sp_law_copied : Sp := fun vs H Q _ => ∃ (M : Addr → Prop) (a : Addr) (d : Deed), vs = [.ref a] ∧ (∀ b, M b → ∃ o, H b = some o) ∧ DeedAt (Cut M H) a d ∧
  ∀ (t : Addr) (H' : Hp), Same H H' → DeedAt (Cut M H') t d → Q (.ref t) H'
/-- a row's deeds as data -/
def dsD (ds : List Deed) : PyData := .list (ds.map fun d => .list (dD d))
def rsD (rs : List (List Deed)) : PyData := .list (rs.map dsD)
theorem dsD_sd {ds : List Deed} (ok : ∀ d ∈ ds, DeedOk d) : Sd (dsD ds) 4 := sd_list fun x hx => by
  obtain ⟨d, hd, e⟩ := List.mem_map.mp hx
  rw [← e]
  exact sd_list (dD_sd (ok d hd))
theorem rsD_sd {rs : List (List Deed)} (ok : ∀ ds ∈ rs, ∀ d ∈ ds, DeedOk d) : Sd (rsD rs) 5 := sd_list fun x hx => by
  obtain ⟨d, hd, e⟩ := List.mem_map.mp hx
  rw [← e]
  exact dsD_sd (ok d hd)
theorem dsD_plain {ds : List Deed} (ok : ∀ d ∈ ds, DeedOk d) : plain (dsD ds) = true := plainAll_of fun x hx => by
  obtain ⟨d, hd, e⟩ := List.mem_map.mp hx
  rw [← e]
  exact dD_plain (ok d hd)
theorem rsD_plain {rs : List (List Deed)} (ok : ∀ ds ∈ rs, ∀ d ∈ ds, DeedOk d) : plain (rsD rs) = true := plainAll_of fun x hx => by
  obtain ⟨d, hd, e⟩ := List.mem_map.mp hx
  rw [← e]
  exact dsD_plain (ok d hd)
/-- the deeds of a row, listed -/
def ListsAt (K : PySem.W.Frag) (H : Hp) (a : Addr) (ds : List Deed) : Prop := ∃ es : List Addr, H a = some (.lst (es.map V.ref)) ∧ Paired (fun (e : Addr) (d : Deed) => ∃ xs, H e = some (.lst xs) ∧ DpAll K H xs (dD d)) es ds
theorem ListsAt.mono {K : PySem.W.Frag} {H H' : Hp} {a : Addr} {ds : List Deed} (h : ListsAt K H a ds) (s : Same H H') : ListsAt K H' a ds := by
  obtain ⟨es, h1, h2⟩ := h
  exact ⟨es, s _ _ h1, Paired.mono (fun e d ⟨xs, k1, k2⟩ => ⟨xs, s _ _ k1, dpAll_mono s k2⟩) h2⟩
theorem ListsAt.dp {K : PySem.W.Frag} {H : Hp} {a : Addr} {ds : List Deed} (h : ListsAt K H a ds) : Dp K H (.ref a) (dsD ds) := by
  obtain ⟨es, h1, h2⟩ := h
  exact .lst (SqL.of h1) (dp_paired (Paired.mono (fun e d ⟨xs, k1, k2⟩ => .lst (SqL.of k1) k2) h2))
def sp_law_alike : Sp := fun vs H Q _ => ∃ (a b : Addr) (rs : List (List Deed)), vs = [.ref a, .ref b] ∧ RowsAt H a rs ∧ RowsAt H b rs ∧ (∀ ds ∈ rs, ∀ d ∈ ds, DeedOk d) ∧ rs.length ≤ 1000000 ∧ (∀ ds ∈ rs, ds.length ≤ 1000000) ∧ ∀ H', Same H H' → Q (.bl true) H'
theorem paired_snoc {α β : Type} {F : α → β → Prop} {xs : List α} {ys : List β} {x : α} {y : β} (h : Paired F xs ys) (k : F x y) : Paired F (xs ++ [x]) (ys ++ [y]) := paired_app h (.cons k .nil)
theorem take_snoc {α : Type} {xs : List α} {i : Nat} {x : α} (h : xs[i]? = some x) : xs.take (i + 1) = xs.take i ++ [x] := by
  rw [List.take_succ, h]
  rfl
theorem refs_at {as : List Addr} {i : Nat} {v : V} (h : (as.map V.ref)[i]? = some v) : ∃ a, v = .ref a ∧ as[i]? = some a := by
  rw [List.getElem?_map] at h
  cases e : as[i]? with
  | none =>
    rw [e] at h
    cases h
  | some z =>
    rw [e] at h
    exact ⟨z, (Option.some.inj h).symm, rfl⟩
/-- `[list(d) for d in ds]` -/
theorem lists_row {K : PySem.W.Frag} {σ : L2.St} {H : Hp} {R : VK} {M : Addr → Prop} {e : Addr} {ds : List Deed} (i j : Nat) (h0 : (wipe σ [j])[i]? = some (some (.ref e))) (hM : ∀ b, M b → ∃ o, H b = some o) (h : DeedsAt (Cut M H) e ds)
    (ok : ∀ d ∈ ds, DeedOk d) (hl : ds.length ≤ 1000000) (hj : j < σ.length) (q : ∀ (D : Addr) (H' : Hp), Same H H' → H D = none → ListsAt K (Cut M H') D ds → R (.ref D) H') (h1 : σ[i]? = some (some (.ref e))) :
    tLc (iList K (tVar i)) (gName j) tYes (tCB (fun xs H Q => ∃ p ys, xs = [V.ref p] ∧ (SqL K H p ys ∨ SqT K H p ys) ∧ ∀ l : Addr, H l = none → Q (.ref l) (upd H l (.lst ys))) (tCons (tVar j) tNil)) [j] σ H R := by
  obtain ⟨as, ha1, ha2⟩ := h
  have ha := (cut_iff.mp ha1).2
  refine ⟨_, h1, e, rfl, ⟨_, SqL.of ha⟩, fun D nD => lc_list (K := K) (a := e) (xs := as.map V.ref) (fun i H' => Same H H' ∧ ∃ es : List Addr, H' D = some (.lst (es.map V.ref)) ∧ Paired (fun (e : Addr) (d : Deed) => ∃ xs, Cut (fun b => M b ∨ b = D) H' e = some (.lst xs) ∧ DpAll K (Cut M H) xs (dD d)) es (ds.take i)) ⟨same_new nD, [], upd_same, .nil⟩
      (fun i H' _ h => SqL.of (h.1 _ _ ha)) ?_ ?_⟩
  · rintro i x H' hx ⟨s1, es, hD, hP⟩
    obtain ⟨c, rfl, hc⟩ := refs_at hx
    obtain ⟨d, hd, hda⟩ := paired_at ha2 hc
    obtain ⟨xs, hx1, hx2, _⟩ := hda.items (K := K) (ok d (List.mem_of_getElem? hd))
    have hx3 := s1 _ _ (cut_iff.mp hx1).2
    refine ⟨?_, _, ?_, c, _, rfl, .inr (SqT.of hx3), fun l nl => ⟨_, (same_new nl) _ _ hD, ?_, ?_, es ++ [l], ?_, ?_⟩⟩
    · show ((σ.set j none).set j (some (V.ref c))).set j none = σ.set j none
      rw [List.set_set, List.set_set]
    · have hj2 : j < (wipe σ [j]).length := by
        show j < (σ.set j none).length
        rw [List.length_set]
        exact hj
      rw [List.getElem?_set_self hj2]
    · rw [List.length_map, hP.length, List.length_take]
      exact Nat.lt_of_le_of_lt (by omega : _ ≤ 1000000) (by decide)
    · intro b o z
      have h9 := (same_new (o := .lst xs) nl) _ _ (s1 _ _ z)
      rw [upd_ne (ne_of_none z nD)]
      exact h9
    · rw [upd_same, List.map_append]
      rfl
    · rw [take_snoc hd]
      have g : Same (Cut (fun b => M b ∨ b = D) H') (Cut (fun b => M b ∨ b = D) (upd (upd H' l (.lst xs)) D (.lst (es.map V.ref ++ [.ref l])))) := fun b o z => cut_upd (.inr rfl) b o (cut_same (same_new nl) b o z)
      refine paired_snoc (Paired.mono (fun a b ⟨ys, k1, k2⟩ => ⟨ys, g _ _ k1, k2⟩) hP) ⟨xs, cut_iff.mpr ⟨fun z => ?_, ?_⟩, hx2⟩
      · rcases z with z | z
        · obtain ⟨o, ho⟩ := hM l z
          rw [s1.free nl] at ho
          cases ho
        · rw [z, hD] at nl
          cases nl
      · rw [upd_ne (fun z => by rw [z, hD] at nl; cases nl)]
        exact upd_same
  · rintro H' ⟨s1, es, hD, hP⟩
    have el : (ds.take (as.map V.ref).length) = ds := by rw [List.length_map, ha2.length, List.take_length]
    rw [el] at hP
    refine q D H' s1 nD ⟨es, new_cut hM nD hD, Paired.mono (fun a b ⟨ys, k1, k2⟩ => ⟨ys, ?_, ?_⟩) hP⟩
    · exact cut_iff.mpr ⟨fun z => (cut_iff.mp k1).1 (.inl z), (cut_iff.mp k1).2⟩
    · exact dpAll_mono (cut_same s1) k2
/-- a part of the heap that the program may change, and what holds of it -/
structure Foot where
  M : Addr → Prop
  W : Hp → Prop
  keep : ∀ H H' : Hp, (∀ b, M b → H' b = H b) → W H → W H'
  has : ∀ H b, W H → M b → ∃ o, H b = some o
structure On (F : Foot) (H H' : Hp) : Prop where
  w : F.W H'
  s : Same (Cut F.M H) (Cut F.M H')
theorem On.refl {F : Foot} {H : Hp} (h : F.W H) : On F H H := ⟨h, Same.refl _⟩
theorem On.trans {F : Foot} {H H1 H2 : Hp} (a : On F H H1) (b : On F H1 H2) : On F H H2 := ⟨b.w, a.s.trans b.s⟩
theorem On.of {F : Foot} {H H' : Hp} (w : F.W H) (s : Same H H') : On F H H' := ⟨F.keep H H' (fun b hb => by
  obtain ⟨o, ho⟩ := F.has H b w hb
  rw [ho, s _ _ ho]) w, cut_same s⟩
/-- what `walked` does with right rows of deeds -/
def sp_walked (F : Foot) (C : Er → Addr) : Sp := fun vs H Q E => ∃ (a : Addr) (rs : List (List Deed)), vs = [.ref a] ∧ F.W H ∧ RowsAt (Cut F.M H) a rs ∧ (∀ ds ∈ rs, ∀ d ∈ ds, DeedOk d) ∧ RowsFit rs ∧ rs.length ≤ 1000 ∧ (∀ ds ∈ rs, ds.length ≤ 1000) ∧
  (RowsRight noLeft rs → ∀ (p : Addr) (ps : Prs) (H' : Hp), On F H H' → PairsAt (Cut F.M H') p ps → IsTold (rowsLeft noLeft rs) "" ps → Q (.ref p) H') ∧
  (¬ RowsRight noLeft rs → ∀ H' : Hp, On F H H' → E (.ref (C .unlike)) none H')
def sp_law_refused_by_any (F : Foot) : Sp := fun vs H Q _ => ∃ (a : Addr) (rs : List (List Deed)), vs = [.ref a] ∧ F.W H ∧ RowsAt (Cut F.M H) a rs ∧ (∀ ds ∈ rs, ∀ d ∈ ds, DeedOk d) ∧ RowsFit rs ∧ rs.length ≤ 1000 ∧ (∀ ds ∈ rs, ds.length ≤ 1000) ∧
  ¬ RowsRight noLeft rs ∧ ∀ H' : Hp, Q (.bl true) H'
theorem paired_of {α β : Type} {F : α → β → Prop} : ∀ {xs : List α} {ys : List β}, xs.length = ys.length → (∀ (i : Nat) (x : α) (y : β), xs[i]? = some x → ys[i]? = some y → F x y) → Paired F xs ys
  | [], [], _, _ => .nil
  | [], _ :: _, e, _ => by cases e
  | _ :: _, [], e, _ => by cases e
  | x :: xs, y :: ys, e, h => .cons (h 0 x y rfl rfl) (paired_of (Nat.succ.inj e) fun i a b ha hb => h (i + 1) a b (by simpa using ha) (by simpa using hb))
theorem paired_upd {α β : Type} {F G : α → β → Prop} {xs : List α} {ys : List β} {j : Nat} {y' : β} (h : Paired F xs ys) (k : ∀ (i : Nat) (x : α) (y : β), xs[i]? = some x → ys[i]? = some y → i ≠ j → F x y → G x y) (n : ∀ x, xs[j]? = some x → G x y') :
    Paired G xs (ys.set j y') := by
  refine paired_of (by rw [List.length_set, h.length]) fun i x y hx hy => ?_
  rw [List.getElem?_set] at hy
  by_cases e : j = i
  · rw [if_pos e] at hy
    by_cases l : j < ys.length
    · rw [if_pos (by omega)] at hy
      cases hy
      exact n x (by rw [e]; exact hx)
    · rw [if_neg (by omega)] at hy
      cases hy
  · rw [if_neg e] at hy
    obtain ⟨y2, h2, h3⟩ := paired_at h hx
    rw [hy] at h2
    cases h2
    exact k i x y hx hy (fun z => e z.symm) h3
theorem nodup_at {α : Type} : ∀ {xs : List α} {i j : Nat} {x : α}, xs.Nodup → xs[i]? = some x → xs[j]? = some x → i = j
  | [], i, j, x, _, h, _ => by simp at h
  | y :: r, 0, 0, x, _, _, _ => rfl
  | y :: r, 0, j + 1, x, n, h1, h2 => by
    rw [List.nodup_cons] at n
    have e : y = x := by simpa using h1
    exact absurd (List.mem_of_getElem? (by simpa using h2)) (by rw [← e]; exact n.1)
  | y :: r, i + 1, 0, x, n, h1, h2 => by
    rw [List.nodup_cons] at n
    have e : y = x := by simpa using h2
    exact absurd (List.mem_of_getElem? (by simpa using h1)) (by rw [← e]; exact n.1)
  | y :: r, i + 1, j + 1, x, n, h1, h2 => by
    rw [List.nodup_cons] at n
    exact congrArg (· + 1) (nodup_at (i := i) (j := j) n.2 (by simpa using h1) (by simpa using h2))
/-- one deed is another -/
theorem RB.swap {j k : Nat} {r t : Addr} {ds : List Deed} {d' : Deed} (b : RB H H1 R L p as rows m ps) (hj : as[j]? = some r) (hd : rows[j]? = some ds) (h : DeedAt (Cut (Mu R L p as) (Fresh H H1)) t d') :
    ∃ es : List Addr, H1 r = some (.lst (es.map V.ref)) ∧ es.length = ds.length ∧ RB H (upd H1 r (.lst ((es.set k t).map V.ref))) R L p as (rows.set j (ds.set k d')) m ps := by
  obtain ⟨ds2, hd2, es, hr, he⟩ := paired_at b.row hj
  rw [hd] at hd2
  cases hd2
  have ra := List.mem_of_getElem? hj
  have mr : Mu R L p as r := .inr (.inr (.inr ra))
  have g := cutF_upd (M := Mu R L p as) (H := H) (H1 := H1) (o := .lst ((es.set k t).map V.ref)) mr
  obtain ⟨qs, h1, h2⟩ := b.hp
  have nR : R ≠ r := fun z => b.dR (by rw [z]; exact ra)
  have np : p ≠ r := fun z => b.dp (by rw [z]; exact ra)
  have nL : L ≠ r := fun z => b.dL.2.2 (by rw [z]; exact ra)
  refine ⟨es, hr, he.length, ?_⟩
  refine { b with same := fun c o q => ?_, hR := by rw [upd_ne nR]; exact b.hR, hL := by rw [upd_ne nL]; exact b.hL, row := ?_, hp := ⟨qs, by rw [upd_ne np]; exact h1, Paired.mono (fun a q e => g _ _ e) h2⟩ }
  · rw [upd_ne (ne_of_none q (b.na r ra))]
    exact b.same _ _ q
  · refine paired_upd b.row (fun i x y hx hy hij q => q.mono g fun o z => ?_) fun x hx => ?_
    · rw [upd_ne (fun y => hij (nodup_at b.nd hx (by rw [y]; exact hj)))]
      exact z
    · rw [hj] at hx
      cases hx
      refine ⟨es.set k t, upd_same, paired_of (by rw [List.length_set, List.length_set, he.length]) fun i x y hx hy => ?_⟩
      rw [List.getElem?_set] at hx hy
      by_cases e : k = i
      · rw [if_pos e] at hx hy
        by_cases l : k < es.length
        · rw [if_pos (by omega)] at hx
          rw [if_pos (by rw [← he.length]; omega)] at hy
          cases hx
          cases hy
          exact h.mono g
        · rw [if_neg (by omega)] at hx
          cases hx
      · rw [if_neg e] at hx hy
        obtain ⟨y2, k2, k3⟩ := paired_at he hx
        rw [hy] at k2
        cases k2
        exact k3.mono g
/-- the rows and what is left lie outside what stood -/
theorem RB.out {M : Addr → Prop} (b : RB H H1 R L p as rows m ps) (hM : ∀ c, M c → ∃ o, H c = some o) : RowsAt (Cut M H1) R rows ∧ DictAt (Cut M H1) L m := by
  have g : Same (Cut (Mu R L p as) (Fresh H H1)) (Cut M H1) := fun c o h => new_cut hM (fresh_iff.mp (cut_iff.mp h).2).1 (fresh_iff.mp (cut_iff.mp h).2).2
  refine ⟨⟨as, new_cut hM b.nR b.hR, paired_mem2 b.row fun x y hx _ h => ?_⟩, new_cut hM b.nL b.hL, b.ndm⟩
  obtain ⟨es, h1, h2⟩ := h
  exact ⟨es, new_cut hM (b.na x hx) h1, Paired.mono (fun a d z => z.mono g) h2⟩
theorem next_reading {puts : Prs} {d : Deed} (h : IsReading d) : nextP puts d = puts := by
  cases d with
  | read n v => rfl
  | under g ps => rfl
  | write n v => exact h.elim
  | back k => exact h.elim
theorem kind_reading {d d' : Deed} (h : SameKind d d') : nextP puts d' = puts ∧ nextP puts d = puts := by
  cases d <;> cases d' <;> first | exact h.elim | exact ⟨rfl, rfl⟩
theorem kind_fits {d d' : Deed} {puts : Prs} (h : SameKind d d') : Fits puts d' := by
  cases d <;> cases d' <;> first | exact h.elim | exact trivial
theorem kind_right {left : Str → V} {puts : Prs} {d d' : Deed} (h : SameKind d d') (a : Right left puts d) (b : Right left puts d') : d' = d := by
  cases d <;> cases d' <;> first | exact h.elim | skip
  · have h2 : _ = _ := h
    have a2 : readV left puts _ = _ := a
    have b2 : readV left puts _ = _ := b
    rw [← h2] at b2
    rw [← b2, ← a2, h2]
  · have h2 : _ = _ := h
    have a2 : IsTold _ _ _ := a
    have b2 : IsTold _ _ _ := b
    rw [← h2] at b2
    rw [b2.unique a2, h2]
theorem rowFits_set {d d' : Deed} (h : SameKind d d') : ∀ {ds : List Deed} {k : Nat} {puts : Prs}, ds[k]? = some d → RowFits puts ds → RowFits puts (ds.set k d')
  | [], k, puts, e, _ => by simp at e
  | x :: r, 0, puts, e, f => by
    have ex : x = d := by simpa using e
    subst ex
    have k1 := kind_reading (puts := puts) h
    have f2 : RowFits (nextP puts x) r := f.2
    rw [k1.2, ← k1.1] at f2
    exact ⟨kind_fits h, f2⟩
  | x :: r, k + 1, puts, e, f => ⟨f.1, rowFits_set h (by simpa using e) f.2⟩
theorem rowRight_set {left : Str → V} {d d' : Deed} (h : SameKind d d') : ∀ {ds : List Deed} {k : Nat} {puts : Prs}, ds[k]? = some d → RowRight left puts ds → RowRight left puts (ds.set k d') → d' = d
  | [], k, puts, e, _, _ => by simp at e
  | x :: r, 0, puts, e, f, g => by
    have ex : x = d := by simpa using e
    subst ex
    exact kind_right h f.1 g.1
  | x :: r, k + 1, puts, e, f, g => rowRight_set h (by simpa using e) f.2 g.2
theorem rowsFit_set {d d' : Deed} (h : SameKind d d') : ∀ {rows : List (List Deed)} {j k : Nat} {ds : List Deed}, rows[j]? = some ds → ds[k]? = some d → RowsFit rows → RowsFit (rows.set j (ds.set k d'))
  | [], j, k, ds, e, _, _ => by simp at e
  | x :: r, 0, k, ds, e, e2, f => by
    have ex : x = ds := by simpa using e
    subst ex
    exact ⟨rowFits_set h e2 f.1, f.2⟩
  | x :: r, j + 1, k, ds, e, e2, f => ⟨f.1, rowsFit_set h (by simpa using e) e2 f.2⟩
theorem rowsRight_set {d d' : Deed} (h : SameKind d d') : ∀ {rows : List (List Deed)} {j k : Nat} {ds : List Deed} {left : Str → V}, rows[j]? = some ds → ds[k]? = some d → RowsRight left rows → RowsRight left (rows.set j (ds.set k d')) → d' = d
  | [], j, k, ds, left, e, _, _, _ => by simp at e
  | x :: r, 0, k, ds, left, e, e2, f, g => by
    have ex : x = ds := by simpa using e
    subst ex
    exact rowRight_set h e2 f.1 g.1
  | x :: r, j + 1, k, ds, left, e, e2, f, g => rowsRight_set h (by simpa using e) e2 f.2 g.2
theorem set_at_same {α : Type} : ∀ {xs : List α} {i : Nat} {x : α}, xs[i]? = some x → xs.set i x = xs
  | [], i, x, e => by simp at e
  | y :: r, 0, x, e => by
    have ex : y = x := by simpa using e
    rw [ex]
    rfl
  | y :: r, i + 1, x, e => by
    show y :: r.set i x = y :: r
    rw [set_at_same (by simpa using e)]
/-- `[_law_copied(d) for d in ds]` -/
theorem copy_row {σ : L2.St} {H : Hp} {R : VK} {M : Addr → Prop} {e : Addr} {ds : List Deed} (i j : Nat) (h0 : (wipe σ [j])[i]? = some (some (.ref e))) (hM : ∀ b, M b → ∃ o, H b = some o) (h : DeedsAt (Cut M H) e ds)
    (hl : ds.length ≤ 1000000) (hj : j < σ.length) (q : ∀ (D : Addr) (H' : Hp), Same H H' → H D = none → DeedsAt (Cut M H') D ds → R (.ref D) H') (h1 : σ[i]? = some (some (.ref e))) :
    tLc (iList K (tVar i)) (gName j) tYes (tCall sp_law_copied [] E0 (tCons (tVar j) tNil)) [j] σ H R := by
  obtain ⟨as, ha1, ha2⟩ := h
  have ha := (cut_iff.mp ha1).2
  refine ⟨_, h1, e, rfl, ⟨_, SqL.of ha⟩, fun D nD => lc_list (K := K) (a := e) (xs := as.map V.ref) (fun i H' => Same H H' ∧ ∃ es : List Addr, H' D = some (.lst (es.map V.ref)) ∧ Paired (DeedAt (Cut (fun b => M b ∨ b = D) H')) es (ds.take i)) ⟨same_new nD, [], upd_same, .nil⟩
      (fun i H' _ h => SqL.of (h.1 _ _ ha)) ?_ ?_⟩
  · rintro i x H' hx ⟨s1, es, hD, hP⟩
    obtain ⟨c, rfl, hc⟩ := refs_at hx
    obtain ⟨d, hd, hda⟩ := paired_at ha2 hc
    have hM2 : ∀ b, M b ∨ b = D → ∃ o, H' b = some o := fun b z => by
      rcases z with z | z
      · obtain ⟨o, ho⟩ := hM b z
        exact ⟨o, s1 _ _ ho⟩
      · rw [z]
        exact ⟨_, hD⟩
    have g1 : Same (Cut M H) (Cut (fun b => M b ∨ b = D) H') := fun b o z => by
      refine cut_iff.mpr ⟨fun y => ?_, s1 _ _ (cut_iff.mp z).2⟩
      rcases y with y | y
      · exact (cut_iff.mp z).1 y
      · have z2 := (cut_iff.mp z).2
        rw [y, nD] at z2
        cases z2
    refine ⟨?_, _, ?_, fun b => M b ∨ b = D, c, d, rfl, hM2, hda.mono g1, fun t H2 s2 ht => ⟨_, s2 _ _ hD, ?_, ?_, es ++ [t], ?_, ?_⟩⟩
    · show ((σ.set j none).set j (some (V.ref c))).set j none = σ.set j none
      rw [List.set_set, List.set_set]
    · have hj2 : j < (wipe σ [j]).length := by
        show j < (σ.set j none).length
        rw [List.length_set]
        exact hj
      rw [List.getElem?_set_self hj2]
    · rw [List.length_map, hP.length, List.length_take]
      exact Nat.lt_of_le_of_lt (by omega : _ ≤ 1000000) (by decide)
    · intro b o z
      rw [upd_ne (ne_of_none z nD)]
      exact s2 _ _ (s1 _ _ z)
    · rw [upd_same, List.map_append]
      rfl
    · rw [take_snoc hd]
      have g : Same (Cut (fun b => M b ∨ b = D) H2) (Cut (fun b => M b ∨ b = D) (upd H2 D (.lst (es.map V.ref ++ [.ref t])))) := cut_upd (.inr rfl)
      exact paired_snoc (Paired.mono (fun a b z => (z.mono (cut_same s2)).mono g) hP) (ht.mono g)
  · rintro H' ⟨s1, es, hD, hP⟩
    have el : (ds.take (as.map V.ref).length) = ds := by rw [List.length_map, ha2.length, List.take_length]
    rw [el] at hP
    exact q D H' s1 nD ⟨es, new_cut hM nD hD, Paired.mono (fun a b z => z.mono fun c o y => cut_iff.mpr ⟨fun x => (cut_iff.mp y).1 (.inl x), (cut_iff.mp y).2⟩) hP⟩
/-- where readings stand -/
def SpotsAt (H : Hp) (a : Addr) (sl : List (Nat × Nat)) : Prop := ∃ es : List Addr, H a = some (.lst (es.map V.ref)) ∧ Paired (fun (e : Addr) (q : Nat × Nat) => H e = some (.tup [.int (q.1 : Nat), .int (q.2 : Nat)])) es sl
theorem SpotsAt.mono {H H' : Hp} {a : Addr} {sl : List (Nat × Nat)} (h : SpotsAt H a sl) (s : Same H H') : SpotsAt H' a sl := by
  obtain ⟨es, h1, h2⟩ := h
  exact ⟨es, s _ _ h1, Paired.mono (fun _ _ e => s _ _ e) h2⟩
def Spot (rows : List (List Deed)) (q : Nat × Nat) : Prop := ∃ ds d, rows[q.1]? = some ds ∧ ds[q.2]? = some d ∧ IsReading d
theorem fine_reading {d : Deed} (f : Fine d) (h : (match d with | .read _ _ => True | .under _ _ => True | _ => False)) : IsReading d := by
  cases d with
  | read n v => trivial
  | under g ps => exact f.u g ps rfl
  | write n v => exact h.elim
  | back k => exact h.elim
def slD (sl : List (Nat × Nat)) : PyData := .list (sl.map fun q => .tuple [.int (q.1 : Nat), .int (q.2 : Nat)])
theorem slD_nil (sl : List (Nat × Nat)) : PyData.eqv (slD sl) (.list []) = decide (sl = []) := by
  cases sl with
  | nil => rfl
  | cons q r => rfl
theorem slD_sd (sl : List (Nat × Nat)) : Sd (slD sl) 2 := sd_list fun x hx => by
  obtain ⟨q, _, e⟩ := List.mem_map.mp hx
  rw [← e]
  exact sd_tuple fun y hy => by
    have h2 : y = .int (q.1 : Nat) ∨ y = .int (q.2 : Nat) := by simpa using hy
    rcases h2 with e | e <;> subst e <;> exact sd_int _ 0
theorem SpotsAt.dp {K : PySem.W.Frag} {H : Hp} {a : Addr} {sl : List (Nat × Nat)} (h : SpotsAt H a sl) : Dp K H (.ref a) (slD sl) := by
  obtain ⟨es, h1, h2⟩ := h
  exact .lst (SqL.of h1) (dp_paired (Paired.mono (fun a q e => .tup (SqT.of e) (.cons (.int _) (.cons (.int _) .nil))) h2))
theorem DeedAt.dp {K : PySem.W.Frag} {H : Hp} {a : Addr} {d : Deed} (h : DeedAt H a d) (ok : DeedOk d) : Dp K H (.ref a) (.tuple (dD d)) := by
  obtain ⟨xs, h1, h2, _⟩ := h.items (K := K) ok
  exact .tup (SqT.of h1) h2
theorem deed_eqv {d e : Deed} (hd : DeedOk d) (he : DeedOk e) {b : Bool} (h : (b = true ↔ d = e)) : PyData.eqv (.tuple (dD d)) (.tuple (dD e)) = b := by
  have h1 := eqv_iff (.tuple (dD d)) (.tuple (dD e)) (dD_plain hd) (dD_plain he)
  have h2 : (PyData.tuple (dD d) = PyData.tuple (dD e)) ↔ d = e := ⟨fun z => dD_inj hd he (by injection z), fun z => by rw [z]⟩
  rw [h2, ← h] at h1
  cases b <;> cases hx : PyData.eqv (.tuple (dD d)) (.tuple (dD e)) <;> simp_all
theorem deed_tuple {d : Deed} (ok : DeedOk d) : SeqAt.shaped (.tuple (dD d)) = true := (sd_tuple (dD_sd ok)).shaped (by decide)
theorem ix_nat {n j : Nat} (h : j < n) : ixN n (j : Int) = some j := by
  unfold ixN
  rw [if_pos (by omega), if_pos (by omega), Int.toNat_natCast]
theorem deed_name {H : Hp} {a : Addr} {d : Deed} (h : DeedAt H a d) : ∃ nm r, H a = some (.tup (.str nm :: r)) ∧ ((inV (.str nm) [.str (Str.ofString "read"), .str (Str.ofString "under")] = true ∧ (Fine d → IsReading d)) ∨ inV (.str nm) [.str (Str.ofString "read"), .str (Str.ofString "under")] = false) := by
  cases d with
  | read n v => exact ⟨_, _, h, .inl ⟨by decide +kernel, fun f => trivial⟩⟩
  | under g ps =>
    obtain ⟨p, h1, _⟩ := h
    exact ⟨_, _, h1, .inl ⟨by decide +kernel, fun f => f.u g ps rfl⟩⟩
  | write n v => exact ⟨_, _, h, .inr (by decide +kernel)⟩
  | back k => exact ⟨_, _, h, .inr (by decide +kernel)⟩
end
end Kt

set_option maxHeartbeats 2000000
namespace Kt
open PySem PySem.Spec PyProof.Rows L2 GxR
/-! ### any, all of a generator expression over a list or a range, its element reading what the def holds -/
def GenEl (X : Cx) (sc : Scope) (x : Str) (e : Expr) (P : Addr) (s1 : Shared) (Pv : Nat → Value → Prop) (f : Nat → Bool) : Prop :=
  ∀ (en : Env) (B : Around) (R : Value → Shared → Prop) (i : Nat) (v : Value) (z : Shared) (m : Str → Option Value),
    en.scope = sc → en.globals = mainGlobals → en.cells = cloFrom X.env.cells sc.names [] → B.handled = none → B.depth ≤ X.A.depth + 1 → B.units ≤ X.A.units + 8 →
      (∀ b o, b ≠ P → s1.heap.get? b = some o → z.heap.get? b = some o) → z.heap.Ns en.locals m → m x = some v → Pv i v →
        wpAny (model X.prog X.w) B (eval e en) (fun y z' => y = .bool (f i) ∧ Keeps z z') R z
/-- what iter(v) gives: a new object at the end -/
def Iters (X : Cx) (P : Addr) (v : Value) (n : Nat) (Pv : Nat → Value → Prop) (s1 : Shared) : Prop :=
  ∀ (Q : Value → Shared → Prop) (E : Value → Shared → Prop), (∀ (ob : Obj) (fp : List Addr) (St : Nat → Heap → Prop),
    (∀ A' : Around, A'.handled = none → Walks X.prog X.w A' s1.heap.objs.size fp [s1.heap.objs.size] n Pv St) → St 0 (s1.heap.push ob) → (∀ b ∈ fp, b ≤ s1.heap.objs.size) → P ∉ fp →
      Q (.ref s1.heap.objs.size) { s1 with heap := s1.heap.push ob }) → wpAny (model X.prog X.w) X.A (pyIter v) Q E s1
section
variable {X : Cx} {pins : List (Addr × Obj)} {σ : L2.St} {H : Hp} {s : Shared}
theorem iters_list {K : PySem.W.Frag} {l P : Addr} {xs : List V} {ps : Array Value} (I : Inv X pins σ H s) (hq : SqL K H l xs) (hP : H P = some (.tbl ps)) (eK : X.K = K := by rfl) :
    ∃ its : List Value, Vals xs its ∧ Iters X P (.ref l) xs.length (fun i v => its[i]? = some v) s := by
  subst eK
  obtain ⟨its, rv, hl, _⟩ := I.list hq
  refine ⟨its, rv, fun Q E h => ?_⟩
  have hl2 := hl.isList
  have lt : l < s.heap.objs.size := by obtain ⟨_, _, e, _⟩ := hl; exact Heap.lt_size e
  have eP : s.heap.get? P = some { cls := .none, data := .fields ps } := I.hok P _ hP
  have ltP := Heap.lt_size eP
  refine wpAny_pyIter_list hl2 (h _ [s.heap.objs.size, l] (fun i h => h.IsListIter s.heap.objs.size l i ∧ h.IsList l its.toArray) (fun A' hA => ?_) ⟨⟨_, Heap.get?_push_size _ rfl, rfl, rfl⟩, hl2.push _⟩ (fun b hb => ?_) fun hb => ?_)
  · have W := Walks.list (prog := X.prog) (w := X.w) hA s.heap.objs.size l (Nat.ne_of_lt lt) its.toArray
    have e1 : its.toArray.size = xs.length := by rw [List.size_toArray]; exact rv.length.symm
    rw [e1] at W
    have e2 : (fun (i : Nat) (v : Value) => its.toArray[i]? = some v) = fun i v => its[i]? = some v := by
      funext i v
      rw [List.getElem?_toArray]
    rw [e2] at W
    exact W
  · rcases List.mem_cons.mp hb with z | z
    · rw [z]
      exact Nat.le_refl _
    · rw [List.mem_singleton.mp z]
      exact Nat.le_of_lt lt
  · rcases List.mem_cons.mp hb with z | z
    · exact absurd ltP (by rw [z]; exact Nat.lt_irrefl _)
    · obtain ⟨o, n, e, c, _⟩ := hl
      rw [← List.mem_singleton.mp z, eP] at e
      cases e
      cases c
def GenReady (X : Cx) (pins : List (Addr × Obj)) (σ : L2.St) (H1 : Hp) (P : Addr) (n : Nat) (f : Nat → Bool) (g : Addr) (s5 : Shared) : Prop :=
  ∃ (fp wr : List Addr) (G : Array GenState → Array GenState → Prop) (F : Nat → Value → Prop) (St : Nat → Shared → Prop),
    WalksS X.prog X.w X.A.in1 g fp wr G n F St ∧ St 0 s5 ∧ TruthOf X.prog X.w X.A.in1 F f ∧ ∀ s', PySem.Moved wr G s5 s' → ∃ H2, Tabbed P H1 H2 ∧ Inv X pins σ H2 s'
theorem gen_made {c P : Addr} {elt iter : Expr} {x : Str} {px gp : Pos} {sc : Scope} {te : TE} {k : Nat} {G : Value → Shared → Prop} {R : V → Hp → Prop}
    (hr : Room k X.A) (TB : TabB X.base X.mg c P) (hcode : X.env.code = .ref c) (S : GenS X.env sc x) (hi : PE X iter te)
    (hf : ∀ v, genFold iter X.env v = pure v) (I : Inv X pins σ H s) (h : te σ H fun v H1 => TabG H1 P ∧ R v H1)
    (hel : ∀ (v : V) (u : Value) (H1 : Hp) (s1 : Shared), Inv X pins σ H1 s1 → TabG H1 P → RelV v u → R v H1 → ∃ (n : Nat) (Pv : Nat → Value → Prop) (f : Nat → Bool), Iters X P u n Pv s1 ∧ GenEl X sc x elt P s1 Pv f ∧
      ∀ g sg, GenReady X pins σ H1 P n f g sg → G (.ref g) sg) :
    wpAny (model X.prog X.w) X.A (eval (.GeneratorExp elt [⟨.Name x px, iter, [], 0⟩] sc gp) X.env) G X.xe s := by
  refine wpAny_GeneratorExp_walksQD hr.hd S.co (closure_ok S.free) S.cell S.dot S.loc S.kind (by have := hr.dp; omega) ?_ hf
  refine thn (hi.run pins s σ H _ I h) fun u sa ⟨v, H1, Ia, rv, hTab, hR⟩ => ?_
  obtain ⟨n, Pv, f, hit, hE, hQ⟩ := hel v u H1 sa Ia hTab rv hR
  obtain ⟨ps, hP, htr⟩ := hTab
  refine hit _ _ fun ob fp St W hst hfp hPf => ?_
  have eP : sa.heap.get? P = some { cls := .none, data := .fields ps } := Ia.hok P _ hP
  have ltP : P < sa.heap.objs.size := Heap.lt_size eP
  have eP2 : (sa.heap.push ob).get? P = some { cls := .none, data := .fields ps } := Heap.get?_push_of_some _ eP
  have hcd : PySem.W.CodeHd (sa.heap.push ob) c P := TB.code.keeps fun b o e => Heap.get?_push_of_some _ (Ia.bk b o e)
  have nl : (sa.heap.push ob).NoLimit := Ia.nolimit.push ob
  have nsz : (sa.heap.push ob).objs.size = sa.heap.objs.size + 1 := Heap.size_push ..
  have ltS : cStatics < sa.heap.objs.size := let ⟨_, q, _⟩ := Ia.nolimit; q.lt
  have neS : cStatics ≠ P := fun q => by
    obtain ⟨_, ⟨o, es, ep, ho, hd, _⟩, _⟩ := Ia.nolimit
    rw [q, eP] at ho
    cases ho
    cases hd
  have onward : ∀ (cd : Value) (hh : Heap) (tk : Nat) (qs : Array Value), Heap.ExtBut P (sa.heap.push ob) hh → (sa.heap.push ob).objs.size ≤ hh.objs.size →
      hh.get? P = some { cls := .none, data := .fields qs } → (∃ more, qs = ps ++ more) → TriplesOk qs.toList →
      wpAny (model X.prog X.w) X.A (builtinsFor X.env.globals X.env.builtins) (fun bi z4 => ∃ (J : Addr) (fp wr : List Addr) (n : Nat) (V : Nat → Value → Prop) (S0 : Nat → Heap → Prop)
        (pz : Nat → Bool) (F : Nat → Value → Prop), Value.ref sa.heap.objs.size = .ref J ∧ (∀ B : Around, B.handled = none → Walks X.prog X.w B J fp wr n V S0) ∧ S0 0 z4.heap ∧
        (∀ b ∈ fp, b < z4.heap.objs.size) ∧ z4.heap.NoLimit ∧ cStatics ∉ wr ∧
        (∀ hr : Heap, (∀ b o, z4.heap.get? b = some o → hr.get? b = some o) → QuietGenD X.prog X.w (genEnv sc (cloFrom X.env.cells sc.names []) z4.heap.objs.size cd bi X.env) x [] elt (List.range z4.heap.objs.size) wr V pz F hr (X.A.depth + 1) (X.A.units + 8)) ∧
        (∀ a h5 tk gs, gs.bare = true → z4.heap.objs.size < a → h5.objs.size = a + 1 → (∀ b o, z4.heap.get? b = some o → h5.get? b = some o) →
          WalksS X.prog X.w X.A.in4 a (a :: z4.heap.objs.size :: List.range z4.heap.objs.size) (z4.heap.objs.size :: wr) (GenOnlyQ z4.gens.size) (passing pz n 0).length
            (fun j y => ∃ i, (passing pz n 0)[j]? = some i ∧ F i y) (GenAt X.prog X.w X.A.in4 a z4.gens.size z4.heap.objs.size (List.range z4.heap.objs.size) wr pz n F) →
          GenAt X.prog X.w X.A.in4 a z4.gens.size z4.heap.objs.size (List.range z4.heap.objs.size) wr pz n F 0 { z4 with gens := z4.gens.push gs, toks := tk, heap := h5 } →
          G (.ref a) { z4 with gens := z4.gens.push gs, toks := tk, heap := h5 })) X.xe { sa with heap := hh, toks := tk } := by
    intro cd hh tk qs hx hsz hq hmore htq
    have lt2 : sa.heap.objs.size < hh.objs.size := Nat.lt_of_lt_of_le (by rw [nsz]; exact Nat.lt_succ_self _) hsz
    obtain ⟨bm, obm, b1, b2, b3, b4, b5, b6, b7, b8⟩ := TB.bm
    have up : ∀ b o, b ≠ P → sa.heap.get? b = some o → hh.get? b = some o := fun b o hb e => hx b o hb (Heap.get?_push_of_some _ e)
    have hgl : hh.Ns mainGlobals X.mg := ((Ia.mod.glob.keeps Ia.bk).push ob).extBut hx TB.gP
    refine wpAny_builtinsFor (m := X.mg) (by rw [Ia.ok.glob]; exact hgl) b1 b2 (up _ _ b4 (Ia.bk _ _ b5)) b6 b7 b8 ?_
    refine ⟨sa.heap.objs.size, fp, [sa.heap.objs.size], n, Pv, St, (fun _ => true), (fun i y => y = .bool (f i)), rfl, W, ?_, ?_, nl.extBut hx neS, ?_, ?_, ?_⟩
    · exact (W X.A hr.hd).frame _ _ _ hst fun b hb o e => hx b o (fun q => hPf (by rw [← q]; exact hb)) e
    · intro b hb
      show b < hh.objs.size
      exact Nat.lt_of_le_of_lt (hfp b hb) lt2
    · intro q
      have e1 : cStatics = sa.heap.objs.size := List.mem_singleton.mp q
      exact absurd ltS (by rw [← e1]; exact Nat.lt_irrefl _)
    · intro hr2 hup
      refine ⟨fun B R2 i v z2 m2 hB hD hU hPv hn hm hkeep => ?_, fun B R2 i v z2 m2 hB hD hU hPv hp hn hm hkeep => ?_⟩
      · rw [List.forIn_nil]
        exact wpAny_pure ⟨rfl, keeps_tok _ _⟩
      · refine hE _ B R2 i v z2 m2 rfl Ia.ok.glob rfl hB hD hU (fun b o hb e => ?_) hn hm hPv
        have l1 : b < hh.objs.size := Nat.lt_trans (Heap.lt_size e) lt2
        refine hkeep b (List.mem_range.mpr l1) (fun q => ?_) o (hup _ _ (up b o hb e))
        have l2 := Heap.lt_size e
        rw [List.mem_singleton.mp q] at l2
        exact Nat.lt_irrefl _ l2
    · intro g h5 tk5 gs hgs hag hs5 hk5 W5 hat
      have en : (passing (fun _ => true) n 0) = List.range n := passing_true _
      rw [en, List.length_range] at W5
      refine hQ g _ ⟨_, _, _, _, _, W5.in4_1, hat, ?_, fun s' hmv => ?_⟩
      · intro j y sj Qj Ej hy hQj
        obtain ⟨i, hij, rfl⟩ := hy
        obtain ⟨_, ej⟩ := List.getElem?_eq_some_iff.mp hij
        rw [List.getElem_range] at ej
        subst ej
        exact wpAny_truthy_bool hQj
      · obtain ⟨more, em⟩ := hmore
        subst em
        have away : ∀ b o, sa.heap.get? b = some o → b ∉ hh.objs.size :: [sa.heap.objs.size] := fun b o e q => by
          have l1 := Heap.lt_size e
          rcases List.mem_cons.mp q with q | q
          · rw [q] at l1
            exact Nat.lt_irrefl _ (Nat.lt_of_lt_of_le l1 (Nat.le_of_lt lt2))
          · rw [List.mem_singleton.mp q] at l1
            exact Nat.lt_irrefl _ l1
        have I9 := inv_tab (more := more) (h' := s'.heap) (g' := s'.gens) (d' := s'.drawn) (t' := s'.toks) Ia hP
          (fun b o hb e => hmv.heap b o (away b o e) (hk5 b o (up b o hb e)))
          (hmv.heap P _ (away P _ eP) (hk5 P _ hq)) (AllBare.movedS (Ia.bare.push hgs) hmv)
        rw [sh_eta sa s' hmv.os] at I9
        exact ⟨_, ⟨⟨_, upd_same, htq⟩, fun b hb => upd_ne hb⟩, I9⟩
  refine ⟨nl, ?_⟩
  cases hf2 : codeAmong gp ps.toList with
  | none =>
    refine wpAny_genexprCodeX hcode (hcd.code eP2 htr) (hcd.tab eP2) hf2 fun c2 h2 tk hx hge hlt hco _ htb _ => ?_
    obtain ⟨_, _, _, _, _, _, _, _, _, _, _, _, _, _, _, _, _, _, _, ht2, _⟩ := hco
    exact onward _ h2 tk _ hx (Nat.le_trans hge (Nat.le_of_lt hlt)) htb.2 ⟨_, rfl⟩ ht2
  | some cv =>
    refine wpAny_genexprCode_hit hcode (hcd.code eP2 htr) hf2 ?_
    exact onward cv (sa.heap.push ob) sa.toks ps (Heap.ExtBut.refl _ _) (Nat.le_refl _) eP2 ⟨#[], by simp⟩ htr
/-- what the walked thing is: n items, item by item -/
abbrev Src := L2.St → Hp → V → Nat → (Nat → Bool) → Prop
def tGenAny (P : Addr) (C : Src) (te : TE) : TE := fun σ H Q => te σ H fun v H1 => TabG H1 P ∧ ∃ n f, C σ H1 v n f ∧ ∀ H2, Tabbed P H1 H2 → Q (.bl ((List.range n).any f)) H2
def tGenAll (P : Addr) (C : Src) (te : TE) : TE := fun σ H Q => te σ H fun v H1 => TabG H1 P ∧ ∃ n f, C σ H1 v n f ∧ ∀ H2, Tabbed P H1 H2 → Q (.bl ((List.range n).all f)) H2
/-- the element answers as C says -/
def SrcOk (X : Cx) (P : Addr) (sc : Scope) (x : Str) (elt : Expr) (C : Src) : Prop :=
  ∀ (pins : List (Addr × Obj)) (σ : L2.St) (H1 : Hp) (s1 : Shared) (v : V) (u : Value) (n : Nat) (f : Nat → Bool), Inv X pins σ H1 s1 → TabG H1 P → RelV v u → C σ H1 v n f →
    ∃ Pv, Iters X P u n Pv s1 ∧ GenEl X sc x elt P s1 Pv f
theorem pe_anyQ {c P : Addr} {elt iter : Expr} {x : Str} {px p pos gp : Pos} {sc : Scope} {C : Src} {te : TE} {k : Nat}
    (hr : Room k X.A) (hg : Gl X "any") (hm : X.mg "any" = none) (TB : TabB X.base X.mg c P) (hcode : X.env.code = .ref c) (S : GenS X.env sc x) (hi : PE X iter te) (hel : SrcOk X P sc x elt C)
    (hf : ∀ v, genFold iter X.env v = pure v)
    (he : starEach [.GeneratorExp elt [⟨.Name x px, iter, [], 0⟩] sc gp] X.env = (false, eval (.GeneratorExp elt [⟨.Name x px, iter, [], 0⟩] sc gp) X.env) :: starEach [] X.env := by rfl) :
    PE X (.Call (.Name "any" p) [.GeneratorExp elt [⟨.Name x px, iter, [], 0⟩] sc gp] [] pos) (tGenAny P C te) := by
  refine ⟨fun pins s σ H Q I h => ?_⟩
  refine wpAny_Call_Name_kw (ld_blt I hg hm (show bootBuiltins "any" = some (.builtin "any") by decide +kernel) (PyProof.Rows.callWith_builtin1 ?_ he (by rfl)))
  rw [he]
  refine Calls.spliced_cons ?_
  refine gen_made (R := fun v H1 => ∃ n f, C σ H1 v n f ∧ ∀ H2, Tabbed P H1 H2 → Q (.bl ((List.range n).any f)) H2) hr TB hcode S hi hf I h fun v u H1 s1 I1 hT rv hR => ?_
  obtain ⟨n, f, hC, hQ⟩ := hR
  obtain ⟨Pv, h1, h2⟩ := hel pins σ H1 s1 v u n f I1 hT rv hC
  refine ⟨n, Pv, f, h1, h2, fun g sg hG => ?_⟩
  obtain ⟨fp, wr, G, F, St, W, hst, htr, hI⟩ := hG
  refine Calls.spliced_nil ?_
  refine call_any_walkS (W.self 0 _ _ _ hst ⟨g, fp, wr, G, _, F, St, _, rfl, W, hst, htr, fun s' hmv => ?_⟩)
  obtain ⟨H2, hT2, J⟩ := hI s' hmv
  exact ⟨.bl _, H2, J, rfl, hQ H2 hT2⟩
theorem pe_allQ {c P : Addr} {elt iter : Expr} {x : Str} {px p pos gp : Pos} {sc : Scope} {C : Src} {te : TE} {k : Nat}
    (hr : Room k X.A) (hg : Gl X "all") (hm : X.mg "all" = none) (TB : TabB X.base X.mg c P) (hcode : X.env.code = .ref c) (S : GenS X.env sc x) (hi : PE X iter te) (hel : SrcOk X P sc x elt C)
    (hf : ∀ v, genFold iter X.env v = pure v)
    (he : starEach [.GeneratorExp elt [⟨.Name x px, iter, [], 0⟩] sc gp] X.env = (false, eval (.GeneratorExp elt [⟨.Name x px, iter, [], 0⟩] sc gp) X.env) :: starEach [] X.env := by rfl) :
    PE X (.Call (.Name "all" p) [.GeneratorExp elt [⟨.Name x px, iter, [], 0⟩] sc gp] [] pos) (tGenAll P C te) := by
  refine ⟨fun pins s σ H Q I h => ?_⟩
  refine wpAny_Call_Name_kw (ld_blt I hg hm (show bootBuiltins "all" = some (.builtin "all") by decide +kernel) (PyProof.Rows.callWith_builtin1 ?_ he (by rfl)))
  rw [he]
  refine Calls.spliced_cons ?_
  refine gen_made (R := fun v H1 => ∃ n f, C σ H1 v n f ∧ ∀ H2, Tabbed P H1 H2 → Q (.bl ((List.range n).all f)) H2) hr TB hcode S hi hf I h fun v u H1 s1 I1 hT rv hR => ?_
  obtain ⟨n, f, hC, hQ⟩ := hR
  obtain ⟨Pv, h1, h2⟩ := hel pins σ H1 s1 v u n f I1 hT rv hC
  refine ⟨n, Pv, f, h1, h2, fun g sg hG => ?_⟩
  obtain ⟨fp, wr, G, F, St, W, hst, htr, hI⟩ := hG
  refine Calls.spliced_nil ?_
  refine call_all_walkS (W.self 0 _ _ _ hst ⟨g, fp, wr, G, _, F, St, _, rfl, W, hst, htr, fun s' hmv => ?_⟩)
  obtain ⟨H2, hT2, J⟩ := hI s' hmv
  exact ⟨.bl _, H2, J, rfl, hQ H2 hT2⟩
/-! ### a name of the def, read within the generator -/
theorem gen_free {P : Addr} {sc : Scope} {y : Str} {i : Nat} {v : V} {ps : Array Value} (I : Inv X pins σ H s) (hP : H P = some (.tbl ps)) (hN : X.N[i]? = some y) (hσ : σ[i]? = some (some v)) (hk : X.env.scope.names.lookup y = some .cell)
    (hs : sc.names.lookup y = some .free) (hkind : sc.kind = .function) (hcl : ∀ cs : List (Str × Addr), (cloFrom cs sc.names []).lookup y = some ((cs.lookup y).getD 0)) (d1 : (y == ("__debug__" : Str)) = false := by decide) (d2 : (y == ("__classdict__" : Str)) = false := by decide) :
    ∃ u, RelV v u ∧ ∀ (en : Env) (B : Around) (R : Value → Shared → Prop) (Q : Value → Shared → Prop) (z : Shared) (p : Pos), en.scope = sc → en.cells = cloFrom X.env.cells sc.names [] → (∀ b o, b ≠ P → s.heap.get? b = some o → z.heap.get? b = some o) → Q u z →
      wpAny (model X.prog X.w) B (eval (.Name y p) en) Q R z := by
  obtain ⟨m, hn, hl⟩ := I.loc
  obtain ⟨u, r, l⟩ := hl i y v hN hσ (.inr (.inl hk))
  rcases l with ⟨k, _⟩ | ⟨_, c, hc, hcell⟩
  · have k2 : X.env.scope.names.lookup y = some .local := k
    rw [hk] at k2
    cases k2
  · refine ⟨u, r, fun en B R Q z p hsc hcs hkp hQ => ?_⟩
    have hcP : c ≠ P := fun e => by
      have q := I.freeC y c hc
      rw [e, hP] at q
      cases q
    have hz : z.heap.IsCell c (some u) := by
      obtain ⟨o, ho, hd⟩ := hcell
      exact ⟨o, hkp c o hcP ho, hd⟩
    have e1 : en.cells.lookup y = some c := by
      rw [hcs, hcl, hc]
      rfl
    exact wpAny_Name (wpAny_loadName_free (by rw [hsc]; exact hkind) (show en.scope.names.lookup y = some .free by rw [hsc]; exact hs) e1 hz hQ d2) d1
/-! ### min of a list of whole numbers, with a default -/
def rMinD (K : PySem.W.Frag) : List V → List V → Hp → VK → Prop := fun vs zs H Q => ∃ (a : Addr) (ns : List Int) (d : Int), vs = [V.ref a] ∧ zs = [.int d] ∧ SqL K H a (ns.map V.int) ∧ (ns = [] → Q (.int d) H) ∧ ∀ m, m ∈ ns → (∀ y, y ∈ ns → m ≤ y) → Q (.int m) H
theorem cr_minD (hc : X.calm = true) : CallRK X (.builtin "min") [Str.ofString "default"] (rMinD X.K) := by
  intro pins s σ H vs zs us ws Q I r rz h
  obtain ⟨a, ns, d, rfl, rfl, hs, h0, h1⟩ := h
  obtain ⟨its, rv, hl, _⟩ := I.list hs
  rw [Vals.ref1 r]
  obtain ⟨w1, rfl, e1⟩ := vals1 rz
  obtain ⟨t, rfl⟩ := e1
  have hln : ns.length = its.length := by
    have q := rv.length
    rw [List.length_map] at q
    exact q
  have hval : ∀ (i : Nat) (v : Value), its.toArray[i]? = some v → i < ns.length ∧ ∃ t, v = .int (ns.getD i 0) t := fun i v e => by
    have e2 : its[i]? = some v := by simpa using e
    have lt : i < its.length := (List.getElem?_eq_some_iff.mp e2).1
    have lt2 : i < ns.length := by omega
    obtain ⟨u, e3, r3⟩ := rv.get (i := i) (x := .int (ns.getD i 0)) (by
      rw [List.getElem?_map, List.getElem?_eq_getElem lt2, List.getD_eq_getElem?_getD, List.getElem?_eq_getElem lt2]
      rfl)
    rw [e2] at e3
    cases e3
    exact ⟨lt2, r3⟩
  show wpAny _ _ (call (.builtin "min") [.ref a] [(Str.ofString "default", .int d t)]) _ _ s
  refine call_min_walkD (PySem.W.iter_listW (A := X.A.in1) (I.ok.hd hc) hl.isList fun s2 e W st hfp hw hk => ?_)
  refine ⟨_, _, _, _, _, _, _, s.heap, (fun i j => decide (ns.getD i 0 < ns.getD j 0)), rfl, W, st, hfp, hw, hk, fun hz s' m => ?_, fun hp => ⟨?_, fun v s' hP m => ?_⟩⟩
  · obtain ⟨h', tk, rfl, hk'⟩ := PySem.W.moved_old e rfl m
    rw [List.size_toArray, ← hln] at hz
    exact ⟨.int d, H, I.kept hk', ⟨_, rfl⟩, h0 (List.eq_nil_of_length_eq_zero hz)⟩
  · intro i j vi vj s3 Q3 E3 _ hi hj hq
    exact CmpOf.ints_lt (fun i => ns.getD i 0) (fun i v e => (hval i v e).2) i j vi vj s3 Q3 E3 hi hj hq
  · obtain ⟨h', tk, rfl, hk'⟩ := PySem.W.moved_old e rfl m
    obtain ⟨lt, t2, rfl⟩ := hval _ v hP
    obtain ⟨b1, b2⟩ := argBest_lt (fun i => ns.getD i 0) (its.toArray.size - 1)
    refine ⟨.int _, H, I.kept hk', ⟨_, rfl⟩, h1 _ ?_ fun y hy => ?_⟩
    · rw [List.getD_eq_getElem?_getD, List.getElem?_eq_getElem lt]
      exact List.getElem_mem lt
    · obtain ⟨j, hj, rfl⟩ := List.getElem_of_mem hy
      have q := b2 j (by rw [List.size_toArray, ← hln]; omega)
      have e5 : ns.getD j 0 = ns[j] := by rw [List.getD_eq_getElem?_getD, List.getElem?_eq_getElem hj]; rfl
      rw [e5] at q
      exact q
end
end Kt

namespace Kt
open PySem PySem.Spec PyProof.Rows L2 GxR Kr
/-- a def that stands with its own code object at c -/
structure FunC (K : PySem.W.Frag) (x qual : Str) (st : Stmt) (f c : Addr) (fd : FuncData) : Prop where
  ex : ∃ (oc : Value) (od : Option Addr) (kV doc pm : Value) (an : Option Addr) (ct : Value) (osl : Array (Option Value)),
    fd = PySem.W.fnOf x qual (defArgs st) (defBody st) (defScope st) .none kV doc pm an (.ref c) ct ∧ K.lookup f = some ⟨oc, od, .func fd, osl⟩ ∧ PySem.W.codeIn K (.ref c) qual = true
  kp : PySem.W.keepIn K (.ref f) = true
/-- H' is H and more, but for the table at T -/
structure SameT (T : Addr) (H H' : Hp) : Prop where
  tab : TabG H' T
  at' : ∀ b o, b ≠ T → H b = some o → H' b = some o
theorem TabG.same {T : Addr} {H H' : Hp} (h : TabG H T) (s : Same H H') : TabG H' T := by
  obtain ⟨ps, h1, h2⟩ := h
  exact ⟨ps, s _ _ h1, h2⟩
theorem SameT.refl {T : Addr} {H : Hp} (h : TabG H T) : SameT T H H := ⟨h, fun _ _ _ e => e⟩
theorem SameT.of {T : Addr} {H H' : Hp} (h : TabG H T) (s : Same H H') : SameT T H H' := ⟨TabG.same h s, fun b o _ e => s b o e⟩
theorem SameT.trans {T : Addr} {H H1 H2 : Hp} (a : SameT T H H1) (b : SameT T H1 H2) : SameT T H H2 := ⟨b.tab, fun c o hc e => b.at' c o hc (a.at' c o hc e)⟩
theorem SameT.tabbed {T : Addr} {H H' : Hp} (h : Tabbed T H H') : SameT T H H' := ⟨h.1, fun b o hb e => by rw [h.2 b hb]; exact e⟩
theorem SameT.kept {T : Addr} {H H' : Hp} {b : Addr} {o : HO} (s : SameT T H H') (h : TabG H T) (e : H b = some o) (no : ∀ ps, o ≠ .tbl ps) : H' b = some o := s.at' b o (fun z => by
  obtain ⟨ps, h1, _⟩ := h
  rw [z, h1] at e
  exact no ps (Option.some.inj e).symm) e
theorem SameT.lst {T : Addr} {H H' : Hp} {b : Addr} {xs : List V} (s : SameT T H H') (h : TabG H T) (e : H b = some (.lst xs)) : H' b = some (.lst xs) := s.kept h e fun ps z => by cases z
def sp_place_in (T : Addr) : Sp := fun vs H Q _ => ∃ (a b c : Addr) (row ahead behind : List Int), vs = [.ref a, .ref b, .ref c] ∧ H a = some (.lst (row.map V.int)) ∧ H b = some (.lst (ahead.map V.int)) ∧ H c = some (.lst (behind.map V.int)) ∧
  row.Nodup ∧ (∀ x ∈ ahead, x ∈ row) ∧ (∀ x ∈ behind, x ∈ row) ∧ row.length ≤ 100000 ∧ ahead.length ≤ sizeLine ∧ behind.length ≤ sizeLine ∧ TabG H T ∧ ∀ H' : Hp, SameT T H H' → Q (placeV row ahead behind) H'
end Kt

set_option maxHeartbeats 2000000
namespace Kt
open PySem PySem.Spec PyProof.Rows L2 GxR Kr
/-- a dict comprehension over a walk -/
theorem dc_it {J : It} {n : Nat} {G : Hp → Prop} {Y : Nat → Hp → V → Hp → Prop} (w : Walk J n G Y) {g : TG} {tt : TT} {tk tv : TE} {vs : List Nat} {σ : L2.St} {H1 : Hp} {D : Addr} {Qd : Hp → Prop} (Pv : Nat → Hp → Prop)
    (h0 : Pv 0 (upd H1 D (.dK []))) (hG : ∀ i H, i ≤ n → Pv i H → G H)
    (hs : ∀ i x H H', i < n → Pv i H → Y i H x H' → g x (wipe σ vs) H' fun σ2 H2 => wipe σ2 vs = wipe σ vs ∧ tt σ2 H2 fun b H3 =>
      if b = true then tk σ2 H3 fun y H4 => tv σ2 H4 fun z H5 => ∃ kvs k, y = kV k ∧ H5 D = some (.dK kvs) ∧ kvs.length < sizeLine ∧ Pv (i + 1) (upd H5 D (.dK (putK kvs k z))) else Pv (i + 1) H3)
    (hd : ∀ H, Pv n H → Qd H) :
    ∃ W : Nat → Nat → Hp → Prop, (∃ m, W 0 m (upd H1 D (.dK []))) ∧ ∀ i m H, W i m H →
      (J.stop i H ∧ Qd H) ∨ (J.go i H ∧ ∃ Nx : Hp → Prop, (∀ H', Nx H' → ∃ m', m' < m ∧ W (i + 1) m' H') ∧ ∀ x H', J.yld i H x H' → g x (wipe σ vs) H' fun σ2 H2 => wipe σ2 vs = wipe σ vs ∧ tt σ2 H2 fun b H3 =>
        if b = true then tk σ2 H3 fun y H4 => tv σ2 H4 fun z H5 => ∃ kvs k, y = kV k ∧ H5 D = some (.dK kvs) ∧ kvs.length < sizeLine ∧ Nx (upd H5 D (.dK (putK kvs k z))) else Nx H3) := by
  refine ⟨fun i m H => m + i = n ∧ Pv i H, ⟨n, Nat.add_zero n, h0⟩, fun i m H hw => ?_⟩
  obtain ⟨e, p⟩ := hw
  have hg := hG i H (by omega) p
  rcases Nat.eq_zero_or_pos m with hm | hm
  · have ei : i = n := by omega
    subst ei
    exact .inl ⟨w.stops H hg, hd H p⟩
  · have lt : i < n := by omega
    exact .inr ⟨w.goes i H lt hg, Pv (i + 1), fun H' p' => ⟨m - 1, by omega, by omega, p'⟩, fun x H' y => hs i x H H' lt p (w.yields i H x H' lt hg y)⟩
section
variable {X : Cx}
theorem pg_tupK {K : PySem.W.Frag} {n : Nat} {es : List Expr} {k : Nat} {t : TGs} {pos : Pos} (hc : X.calm = true) (h : PGs X es t) (hn : (assignEach es X.env).length = n := by rfl) (hst : (assignEach es X.env).findIdx? (·.1) = none := by rfl) (eK : X.K = K := by rfl) :
    PG X (.Tuple es k pos) (gTup K n t) := by
  subst eK
  exact pg_tup hc h hn hst
theorem swD_true {kx vx : Expr} {gs : List Comprehension} {scope : Scope} {pos py : Pos} {y : Str} {l : Nat} {env : Env} (hk : env.scope.kind = .function) (hy : env.scope.names.lookup y = some .local) (hl : (py.line == pos.line) = true)
    (ha : (scope.names.any fun (n, k) => n == y && (k == .local || k == .cell)) = false) : swapsWith (.DictComp kx vx gs scope pos) (some (.Name y py)) l env = pure true := by
  have ky : env.kindOf y = some .local := hy
  have hb : env.blockKind = .function := by unfold Env.blockKind; rw [hk]; rfl
  unfold swapsWith
  simp only [hb, ky, ha, Expr.pos, hl]
  rfl
/-- y = {k: v for ..}, y a local, on one line -/
theorem ps_setDc {i : Nat} {y : Str} {py : Pos} {kx vx tg iter : Expr} {ifs : List Expr} {scope : Scope} {own : List (Str × Nat)} {pos spos : Pos} {wi : TI} {g : TG} {tt : TT} {tk tv : TE} (hc : X.calm = true) (hN : X.N.Nodup) (hy : X.N[i]? = some y) (hyl : X.env.scope.names.lookup y = some .local)
    (hsw : swapsWith (.DictComp kx vx [⟨tg, iter, ifs, 0⟩] scope pos) (some (.Name y py)) spos.line X.env = pure true) (hi : PI X tg iter wi) (ok : BlkOk X.N X.env.scope scope own)
    (hg : ∀ (s : Shared) (H : Hp) (C : Addr) (cl : List (Str × Addr)) (fp : List Addr), PG (X.blk s H scope (compEnvC scope cl C X.env) fp) tg g) (ht : ∀ (s : Shared) (H : Hp) (C : Addr) (cl : List (Str × Addr)) (fp : List Addr), PTs (X.blk s H scope (compEnvC scope cl C X.env) fp) ifs tt)
    (hk : ∀ (s : Shared) (H : Hp) (C : Addr) (cl : List (Str × Addr)) (fp : List Addr), PE (X.blk s H scope (compEnvC scope cl C X.env) fp) kx tk)
    (he : ∀ (s : Shared) (H : Hp) (C : Addr) (cl : List (Str × Addr)) (fp : List Addr), PE (X.blk s H scope (compEnvC scope cl C X.env) fp) vx tv) (hs : ∀ x, foldedSetIterable iter X.env x = pure x := by intro _; rfl) :
    PS X (.Assign [.Name y py] (.DictComp kx vx [⟨tg, iter, ifs, 0⟩] scope pos) spos) (tAsg (tDc wi g tt tk tv (own.map (·.2))) (gName i)) := by
  refine ⟨fun pins s σ H D I h => ?_⟩
  rw [exec_Assign_Name_used _ _ _ _ hsw]
  refine wpAny_bind (wpAny_standAt (wpAny_bind ?_))
  show wpAny _ X.A (do let _ ← comprehension (.DictComp kx vx [⟨tg, iter, ifs, 0⟩] scope pos) scope X.env (firstIterPos [⟨tg, iter, ifs, 0⟩] pos) newDict false (eval iter X.env) (some (assign (.Name y py) X.env))) _ _ s
  have h : tDc wi g tt tk tv (own.map (·.2)) σ H (fun x H1 => gName i x σ H1 D.nx) := h
  refine wpAny_bind (thn (dc_core (Qf := fun _ s' => SP X pins D .next s') hc hN I hi ok hg ht hk he hs h fun L C s' m H' I' q hn f => ?_) fun _ s' hq => wpAny_pure (wpAny_pure hq))
  show wpAny _ _ (assign (.Name y py) X.env (.ref L)) _ _ _
  refine wpAny_assign_Name (store_ok2 (v := V.ref L) I' hN hy (.inl hyl) rfl (fun s2 I2 ⟨a, sb, ha⟩ => ?_) (.inr hyl))
  obtain ⟨f0, f1, f2, f3, f4, f5⟩ := f
  have haC : C ≠ a := by
    rcases ha with z | z
    · rw [z]; exact f1
    · exact fun e => f4 y a z e.symm
  refine ⟨m, hn.sameBut sb haC, fun h3 sb3 => ?_⟩
  exact ⟨_, H', I2.turned (t' := s2.toks) (fun b o hb e => (sb3.2 b hb).trans e) f0 f1 f3 f4 f5, q⟩
/-- d[x] >= p within a generator over a list of numbers -/
def srcGe (K : PySem.W.Frag) (i j : Nat) : Src := fun σ H v n f => ∃ (l a : Addr) (ns : List Int) (kvs : List (Key × V)) (p : Int), v = .ref l ∧ SqL K H l (ns.map V.int) ∧ n = ns.length ∧ σ[i]? = some (some (.ref a)) ∧ H a = some (.dK kvs) ∧ σ[j]? = some (some (.int p)) ∧
  ∀ k x, ns[k]? = some x → ∃ q : Int, valV kvs (Sum.inl x : Key) = some (.int q) ∧ f k = decide (p ≤ q)
theorem src_ge {K : PySem.W.Frag} {P : Addr} {sc : Scope} {x y z : Str} {i j : Nat} {p1 p2 p3 p4 p5 : Pos} (eK : X.K = K := by rfl)
    (hN1 : X.N[i]? = some y) (hk1 : X.env.scope.names.lookup y = some .cell) (hs1 : sc.names.lookup y = some .free) (hc1 : ∀ cs : List (Str × Addr), (cloFrom cs sc.names []).lookup y = some ((cs.lookup y).getD 0))
    (hN2 : X.N[j]? = some z) (hk2 : X.env.scope.names.lookup z = some .cell) (hs2 : sc.names.lookup z = some .free) (hc2 : ∀ cs : List (Str × Addr), (cloFrom cs sc.names []).lookup z = some ((cs.lookup z).getD 0))
    (hkind : sc.kind = .function) (hx : sc.names.lookup x = some .local) (dx : (x == ("__debug__" : Str)) = false := by decide) (d1 : (y == ("__debug__" : Str)) = false := by decide) (d2 : (y == ("__classdict__" : Str)) = false := by decide) (d3 : (z == ("__debug__" : Str)) = false := by decide) (d4 : (z == ("__classdict__" : Str)) = false := by decide) :
    SrcOk X P sc x (.Compare (.Subscript (.Name y p1) (.Name x p2) p3) [.GtE] [.Name z p4] p5) (srcGe K i j) := by
  intro pins σ H1 s1 v u n f I hT rv hC
  obtain ⟨l, a, ns, kvs, p, rfl, hq, rfl, e1, ha, e2, hf⟩ := hC
  obtain ⟨ps, hP, _⟩ := hT
  cases rv
  obtain ⟨its, rvs, hit⟩ := iters_list I hq hP eK
  rw [List.length_map] at hit
  refine ⟨_, hit, ?_⟩
  obtain ⟨u1, r1, g1⟩ := gen_free I hP hN1 e1 hk1 hs1 hkind hc1 d1 d2
  obtain ⟨u2, r2, g2⟩ := gen_free I hP hN2 e2 hk2 hs2 hkind hc2 d3 d4
  obtain rfl : u1 = Value.ref a := r1
  obtain ⟨t2, rfl⟩ := r2
  intro en B R k w zz m hsc hgl hcs hB hD hU hkeep hL hm hw
  have ln : ns.length = its.length := by
    have q := rvs.length
    rw [List.length_map] at q
    exact q
  have lt : k < its.length := (List.getElem?_eq_some_iff.mp hw).1
  obtain ⟨w2, ew, rw2⟩ := rvs.get (i := k) (x := .int (ns[k]'(by omega))) (by rw [List.getElem?_map, List.getElem?_eq_getElem (by omega)]; rfl)
  have hw2 : its[k]? = some w := hw
  rw [hw2] at ew
  cases ew
  obtain ⟨q, hv, hfk⟩ := hf k _ (List.getElem?_eq_getElem (by omega))
  obtain ⟨z0, hd0, vs, rel, dd⟩ := dk_of I.hok ha
  obtain ⟨w', hw', rw'⟩ := RelO.some_of (v := .int q) (o := valueAt vs (Sum.inl (ns[k]'(by omega)) : Key)) (by rw [← hv]; exact rel.val _)
  have aP : a ≠ P := fun e => by rw [e, hP] at ha; cases ha
  have dd2 : zz.heap.DictOf (mixKind X.prog X.w) a vs := by
    obtain ⟨ob, es, ep, e, c⟩ := dd
    exact ⟨ob, es, ep, hkeep a ob aP e, c⟩
  obtain ⟨t', rfl⟩ := rw'
  refine wpAny_Compare1 (subD_of (Q := _) PySem.F.slot_dict_getitem.lookup (fun _ _ => rfl) (g1 en B _ _ zz _ hsc hcs hkeep ?_))
  refine wpAny_Name (wpAny_loadName_local (by rw [hsc]; exact hkind) (show en.scope.names.lookup x = some .local by rw [hsc]; exact hx) hL hm ?_) dx
  refine ⟨dd2.mapOf.typeIs, ?_⟩
  refine wpAny_getItem_of (knd := mixKind X.prog X.w) (k := (Sum.inl (ns[k]'(by omega)) : Key)) (kV_is rw2) dd2.mapOf hw' ?_
  refine g2 en B _ _ _ _ hsc hcs hkeep (ge_int ?_)
  exact ⟨congrArg Value.bool hfk.symm, keeps_tok _ _⟩
end
end Kt

namespace Kt
open PySem PySem.Spec PyProof.Rows L2
def topS (i : Nat) : Stmt := PySem.Challenge.pw_keptrow_k01_places.main.body.getD i (.Pass ⟨0, 0, 0, 0⟩)
abbrev s_place_in : Stmt := topS 1
theorem sc_place_in : FnScope ["row", "ahead", "behind", "place", "at", "number"] ["row", "ahead", "behind"] (defScope s_place_in) := ⟨rfl, rfl, rfl, by decide +kernel, rfl, by decide +kernel, by decide +kernel⟩
abbrev s_law_whole : Stmt := topS 3
theorem sc_law_whole : FnScope ["_law_found"] ["_law_found"] (defScope s_law_whole) := ⟨rfl, rfl, rfl, by decide +kernel, rfl, by decide +kernel, by decide +kernel⟩
abbrev s_law_cell_at : Stmt := topS 4
theorem sc_law_cell_at : FnScope ["_law_script", "_law_k"] ["_law_script", "_law_k"] (defScope s_law_cell_at) := ⟨rfl, rfl, rfl, by decide +kernel, rfl, by decide +kernel, by decide +kernel⟩
abbrev s_law_some : Stmt := topS 5
theorem sc_law_some : FnScope ["_law_script", "_law_k", "_law_many", "_law_row", "_law_j"] ["_law_script", "_law_k", "_law_many", "_law_row"] (defScope s_law_some) := ⟨rfl, rfl, rfl, by decide +kernel, rfl, by decide +kernel, by decide +kernel⟩
abbrev s_law_due : Stmt := topS 6
theorem sc_law_due : FnScope ["_law_row", "_law_ahead", "_law_behind", "_law_place", "_law_number"] ["_law_row", "_law_ahead", "_law_behind"] (defScope s_law_due) := ⟨rfl, rfl, rfl, by decide +kernel, rfl, by decide +kernel, by decide +kernel⟩
abbrev s_law : Stmt := topS 7
theorem sc_law : FnScope ["_law_script", "_law_size", "_law_many", "_law_step", "_law_row", "_law_cut", "_law_low", "_law_high", "_law_ahead", "_law_behind", "_law_handed", "_law_found", "_law_due_here", "_law_again", "_law_k"] ["_law_script"] (defScope s_law) := ⟨rfl, rfl, rfl, by decide +kernel, rfl, by decide +kernel, by decide +kernel⟩
end Kt
namespace Kt
open PySem PySem.Spec PyProof.Rows L2 GxR Kr
section
variable {P : Program} {w : World} {K : PySem.W.Frag} {mg : Str → Option Value} {base : Heap}
/-! ### _law_whole -/
theorem ok_law_whole (D : Def K mg "_law_whole" s_law_whole ["_law_found"]) (m_isinstance : mg "isinstance" = none) (m_int : mg "int" = none) (m_bool : mg "bool" = none) :
    FnOk P w K mg base CX0 1 D.f D.fd ["_law_found"] sp_law_whole := by
  refine D.F.ok sc_law_whole (fun vs H Q E h => ?_) (fun cdv A outer s H vs Q E hr h => ?_)
  · obtain ⟨x, rfl, _⟩ := h
    rfl
  · obtain ⟨x, rfl, hx, q⟩ := h
    refine ⟨_, (pss_one (ps_ret (pe_and (pe_callB call_isi (by rfl) m_isinstance (by decide +kernel) (pa_cons (pv 0) (pa_cons (pe_bltn (by rfl) m_int (by decide +kernel) (v := .ty "int") rfl) pa_nil))) (pe_one (pe_not (pe_callB call_isi (by rfl) m_isinstance (by decide +kernel) (pa_cons (pv 0) (pa_cons (pe_bltn (by rfl) m_bool (by decide +kernel) (v := .ty "bool") rfl) pa_nil)))))))), ?_⟩
    obtain ⟨t, ht, k1, k2, k3⟩ := ty_of (K := K) hx
    refine ⟨x, rfl, x, .ty "int", _, _, _, rfl, .ty _, ht, kit_ty k3, _, rfl, ?_⟩
    cases hx with
    | non => exact iteF q
    | bl b => exact iteT ⟨_, rfl, _, .ty "bool", _, _, _, rfl, .ty _, ht, kit_ty k2, _, rfl, q⟩
    | int i => exact iteT ⟨_, rfl, _, .ty "bool", _, _, _, rfl, .ty _, ht, kit_ty k2, _, rfl, q⟩
    | str z h => exact iteF q
    | lst h => exact iteF q
    | tup h => exact iteF q
/-! ### _law_cell_at, _law_mixed -/
theorem ok_law_cell_at (D : Def K mg "_law_cell_at" s_law_cell_at ["_law_script", "_law_k"]) (m_len : mg "len" = none) : FnOk P w K mg base CX0 1 D.f D.fd ["_law_script", "_law_k"] (spCell K) := by
  refine D.F.ok sc_law_cell_at (fun vs H Q E h => ?_) (fun cdv A outer s H vs Q E hr h => ?_)
  · obtain ⟨l, ns, j, rfl, _⟩ := h
    rfl
  · obtain ⟨l, ns, j, rfl, hs, q⟩ := h
    refine ⟨_, (pss_cons (ps_if (pt_cmpR op_lt (pv 1) (pe_callB call_len_seq (by rfl) m_len PySem.boot_len (pa_cons (pv 0) pa_nil)) (nomark _)) (pss_one (ps_ret (pe_ix ix_list (pv 0) (pv 1) (fun _ _ => rfl)))) pss_nil)
      (pss_one (ps_ret pe_int))), ?_⟩
    refine ⟨_, rfl, _, rfl, l, _, rfl, .inl hs, _, _, rfl, rfl, _, rfl, ite2 (fun e => ?_) (fun e => ?_)⟩
    · have e1 := of_decide_eq_true e
      rw [List.length_map] at e1
      have hj : j < ns.length := by omega
      exact ⟨_, rfl, _, rfl, l, _, _, _, rfl, rfl, hs, atI_cell hj, q⟩
    · have hj : ¬ j < ns.length := fun z => e (decide_eq_true (by rw [List.length_map]; omega))
      rw [cell_out hj] at q
      exact q
end
end Kt

namespace Kt
open PySem PySem.Spec PyProof.Rows L2 GxR Kr
section
variable {P : Program} {w : World} {K : PySem.W.Frag} {mg : Str → Option Value} {base : Heap}
/-! ### _law_some -/
theorem ok_law_some (D : Def K mg "_law_some" s_law_some ["_law_script", "_law_k", "_law_many", "_law_row"]) (D_law_cell_at : Def K mg "_law_cell_at" s_law_cell_at ["_law_script", "_law_k"]) (m_len : mg "len" = none) (m_range : mg "range" = none) :
    FnOk P w K mg base CX0 2 D.f D.fd ["_law_script", "_law_k", "_law_many", "_law_row"] (sp_law_some (K := K)) := by
  have G_law_cell_at := ok_law_cell_at (P := P) (w := w) (base := base) D_law_cell_at m_len
  refine D.F.ok sc_law_some (fun vs H Q E h => ?_) (fun cdv A outer s H vs Q E hr h => ?_)
  · obtain ⟨a, r, ns, row, k, n, rfl, _⟩ := h
    rfl
  · obtain ⟨a, r, ns, row, k, n, rfl, hS, hR, hk, hn, q⟩ := h
    refine ⟨_, (pss_cons (ps_if (pt_cmpR (op_eqD hr.units) (pv 3) (pe_lst pa_nil) (nomark _)) (pss_one (ps_ret (pe_lst pa_nil))) pss_nil)
      (pss_one (ps_ret (pe_lc (own := [("_law_j", 4)]) (g := gName 4) (tt := tYes) rfl sc_law_some.nd (pi_range1 (by rfl) m_range (pa_cons (pv 2) pa_nil)) (blkOk_by (N := ["_law_script", "_law_k", "_law_many", "_law_row", "_law_j"]) (sc := defScope s_law_some) (by decide +kernel)) (fun _ _ _ _ _ => pg_name (i := 4) sc_law_some.nd rfl (Or.inl rfl)) (fun _ _ _ _ _ => pts_nil) (fun _ _ _ _ _ => (pe_ix (Kr.ix_listK (K := K)) (pv 3) (pe_op op_modN (pe_op op_add (pe_call G_law_cell_at (hr.mono (by omega)) (by rfl) D_law_cell_at.g D_law_cell_at.F.kp D_law_cell_at.b .nil pass0 (pa_cons (pv 0) (pa_cons (pe_op op_add (pv 1) (pe_op op_mod (pv 4) pe_int)) pa_nil))) (pe_op op_mul (pe_op op_fdiv (pv 4) pe_int) pe_int)) (pe_callB (Kr.len_seqK (K := K)) (by rfl) m_len PySem.boot_len (pa_cons (pv 3) pa_nil))) (fun _ _ => rfl))))))), ?_⟩
    refine ⟨_, rfl, Nat.zero_le _, fun p0 n0 => ?_⟩
    have s0 := same_new (o := .lst []) n0
    refine eq_ints (ms := []) (SqL.of (s0 _ _ hR)) (SqL.of upd_same) ⟨_, rfl, ite2 (fun e => ?_) (fun e => ?_)⟩
    · refine ⟨Nat.zero_le _, fun p1 n1 => ?_⟩
      exact q p1 [] _ (s0.trans (same_new n1)) (s0.free n1) upd_same (Nat.zero_le _) (fun z hz => by cases hz)
    · have hne : row ≠ [] := fun z => e (by rw [z]; rfl)
      have hlen : 0 < row.length := List.length_pos_iff.mpr hne
      refine ⟨_, rfl, n, rfl, by omega, by omega, fun D nD => lc_range (lo := 0) (n := _) (fun i H' => Same H H' ∧ ∃ out : List Int, H' D = some (.lst (out.map V.int)) ∧ out.length = i ∧ ∀ z ∈ out, z ∈ row)
        ⟨s0.trans (same_new nD), [], upd_same, rfl, (fun z hz => by cases hz)⟩ ?_ ?_⟩
      · rintro i H' hi ⟨s1, out, hD, ho, hz⟩
        obtain ⟨z, hzz⟩ : ∃ z : Int, z = (cellOf ns (k + i % 4) + (0 + (i : Int)) / 4 * 7).fmod ((row.map V.int).length : Int) := ⟨_, rfl⟩
        have hl : (row.map V.int).length = row.length := List.length_map _
        have hem : z = (cellOf ns (k + i % 4) + (0 + (i : Int)) / 4 * 7) % (row.length : Int) := by
          rw [hzz, hl]
          exact Int.fmod_eq_emod_of_nonneg _ (by omega)
        have z0 : 0 ≤ z := by
          rw [hem]
          exact Int.emod_nonneg _ (by omega)
        have z1 : z < (row.length : Int) := by
          rw [hem]
          exact Int.emod_lt_of_pos _ (by omega)
        obtain ⟨v, hv⟩ := at_has (l := row) z0 z1
        have hv2 : atI (row.map V.int) z = some (.int v) := by
          have hj : row[z.toNat]? = some v := by
            have e1 : z = ((z.toNat : Nat) : Int) := by omega
            rw [e1] at hv
            obtain ⟨u, hu⟩ : ∃ u, row[z.toNat]? = some u := ⟨_, List.getElem?_eq_getElem (by omega)⟩
            rw [atI_nat hu] at hv
            rw [hu]
            exact hv
          exact at_of (j := z.toNat) (by omega) (by rw [List.getElem?_map, hj]; rfl)
        have vm : v ∈ row := by
          unfold atI at hv
          cases hx : ixN row.length z with
          | none =>
            rw [hx] at hv
            cases hv
          | some j =>
            rw [hx] at hv
            exact List.mem_of_getElem? (show row[j]? = some v from hv)
        refine ⟨rfl, _, rfl, _, rfl, _, rfl, _, rfl, _, _, rfl, rfl, (by show (0 : Int) < 4; decide), _, _, rfl, rfl, a, ns, k + i % 4, ?_, s1.seq hS, ?_⟩
        · show [V.ref a, V.int ((k : Int) + (0 + (i : Int)) % 4)] = [V.ref a, V.int (((k + i % 4 : Nat)) : Int)]
          rw [show (k : Int) + (0 + (i : Int)) % 4 = ((k + i % 4 : Nat) : Int) by omega]
        · refine ⟨_, rfl, _, _, rfl, rfl, ⟨by decide, by decide⟩, _, _, rfl, rfl, .inr ⟨by decide, by decide⟩, _, _, rfl, rfl, ?_⟩
          refine ⟨_, rfl, r, _, rfl, .inl (SqL.of (s1 _ _ hR)), _, _, rfl, rfl, (by rw [hl]; omega), ?_⟩
          refine ⟨r, row.map V.int, _, .int v, rfl, rfl, SqL.of (s1 _ _ hR), (by rw [← hzz]; exact hv2), _, hD, ?_, ?_, out ++ [v], ?_, ?_, ?_⟩
          · rw [List.length_map]
            exact Nat.lt_of_le_of_lt (by omega : out.length ≤ 1000000) (by decide)
          · intro c o e
            rw [upd_ne (ne_of_none e (s0.free nD))]
            exact s1 c o e
          · rw [upd_same, List.map_append]
            rfl
          · rw [List.length_append, ho]
            rfl
          · intro y hy
            rcases List.mem_append.mp hy with h | h
            · exact hz y h
            · rw [List.mem_singleton.mp h]
              exact vm
      · rintro H' ⟨s1, out, hD, ho, hz⟩
        exact q D out H' s1 (s0.free nD) hD (by omega) hz
/-! ### _law_due -/
theorem ok_law_due (D : Def K mg "_law_due" s_law_due ["_law_row", "_law_ahead", "_law_behind"]) (m_len : mg "len" = none) : FnOk P w K mg base CX0 1 D.f D.fd ["_law_row", "_law_ahead", "_law_behind"] sp_law_due := by
  refine D.F.ok sc_law_due (fun vs H Q E h => ?_) (fun cdv A outer s H vs Q E hr h => ?_)
  · obtain ⟨a, b, c, row, ahead, behind, rfl, _⟩ := h
    rfl
  · obtain ⟨a, b, c, row, ahead, behind, rfl, ha, hb, hc, hl1, hl2, hl3, q⟩ := h
    refine ⟨_, (pss_cons (ps_set (i := 3) sc_law_due.nd rfl (.inr rfl) (pe_callB call_len_seq (by rfl) m_len PySem.boot_len (pa_cons (pv 0) pa_nil)))
      (pss_cons (ps_while PassesOwn.never (PW.pt (pw_and (pt_cmpR op_gt (pv 3) pe_int (nomark _)) (pw_and1 (pt_cmpR (op_neD hr.units) (pe_lc (own := [("_law_number", 4)]) (g := gName 4) rfl sc_law_due.nd (pi_list (pv 2)) (blkOk_by (N := ["_law_row", "_law_ahead", "_law_behind", "_law_place", "_law_number"]) (sc := defScope s_law_due) (by decide +kernel)) (fun _ _ _ _ _ => pg_name (i := 4) sc_law_due.nd rfl (Or.inl rfl)) (fun _ _ _ _ _ => (pts_one (pt_cmpR (Kr.in_seqK (K := K)) (pv 4) (pe_slice (Kr.sl_listK (K := K)) (pv 0) po_none (po_some (pv 3))) (by rfl)))) (fun _ _ _ _ _ => (pv 4))) (pe_lst pa_nil) (nomark _))))) (pss_one (ps_set (i := 3) sc_law_due.nd rfl (.inr rfl) (pe_op op_sub (pv 3) pe_int))))
      (pss_cons (ps_if (pt_cmpR (op_neD hr.units) (pe_lc (own := [("_law_number", 4)]) (g := gName 4) rfl sc_law_due.nd (pi_list (pv 1)) (blkOk_by (N := ["_law_row", "_law_ahead", "_law_behind", "_law_place", "_law_number"]) (sc := defScope s_law_due) (by decide +kernel)) (fun _ _ _ _ _ => pg_name (i := 4) sc_law_due.nd rfl (Or.inl rfl)) (fun _ _ _ _ _ => (pts_one (pt_cmpR (Kr.in_seqK (K := K)) (pv 4) (pe_slice (Kr.sl_listK (K := K)) (pv 0) (po_some (pv 3)) po_none) (by rfl)))) (fun _ _ _ _ _ => (pv 4))) (pe_lst pa_nil) (nomark _)) (pss_one (ps_ret pe_non)) pss_nil)
      (pss_one (ps_ret (pv 3)))))), ?_⟩
    refine ⟨_, rfl, a, _, rfl, .inl (SqL.of ha), ?_⟩
    refine ⟨fun m σ H' => Same H H' ∧ m ≤ row.length ∧ placeOf row behind ≤ m ∧ ∃ k : Option V, σ = [some (.ref a), some (.ref b), some (.ref c), some (.int (m : Nat)), k], ⟨row.length, Same.refl H, Nat.le_refl _, placeOf_le _ _, none, ?_⟩, ?_⟩
    · rw [List.length_map]
      rfl
    rintro m σ H1 ⟨s1, hm1, hm2, k, rfl⟩
    have fin : ∀ H2, Same H H2 → placeOf row behind = m → tTest (tOp (rNeD K) (tLc (iList K (tVar 1)) (gName 4) (tTest (tOp (rIn K false) (tVar 4) (tSl (rSlL K) (tVar 0) (tPart (tVar 3)) tNoPart))) (tVar 4) [4]) (tLst tNil))
        [some (V.ref a), some (V.ref b), some (V.ref c), some (V.int (m : Nat)), k] H2 (fun t H3 => if t = true then Q .non H3 else tRet (tVar 3) { nx := fun _ H' => Q .non H', rt := Q } [some (V.ref a), some (V.ref b), some (V.ref c), some (V.int (m : Nat)), k] H3) := by
      intro H2 s2 hp
      refine test_in (sub := row.drop m) rfl (s2 _ _ hb) hl2 (fun z H3 R s3 r => ?_) fun H4 s4 => ?_
      · refine ⟨_, rfl, _, rfl, (m : Int), rfl, a, _, rfl, SqL.of ((s2.trans s3) _ _ ha), fun p np => ?_⟩
        rw [cutV_from row m hm1]
        exact r p _ (same_new np) (SqL.of upd_same)
      · have q2 := q H4 (s2.trans s4)
        unfold placeV at q2
        rw [hp] at q2
        by_cases hn : (ahead.filter fun x => decide (x ∈ row.drop m)) = []
        · rw [decide_eq_true hn]
          rw [if_pos hn] at q2
          exact iteF ⟨_, rfl, q2⟩
        · rw [decide_eq_false hn]
          rw [if_neg hn] at q2
          exact iteT q2
    refine ⟨_, rfl, _, _, rfl, rfl, _, rfl, ite2 (fun e => ?_) (fun e => ?_)⟩
    · have hpos : (0 : Int) < (m : Int) := of_decide_eq_true e
      refine test_in (sub := row.take m) rfl (s1 _ _ hc) hl3 (fun z H3 R s3 r => ?_) fun H4 s4 => ?_
      · refine ⟨_, rfl, _, rfl, (m : Int), rfl, a, _, rfl, SqL.of ((s1.trans s3) _ _ ha), fun p np => ?_⟩
        rw [cutV_to row m hm1]
        exact r p _ (same_new np) (SqL.of upd_same)
      · have s5 := s1.trans s4
        by_cases hn : (behind.filter fun x => decide (x ∈ row.take m)) = []
        · rw [decide_eq_true hn]
          have hle := (take_none hm1).mp (filter_ne.mp hn)
          exact iteF (fin H4 s5 (by omega))
        · rw [decide_eq_false hn]
          have hlt : ¬ m ≤ placeOf row behind := fun z => hn (filter_ne.mpr ((take_none hm1).mpr z))
          refine iteT ⟨fun σ H' => ∃ j : Nat, j = m - 1 ∧ Same H H' ∧ j ≤ row.length ∧ placeOf row behind ≤ j ∧ ∃ k : Option V, σ = [some (.ref a), some (.ref b), some (.ref c), some (.int (j : Nat)), k], ?_, ?_⟩
          · rintro σ' H' ⟨j, hj, r⟩
            exact ⟨j, by omega, r⟩
          · refine ⟨_, rfl, _, _, rfl, rfl, m - 1, rfl, s5, by omega, by omega, k, ?_⟩
            show [some (V.ref a), some (V.ref b), some (V.ref c), some (V.int ((m : Int) - 1)), k] = _
            rw [show (m : Int) - 1 = ((m - 1 : Nat) : Int) by omega]
    · have hz : m = 0 := by
        have e2 : ¬ (0 : Int) < (m : Int) := fun z => e (decide_eq_true z)
        omega
      exact fin H1 s1 (by omega)
end
end Kt


namespace Kt
open PySem PySem.Spec PyProof.Rows L2 GxR Kr
section
variable {P : Program} {w : World} {K : PySem.W.Frag} {mg : Str → Option Value} {base : Heap}
def sp_law (T : Addr) (K : PySem.W.Frag) : Sp := fun vs H Q _ => ∃ (a : Addr) (ns : List Int), vs = [.ref a] ∧ SqL K H a (ns.map V.int) ∧ TabG H T ∧ ∀ H', Q (.bl true) H'
theorem ok_law {T : Addr} (D : Def K mg "law" s_law ["_law_script"]) (D_law_cell_at : Def K mg "_law_cell_at" s_law_cell_at ["_law_script", "_law_k"]) (D_law_whole : Def K mg "_law_whole" s_law_whole ["_law_found"])
    (D_law_some : Def K mg "_law_some" s_law_some ["_law_script", "_law_k", "_law_many", "_law_row"]) (D_law_due : Def K mg "_law_due" s_law_due ["_law_row", "_law_ahead", "_law_behind"])
    (D_place_in : Def K mg "place_in" s_place_in ["row", "ahead", "behind"]) (G_place_in : FnOk P w K mg base CX0 2 D_place_in.f D_place_in.fd ["row", "ahead", "behind"] (sp_place_in T))
    (m_len : mg "len" = none) (m_range : mg "range" = none) (m_list : mg "list" = none) (m_isinstance : mg "isinstance" = none) (m_int : mg "int" = none) (m_bool : mg "bool" = none) :
    FnOk P w K mg base CX0 3 D.f D.fd ["_law_script"] (sp_law T K) := by
  have G_law_cell_at := ok_law_cell_at (P := P) (w := w) (base := base) D_law_cell_at m_len
  have G_law_whole := ok_law_whole (P := P) (w := w) (base := base) D_law_whole m_isinstance m_int m_bool
  have G_law_some := ok_law_some (P := P) (w := w) (base := base) D_law_some D_law_cell_at m_len m_range
  have G_law_due := ok_law_due (P := P) (w := w) (base := base) D_law_due m_len
  refine D.F.ok sc_law (fun vs H Q E h => ?_) (fun cdv A outer s H vs Q E hr h => ?_)
  · obtain ⟨a, ns, rfl, _⟩ := h
    rfl
  · obtain ⟨a, ns, rfl, hS, hT, q⟩ := h
    refine ⟨_, (pss_cons (ps_set (i := 1) sc_law.nd rfl (.inl rfl) (pe_op op_mod (pe_call G_law_cell_at (hr.mono (by omega)) (by rfl) D_law_cell_at.g D_law_cell_at.F.kp D_law_cell_at.b .nil pass0 (pa_cons (pv 0) (pa_cons pe_int pa_nil))) pe_int))
      (pss_cons (ps_set (i := 2) sc_law.nd rfl (.inl rfl) (pe_lst (pa_cons (pe_op op_mod (pe_call G_law_cell_at (hr.mono (by omega)) (by rfl) D_law_cell_at.g D_law_cell_at.F.kp D_law_cell_at.b .nil pass0 (pa_cons (pv 0) (pa_cons pe_int pa_nil))) pe_int) (pa_cons (pe_op op_mod (pe_call G_law_cell_at (hr.mono (by omega)) (by rfl) D_law_cell_at.g D_law_cell_at.F.kp D_law_cell_at.b .nil pass0 (pa_cons (pv 0) (pa_cons pe_int pa_nil))) pe_int) pa_nil))))
      (C8.pss_cut (ps_if (pt_cmpR op_eq (pe_op op_mod (pe_op op_fdiv (pe_call G_law_cell_at (hr.mono (by omega)) (by rfl) D_law_cell_at.g D_law_cell_at.F.kp D_law_cell_at.b .nil pass0 (pa_cons (pv 0) (pa_cons pe_int pa_nil))) pe_int) pe_int) pe_int (nomark _)) (pss_cons (ps_set (i := 1) sc_law.nd rfl (.inl rfl) (pe_op op_mod (pe_call G_law_cell_at (hr.mono (by omega)) (by rfl) D_law_cell_at.g D_law_cell_at.F.kp D_law_cell_at.b .nil pass0 (pa_cons (pv 0) (pa_cons pe_int pa_nil))) pe_int))
      (pss_one (ps_set (i := 2) sc_law.nd rfl (.inl rfl) (pe_lst (pa_cons (pe_op op_mod (pe_call G_law_cell_at (hr.mono (by omega)) (by rfl) D_law_cell_at.g D_law_cell_at.F.kp D_law_cell_at.b .nil pass0 (pa_cons (pv 0) (pa_cons pe_int pa_nil))) pe_int) (pa_cons (pe_op op_mod (pe_call G_law_cell_at (hr.mono (by omega)) (by rfl) D_law_cell_at.g D_law_cell_at.F.kp D_law_cell_at.b .nil pass0 (pa_cons (pv 0) (pa_cons pe_int pa_nil))) pe_int) pa_nil)))))) pss_nil)
      (pss_cons (ps_set (i := 3) sc_law.nd rfl (.inr rfl) (pe_op op_add pe_int (pe_op op_mod (pe_call G_law_cell_at (hr.mono (by omega)) (by rfl) D_law_cell_at.g D_law_cell_at.F.kp D_law_cell_at.b .nil pass0 (pa_cons (pv 0) (pa_cons pe_int pa_nil))) pe_int)))
      (C8.pss_cut (ps_setLc (i := 4) (own := [("_law_k", 14)]) (g := gName 14) (tt := tYes) rfl sc_law.nd rfl rfl (sw_true rfl rfl rfl (by decide +kernel)) (pi_range1 (by rfl) m_range (pa_cons (pv 1) pa_nil)) (blkOk_by (N := ["_law_script", "_law_size", "_law_many", "_law_step", "_law_row", "_law_cut", "_law_low", "_law_high", "_law_ahead", "_law_behind", "_law_handed", "_law_found", "_law_due_here", "_law_again", "_law_k"]) (sc := defScope s_law) (by decide +kernel)) (fun _ _ _ _ _ => pg_name (i := 14) sc_law.nd rfl (Or.inl rfl)) (fun _ _ _ _ _ => pts_nil) (fun _ _ _ _ _ => (pe_op op_add (pe_op op_mod (pe_call G_law_cell_at (hr.mono (by omega)) (by rfl) D_law_cell_at.g D_law_cell_at.F.kp D_law_cell_at.b .nil pass0 (pa_cons (pv 0) (pa_cons pe_int pa_nil))) pe_int) (pe_op op_mod (pe_op op_mul (pv 14) (pv 3)) pe_int))))
      (pss_cons (ps_set (i := 5) sc_law.nd rfl (.inl rfl) (pe_op op_modN (pe_call G_law_cell_at (hr.mono (by omega)) (by rfl) D_law_cell_at.g D_law_cell_at.F.kp D_law_cell_at.b .nil pass0 (pa_cons (pv 0) (pa_cons pe_int pa_nil))) (pe_op op_add (pv 1) pe_int)))
      (pss_cons (ps_set (i := 6) sc_law.nd rfl (.inl rfl) (pe_slice sl_list (pv 4) po_none (po_some (pv 5))))
      (pss_cons (ps_set (i := 7) sc_law.nd rfl (.inl rfl) (pe_slice sl_list (pv 4) (po_some (pv 5)) po_none))
      (C8.pss_cut (ps_if (pt_cmpR op_eq (pe_op op_mod (pe_call G_law_cell_at (hr.mono (by omega)) (by rfl) D_law_cell_at.g D_law_cell_at.F.kp D_law_cell_at.b .nil pass0 (pa_cons (pv 0) (pa_cons pe_int pa_nil))) pe_int) pe_int (nomark _)) (pss_cons (ps_set (i := 6) sc_law.nd rfl (.inl rfl) (pv 4))
      (pss_one (ps_set (i := 7) sc_law.nd rfl (.inl rfl) (pv 4)))) pss_nil)
      (pss_cons (ps_set (i := 8) sc_law.nd rfl (.inl rfl) (pe_call G_law_some (hr.mono (by omega)) (by rfl) D_law_some.g D_law_some.F.kp D_law_some.b .nil pass0 (pa_cons (pv 0) (pa_cons pe_int (pa_cons (pe_ix ix_list (pv 2) pe_int (fun _ _ => rfl)) (pa_cons (pv 6) pa_nil))))))
      (pss_cons (ps_set (i := 9) sc_law.nd rfl (.inl rfl) (pe_call G_law_some (hr.mono (by omega)) (by rfl) D_law_some.g D_law_some.F.kp D_law_some.b .nil pass0 (pa_cons (pv 0) (pa_cons pe_int (pa_cons (pe_ix ix_list (pv 2) pe_int (fun _ _ => rfl)) (pa_cons (pv 7) pa_nil))))))
      (C8.pss_cut (ps_set (i := 10) sc_law.nd rfl (.inl rfl) (pe_lst (pa_cons (pe_callTy call_list_of (by rfl) m_list (by decide +kernel) (pa_cons (pv 4) pa_nil)) (pa_cons (pe_callTy call_list_of (by rfl) m_list (by decide +kernel) (pa_cons (pv 8) pa_nil)) (pa_cons (pe_callTy call_list_of (by rfl) m_list (by decide +kernel) (pa_cons (pv 9) pa_nil)) pa_nil)))))
      (pss_cons (ps_set (i := 11) sc_law.nd rfl (.inl rfl) (pe_call G_place_in (hr.mono (by omega)) (by rfl) D_place_in.g D_place_in.F.kp D_place_in.b .nil pass0 (pa_cons (pe_ix ix_list (pv 10) pe_int (fun _ _ => rfl)) (pa_cons (pe_ix ix_list (pv 10) pe_int (fun _ _ => rfl)) (pa_cons (pe_ix ix_list (pv 10) pe_int (fun _ _ => rfl)) pa_nil)))))
      (pss_cons (ps_set (i := 12) sc_law.nd rfl (.inl rfl) (pe_call G_law_due (hr.mono (by omega)) (by rfl) D_law_due.g D_law_due.F.kp D_law_due.b .nil pass0 (pa_cons (pv 4) (pa_cons (pv 8) (pa_cons (pv 9) pa_nil)))))
      (C8.pss_cut (ps_if (PW.pt (pw_or (pt_cmpR (op_neD hr.units) (pe_ix ix_list (pv 10) pe_int (fun _ _ => rfl)) (pv 4) (nomark _)) (pw_or (pt_cmpR (op_neD hr.units) (pe_ix ix_list (pv 10) pe_int (fun _ _ => rfl)) (pv 8) (nomark _)) (pw_or1 (pt_cmpR (op_neD hr.units) (pe_ix ix_list (pv 10) pe_int (fun _ _ => rfl)) (pv 9) (nomark _)))))) (pss_one (ps_ret pe_bl)) pss_nil)
      (C8.pss_cut (ps_if (PW.pt (pw_or (pt_cmpR op_ne (pe_call G_place_in (hr.mono (by omega)) (by rfl) D_place_in.g D_place_in.F.kp D_place_in.b .nil pass0 (pa_cons (pe_callTy call_list_of (by rfl) m_list (by decide +kernel) (pa_cons (pv 4) pa_nil)) (pa_cons (pe_lst pa_nil) (pa_cons (pe_lst pa_nil) pa_nil)))) (pe_callB call_len_seq (by rfl) m_len PySem.boot_len (pa_cons (pv 4) pa_nil)) (nomark _)) (pw_or1 (pt_cmpR op_ne (pe_call G_place_in (hr.mono (by omega)) (by rfl) D_place_in.g D_place_in.F.kp D_place_in.b .nil pass0 (pa_cons (pe_callTy call_list_of (by rfl) m_list (by decide +kernel) (pa_cons (pv 4) pa_nil)) (pa_cons (pe_lst pa_nil) (pa_cons (pe_callTy call_list_of (by rfl) m_list (by decide +kernel) (pa_cons (pv 4) pa_nil)) pa_nil)))) pe_int (nomark _))))) (pss_one (ps_ret pe_bl)) pss_nil)
      (pss_cons (ps_set (i := 13) sc_law.nd rfl (.inl rfl) (pe_call G_place_in (hr.mono (by omega)) (by rfl) D_place_in.g D_place_in.F.kp D_place_in.b .nil pass0 (pa_cons (pe_ix ix_list (pv 10) pe_int (fun _ _ => rfl)) (pa_cons (pe_ix ix_list (pv 10) pe_int (fun _ _ => rfl)) (pa_cons (pe_ix ix_list (pv 10) pe_int (fun _ _ => rfl)) pa_nil)))))
      (C8.pss_cut (ps_if (pt_cmpR op_isN (pv 12) pe_non (nomark _)) (pss_one (ps_ret (pe_and (pe_cmpR op_isN (pv 11) pe_non (nomark _)) (pe_one (pe_cmpR op_isN (pv 13) pe_non (nomark _)))))) pss_nil)
      (pss_one (ps_ret (pe_and (pe_call G_law_whole (hr.mono (by omega)) (by rfl) D_law_whole.g D_law_whole.F.kp D_law_whole.b .nil pass0 (pa_cons (pv 11) pa_nil)) (pe_and (pe_cmpR op_eq (pv 11) (pv 12) (nomark _)) (pe_and (pe_call G_law_whole (hr.mono (by omega)) (by rfl) D_law_whole.g D_law_whole.F.kp D_law_whole.b .nil pass0 (pa_cons (pv 13) pa_nil)) (pe_one (pe_cmpR op_eq (pv 13) (pv 12) (nomark _)))))))))))))))))))))))))), ?_⟩
    have cellAt : ∀ (j : Nat) (H' : Hp) (σ : L2.St) (R : VK), σ[0]? = some (some (.ref a)) → Same H H' → R (.int (cellOf ns j)) H' → tCall (spCell K) [] E0 (tCons (tVar 0) (tCons (tC (.int (j : Nat))) tNil)) σ H' R :=
      fun j H' σ R h0 hs hR => ⟨_, h0, a, ns, j, rfl, hs.seq hS, hR⟩
    have nat : ∀ (z : Int) (k : Int), 0 < k → ∃ n : Nat, z % k = (n : Int) ∧ (n : Int) < k := fun z k hk => by
      have h0 : 0 ≤ z % k := Int.emod_nonneg _ (by omega)
      have h1 : z % k < k := Int.emod_lt_of_pos _ hk
      exact ⟨(z % k).toNat, by omega, by omega⟩
    -- sizes
    refine cellAt 0 _ _ _ rfl (Same.refl H) ⟨_, _, rfl, rfl, (by show (0 : Int) < 8; decide), ?_⟩
    refine cellAt 5 _ _ _ rfl (Same.refl H) ⟨_, _, rfl, rfl, (by show (0 : Int) < 5; decide), ?_⟩
    refine cellAt 6 _ _ _ rfl (Same.refl H) ⟨_, _, rfl, rfl, (by show (0 : Int) < 4; decide), small_line (by show 2 ≤ 1000000; decide), fun p1 n1 => ?_⟩
    refine ⟨fun σ H' => Same H H' ∧ ∃ (p : Addr) (z m1 m2 : Nat), z < 60 ∧ m1 < 60 ∧ m2 < 60 ∧ H' p = some (.lst [.int (m1 : Nat), .int (m2 : Nat)]) ∧
      σ = [some (.ref a), some (.int (z : Nat)), some (.ref p), none, none, none, none, none, none, none, none, none, none, none, none], ?_, ?_⟩
    · have s1 := same_new (o := .lst [.int (cellOf ns 5 % 5), .int (cellOf ns 6 % 4)]) n1
      refine cellAt 0 _ _ _ rfl s1 ⟨_, _, rfl, rfl, ⟨by decide, by decide⟩, _, _, rfl, rfl, (by show (0 : Int) < 4; decide), rfl, _, rfl, ite2 (fun e => ?_) (fun e => ?_)⟩
      · refine cellAt 15 _ _ _ rfl s1 ⟨_, _, rfl, rfl, (by show (0 : Int) < 60; decide), ?_⟩
        refine cellAt 5 _ _ _ rfl s1 ⟨_, _, rfl, rfl, (by show (0 : Int) < 60; decide), ?_⟩
        refine cellAt 6 _ _ _ rfl s1 ⟨_, _, rfl, rfl, (by show (0 : Int) < 60; decide), small_line (by show 2 ≤ 1000000; decide), fun p2 n2 => ?_⟩
        obtain ⟨z, hz, hz2⟩ := nat (cellOf ns 15) 60 (by decide)
        obtain ⟨x, hx, hx2⟩ := nat (cellOf ns 5) 60 (by decide)
        obtain ⟨y, hy, hy2⟩ := nat (cellOf ns 6) 60 (by decide)
        refine ⟨s1.trans (same_new n2), p2, z, x, y, by omega, by omega, by omega, ?_, ?_⟩
        · rw [← hx, ← hy]
          exact upd_same
        · rw [← hz]
          rfl
      · obtain ⟨z, hz, hz2⟩ := nat (cellOf ns 0) 8 (by decide)
        obtain ⟨x, hx, hx2⟩ := nat (cellOf ns 5) 5 (by decide)
        obtain ⟨y, hy, hy2⟩ := nat (cellOf ns 6) 4 (by decide)
        refine ⟨s1, p1, z, x, y, by omega, by omega, by omega, ?_, ?_⟩
        · rw [← hx, ← hy]
          exact upd_same
        · rw [← hz]
          rfl
    rintro σ1 H1 ⟨s1, p, z, m1, m2, hz, hm1, hm2, hp, rfl⟩
    -- the row
    obtain ⟨st, hst, hst2⟩ := nat (cellOf ns 1) 60 (by decide)
    refine cellAt 1 _ _ _ rfl s1 ⟨_, _, rfl, rfl, (by show (0 : Int) < 60; decide), _, _, rfl, rfl, ?_⟩
    refine ⟨fun σ H' => Same H H' ∧ H' p = some (.lst [.int (m1 : Nat), .int (m2 : Nat)]) ∧ ∃ (r : Addr) (row : List Int), row.length = z ∧ row.Nodup ∧ H' r = some (.lst (row.map V.int)) ∧
      σ = [some (.ref a), some (.int (z : Nat)), some (.ref p), some (.int (1 + cellOf ns 1 % 60)), some (.ref r), none, none, none, none, none, none, none, none, none, none], ?_, ?_⟩
    · refine ⟨_, rfl, (z : Int), rfl, by omega, by omega, fun D nD => lc_range (lo := 0) (n := _) (fun i H' => Same H1 H' ∧ H' D = some (.lst (((List.range i).map fun k : Nat => cellOf ns 2 % 1000 + (k : Int) * (1 + cellOf ns 1 % 60) % 61).map V.int)))
        ⟨same_new nD, upd_same⟩ ?_ ?_⟩
      · rintro i H' hi ⟨s2, hD⟩
        refine ⟨rfl, ?_⟩
        refine cellAt 2 _ _ _ rfl (s1.trans s2) ⟨_, _, rfl, rfl, (by show (0 : Int) < 1000; decide), _, rfl, _, rfl, _, _, rfl, rfl, .inl ⟨by omega, by omega⟩, _, _, rfl, rfl, (by show (0 : Int) < 61; decide), _, _, rfl, rfl, _, hD, ?_, ?_, ?_⟩
        · rw [List.length_map, List.length_map, List.length_range]
          exact Nat.lt_of_le_of_lt (by omega : i ≤ 1000000) (by decide)
        · intro c o e
          rw [upd_ne (ne_of_none e nD)]
          exact s2 c o e
        · rw [upd_same, List.range_succ, List.map_append, List.map_append, Int.zero_add]
          rfl
      · rintro H' ⟨s2, hD⟩
        rw [Int.toNat_natCast] at hD
        refine ⟨s1.trans s2, s2 _ _ hp, D, _, ?_, ?_, hD, rfl⟩
        · rw [List.length_map, List.length_range]
        · refine List.pairwise_map.mpr (List.Pairwise.imp_of_mem ?_ List.nodup_range)
          intro i j hi hj hij e
          have hi2 := List.mem_range.mp hi
          have hj2 := List.mem_range.mp hj
          refine hij (mul61 (s := 1 + st) (by omega) (by omega) (by omega) (by omega) ?_)
          rw [hst] at e
          have e1 : (i : Int) * (1 + (st : Int)) % 61 = ((i * (1 + st) % 61 : Nat) : Int) := by
            rw [Int.natCast_emod, Int.natCast_mul, Int.natCast_add]
            rfl
          have e2 : (j : Int) * (1 + (st : Int)) % 61 = ((j * (1 + st) % 61 : Nat) : Int) := by
            rw [Int.natCast_emod, Int.natCast_mul, Int.natCast_add]
            rfl
          rw [e1, e2] at e
          omega
    rintro σ2 H2 ⟨s2, hp2, r, row, hrl, hrn, hr2, rfl⟩
    -- low and high
    obtain ⟨ct, hct, hct2⟩ := nat (cellOf ns 3) ((z : Int) + 1) (by omega)
    have hfm : (cellOf ns 3).fmod ((z : Int) + 1) = (ct : Int) := by
      rw [Int.fmod_eq_emod_of_nonneg _ (by omega)]
      exact hct
    refine cellAt 3 _ _ _ rfl s2 ⟨_, rfl, _, _, rfl, rfl, _, _, rfl, rfl, (by omega), ?_⟩
    refine ⟨_, rfl, _, rfl, _, rfl, r, _, rfl, SqL.of hr2, fun p3 n3 => ?_⟩
    have s3 := same_new (o := .lst (cutV (row.map V.int) none (some ((cellOf ns 3).fmod ((z : Int) + 1))))) n3
    refine ⟨_, rfl, _, rfl, _, rfl, r, _, rfl, SqL.of (s3 _ _ hr2), fun p4 n4 => ?_⟩
    have s4 := same_new (o := .lst (cutV (row.map V.int) (some ((cellOf ns 3).fmod ((z : Int) + 1))) none)) n4
    have h3 := upd_same (H := H2) (a := p3) (o := .lst (cutV (row.map V.int) none (some ((cellOf ns 3).fmod ((z : Int) + 1)))))
    refine ⟨fun σ H' => Same H2 H' ∧ ∃ (l g : Addr) (ls gs : List Int), (∀ x ∈ ls, x ∈ row) ∧ (∀ x ∈ gs, x ∈ row) ∧ H' l = some (.lst (ls.map V.int)) ∧ H' g = some (.lst (gs.map V.int)) ∧
      σ = [some (.ref a), some (.int (z : Nat)), some (.ref p), some (.int (1 + cellOf ns 1 % 60)), some (.ref r), some (.int ((cellOf ns 3).fmod ((z : Int) + 1))), some (.ref l), some (.ref g), none, none, none, none, none, none, none], ?_, ?_⟩
    · refine cellAt 4 _ _ _ rfl (s2.trans (s3.trans s4)) ⟨_, _, rfl, rfl, (by show (0 : Int) < 3; decide), rfl, _, rfl, ite2 (fun e => ?_) (fun e => ?_)⟩
      · exact ⟨_, rfl, _, rfl, s3.trans s4, r, r, row, row, fun x h => h, fun x h => h, (s3.trans s4) _ _ hr2, (s3.trans s4) _ _ hr2, rfl⟩
      · refine ⟨s3.trans s4, p3, p4, row.take ct, row.drop ct, fun x h => List.mem_of_mem_take h, fun x h => List.mem_of_mem_drop h, ?_, ?_, rfl⟩
        · have e1 := s4 _ _ h3
          rw [hfm, cutV_to row ct (by omega)] at e1
          rw [hfm, cutV_to row ct (by omega)]
          exact e1
        · rw [upd_same, hfm, cutV_from row ct (by omega)]
    rintro σ3 H3 ⟨s5, l, g, ls, gs, hls, hgs, hl, hg, rfl⟩
    have s6 := s2.trans s5
    refine ⟨_, rfl, _, rfl, p, _, _, _, rfl, rfl, SqL.of (s5 _ _ hp2), atI_nat (j := 0) rfl, _, rfl, a, l, ns, ls, 7, m1, rfl, s6.seq hS, hl, (by decide), by omega, fun pa as H4 s7 na ha hal hai => ?_⟩
    refine ⟨_, rfl, _, rfl, p, _, _, _, rfl, rfl, SqL.of (s7 _ _ (s5 _ _ hp2)), atI_nat (j := 1) rfl, _, rfl, a, g, ns, gs, 11, m2, rfl, (s6.trans s7).seq hS, s7 _ _ hg, (by decide), by omega, fun pb bs H5 s8 nb hb hbl hbi => ?_⟩
    have r5 := (s5.trans (s7.trans s8)) _ _ hr2
    have hT5 := TabG.same hT (s6.trans (s7.trans s8))
    have a5 := s8 _ _ ha
    have ham : ∀ x ∈ as, x ∈ row := fun x hx => hls x (hai x hx)
    have hbm : ∀ x ∈ bs, x ∈ row := fun x hx => hgs x (hbi x hx)
    -- handed
    refine ⟨fun σ H' => Same H5 H' ∧ ∃ (t x y u : Addr), H' x = some (.lst (row.map V.int)) ∧ H' y = some (.lst (as.map V.int)) ∧ H' u = some (.lst (bs.map V.int)) ∧ H' t = some (.lst [.ref x, .ref y, .ref u]) ∧
      σ = [some (.ref a), some (.int (z : Nat)), some (.ref p), some (.int (1 + cellOf ns 1 % 60)), some (.ref r), some (.int ((cellOf ns 3).fmod ((z : Int) + 1))), some (.ref l), some (.ref g), some (.ref pa), some (.ref pb), some (.ref t), none, none, none, none], ?_, ?_⟩
    · refine ⟨_, rfl, r, _, rfl, .inl (SqL.of r5), fun x nx => ?_⟩
      have t1 := same_new (o := .lst (row.map V.int)) nx
      refine ⟨_, rfl, pa, _, rfl, .inl (SqL.of (t1 _ _ a5)), fun y ny => ?_⟩
      have t2 := same_new (o := .lst (as.map V.int)) ny
      refine ⟨_, rfl, pb, _, rfl, .inl (SqL.of (t2 _ _ (t1 _ _ hb))), fun u nu => ?_⟩
      have t3 := same_new (o := .lst (bs.map V.int)) nu
      refine ⟨small_line (by show 3 ≤ 1000000; decide), fun t nt => ?_⟩
      have t4 := same_new (o := .lst [.ref x, .ref y, .ref u]) nt
      exact ⟨t1.trans (t2.trans (t3.trans t4)), t, x, y, u, t4 _ _ (t3 _ _ (t2 _ _ upd_same)), t4 _ _ (t3 _ _ upd_same), t4 _ _ upd_same, upd_same, rfl⟩
    rintro σ4 H6 ⟨s9, t, x, y, u, hx, hy, hu, ht, rfl⟩
    have hT6 := TabG.same hT5 s9
    have T0 : ∀ {H' : Hp}, SameT T H6 H' → SqL K H' t [.ref x, .ref y, .ref u] := fun s => SqL.of (s.lst hT6 ht)
    have S0 := SameT.refl hT6
    refine ⟨_, rfl, t, _, _, _, rfl, rfl, T0 S0, atI_nat (j := 0) rfl, _, rfl, t, _, _, _, rfl, rfl, T0 S0, atI_nat (j := 1) rfl, _, rfl, t, _, _, _, rfl, rfl, T0 S0, atI_nat (j := 2) rfl,
      x, y, u, row, as, bs, rfl, hx, hy, hu, hrn, ham, hbm, by omega, small_line (by omega), small_line (by omega), hT6, fun H7 u1 => ?_⟩
    have R7 := (SameT.of hT5 s9).trans u1
    refine ⟨_, rfl, _, rfl, _, rfl, r, pa, pb, row, as, bs, rfl, R7.lst hT5 r5, R7.lst hT5 a5, R7.lst hT5 hb, by omega, hal, hbl, fun H8 u2' => ?_⟩
    have u2 := SameT.of u1.tab u2'
    have R8 := R7.trans u2
    have U8 := u1.trans u2
    -- the lists stay
    refine ⟨fun σ H' => SameT T H8 H' ∧ σ = [some (.ref a), some (.int (z : Nat)), some (.ref p), some (.int (1 + cellOf ns 1 % 60)), some (.ref r), some (.int ((cellOf ns 3).fmod ((z : Int) + 1))), some (.ref l), some (.ref g), some (.ref pa), some (.ref pb), some (.ref t), some (placeV row as bs), some (placeV row as bs), none, none], ?_, ?_⟩
    · refine ⟨_, rfl, t, _, _, _, rfl, rfl, T0 U8, atI_nat (j := 0) rfl, _, rfl, ne_ints (SqL.of (U8.lst hT6 hx)) (SqL.of (R8.lst hT5 r5)) ⟨_, rfl, ?_⟩⟩
      rw [decide_eq_true rfl]
      refine iteF ⟨_, rfl, t, _, _, _, rfl, rfl, T0 U8, atI_nat (j := 1) rfl, _, rfl, ne_ints (SqL.of (U8.lst hT6 hy)) (SqL.of (R8.lst hT5 a5)) ⟨_, rfl, ?_⟩⟩
      rw [decide_eq_true rfl]
      refine iteF ⟨_, rfl, t, _, _, _, rfl, rfl, T0 U8, atI_nat (j := 2) rfl, _, rfl, ne_ints (SqL.of (U8.lst hT6 hu)) (SqL.of (R8.lst hT5 hb)) ⟨_, rfl, ?_⟩⟩
      rw [decide_eq_true rfl]
      exact iteF ⟨SameT.refl R8.tab, rfl⟩
    rintro σ5 H9 ⟨u3, rfl⟩
    have R9 := R8.trans u3
    -- none behind; all behind
    refine ⟨fun σ H' => SameT T H9 H' ∧ σ = [some (.ref a), some (.int (z : Nat)), some (.ref p), some (.int (1 + cellOf ns 1 % 60)), some (.ref r), some (.int ((cellOf ns 3).fmod ((z : Int) + 1))), some (.ref l), some (.ref g), some (.ref pa), some (.ref pb), some (.ref t), some (placeV row as bs), some (placeV row as bs), none, none], ?_, ?_⟩
    · refine ⟨_, rfl, r, _, rfl, .inl (SqL.of (R9.lst hT5 r5)), fun b1 k1 => ⟨Nat.zero_le _, fun b2 k2 => ⟨Nat.zero_le _, fun b3 k3 => ?_⟩⟩⟩
      have v1 := same_new (o := .lst (row.map V.int)) k1
      have v2 := same_new (o := .lst []) k2
      have v3 := same_new (o := .lst []) k3
      refine ⟨b1, b2, b3, row, [], [], rfl, v3 _ _ (v2 _ _ upd_same), v3 _ _ upd_same, upd_same, hrn, (fun x h => by cases h), (fun x h => by cases h), by omega, Nat.zero_le _, Nat.zero_le _, TabG.same R9.tab (v1.trans (v2.trans v3)), fun H10 v4 => ?_⟩
      have W := (SameT.of R9.tab (v1.trans (v2.trans v3))).trans v4
      have e0 : placeV row [] [] = .int (row.length : Nat) := by
        unfold placeV
        rw [findIdx_none]
        rfl
      rw [e0]
      refine ⟨_, rfl, r, _, rfl, .inl (SqL.of ((R9.trans W).lst hT5 r5)), rfl, _, rfl, ?_⟩
      rw [List.length_map, decide_eq_true rfl]
      refine iteF ⟨_, rfl, r, _, rfl, .inl (SqL.of ((R9.trans W).lst hT5 r5)), fun b4 k4 => ⟨Nat.zero_le _, fun b5 k5 => ⟨_, rfl, r, row.map V.int, rfl, .inl (SqL.of ?_), fun b6 k6 => ?_⟩⟩⟩
      · exact (same_new k5) _ _ ((same_new k4) _ _ ((R9.trans W).lst hT5 r5))
      have w1 := same_new (o := .lst (row.map V.int)) k4
      have w2 := same_new (o := .lst []) k5
      have w3 := same_new (o := .lst (row.map V.int)) k6
      refine ⟨b4, b5, b6, row, [], row, rfl, w3 _ _ (w2 _ _ upd_same), w3 _ _ upd_same, upd_same, hrn, (fun x h => by cases h), (fun x h => h), by omega, Nat.zero_le _, small_line (by omega), TabG.same W.tab (w1.trans (w2.trans w3)), fun H11 w4 => ?_⟩
      have e1 : placeV row [] row = .int 0 := by
        unfold placeV
        rw [findIdx_all]
        rfl
      rw [e1]
      refine ⟨rfl, _, rfl, ?_⟩
      rw [decide_eq_true rfl]
      exact iteF ⟨W.trans ((SameT.of W.tab (w1.trans (w2.trans w3))).trans w4), rfl⟩
    rintro σ6 H12 ⟨u4, rfl⟩
    have U12 := U8.trans (u3.trans u4)
    refine ⟨_, rfl, t, _, _, _, rfl, rfl, T0 U12, atI_nat (j := 0) rfl, _, rfl, t, _, _, _, rfl, rfl, T0 U12, atI_nat (j := 1) rfl, _, rfl, t, _, _, _, rfl, rfl, T0 U12, atI_nat (j := 2) rfl,
      x, y, u, row, as, bs, rfl, U12.lst hT6 hx, U12.lst hT6 hy, U12.lst hT6 hu, hrn, ham, hbm, by omega, small_line (by omega), small_line (by omega), U12.tab, fun H13 u5 => ?_⟩
    refine ⟨fun σ H' => placeV row as bs = .int (placeOf row bs : Nat) ∧ σ = [some (.ref a), some (.int (z : Nat)), some (.ref p), some (.int (1 + cellOf ns 1 % 60)), some (.ref r), some (.int ((cellOf ns 3).fmod ((z : Int) + 1))), some (.ref l), some (.ref g), some (.ref pa), some (.ref pb), some (.ref t), some (placeV row as bs), some (placeV row as bs), some (placeV row as bs), none], ?_, ?_⟩
    · refine ⟨_, rfl, rfl, _, rfl, ?_⟩
      rcases placeV_val row as bs with hv | hv
      · rw [hv]
        exact iteT ⟨_, rfl, rfl, _, rfl, iteT ⟨_, rfl, rfl, q _⟩⟩
      · rw [hv]
        exact iteF ⟨rfl, rfl⟩
    rintro σ7 H14 ⟨hv, rfl⟩
    rw [hv]
    refine ⟨_, rfl, _, rfl, .int _, _, rfl, iteT ⟨_, rfl, _, rfl, rfl, _, rfl, ?_⟩⟩
    rw [decide_eq_true rfl]
    refine iteT ⟨_, rfl, _, rfl, .int _, _, rfl, iteT ⟨_, rfl, _, rfl, rfl, ?_⟩⟩
    rw [decide_eq_true rfl]
    exact q _
end
end Kt


namespace Kt
open PySem PySem.Spec PyProof.Rows L2 GxR Kr
section
variable {P : Program} {w : World} {K : PySem.W.Frag} {mg : Str → Option Value} {base : Heap}
theorem at_row : ∀ {row : List Int} {k : Nat} {x : Int}, row.Nodup → row[k]? = some x → row.findIdx (fun y => decide (y = x)) = k := fun {row k x} hn hk => by
  obtain ⟨lt, e⟩ := List.getElem?_eq_some_iff.mp hk
  refine (List.findIdx_eq lt).mpr ⟨by rw [e]; exact decide_eq_true rfl, fun j hj => decide_eq_false fun z => ?_⟩
  exact (List.pairwise_iff_getElem.mp hn) j k (Nat.lt_trans hj lt) lt hj (z.trans e.symm)
theorem snocI {α : Type} {P : List α → Prop} (h0 : P []) (h1 : ∀ a x, P a → P (a ++ [x])) : ∀ l, P l := fun l => by
  rw [← List.reverse_reverse l]
  generalize l.reverse = r
  induction r with
  | nil => exact h0
  | cons x r ih =>
    rw [List.reverse_cons]
    exact h1 _ _ ih
/-- where a number stands -/
def idxI (row : List Int) (x : Int) : Nat := row.findIdx fun y => decide (y = x)
theorem idxI_lt {row : List Int} {x : Int} (h : x ∈ row) : idxI row x < row.length := List.findIdx_lt_length.mpr ⟨x, h, decide_eq_true rfl⟩
theorem idxI_at {row : List Int} {x : Int} (h : x ∈ row) : row[idxI row x]? = some x := by
  have lt := idxI_lt h
  have e : decide (row[idxI row x] = x) = true := List.findIdx_getElem (w := lt) (p := fun y => decide (y = x))
  rw [List.getElem?_eq_getElem lt, of_decide_eq_true e]
def atMap (row : List Int) : List (Key × V) := row.zipIdx.map fun q => ((Sum.inl q.1 : Key), V.int (q.2 : Nat))
theorem atMap_snoc (a : List Int) (x : Int) : atMap (a ++ [x]) = atMap a ++ [((Sum.inl x : Key), V.int (a.length : Nat))] := by
  unfold atMap
  rw [List.zipIdx_append, List.map_append, Nat.zero_add]
  rfl
theorem atMap_len (a : List Int) : (atMap a).length = a.length := by
  unfold atMap
  rw [List.length_map, List.length_zipIdx]
theorem atMap_val (x : Int) : ∀ a : List Int, a.Nodup → valV (atMap a) (Sum.inl x : Key) = if x ∈ a then some (V.int (idxI a x : Nat)) else none := by
  refine snocI (fun _ => rfl) fun a y ih => ?_
  · intro h
    rw [List.nodup_append] at h
    obtain ⟨h1, _, h3⟩ := h
    rw [atMap_snoc]
    have e0 : valV (atMap a ++ [((Sum.inl y : Key), V.int (a.length : Nat))]) (Sum.inl x : Key) = match valV (atMap a) (Sum.inl x : Key) with
      | some v => some v
      | none => if y = x then some (V.int (a.length : Nat)) else none := by
      unfold valV
      rw [List.find?_append]
      cases hf : (atMap a).find? (fun kv => decide (kv.1 = (Sum.inl x : Key))) with
      | some q => rfl
      | none =>
        rw [Option.none_or]
        by_cases e : y = x
        · rw [if_pos e, List.find?_cons_of_pos (by rw [e]; exact decide_eq_true rfl)]
          rfl
        · rw [if_neg e, List.find?_cons_of_neg (by intro z; exact e (Sum.inl.inj (of_decide_eq_true z)))]
          rfl
    rw [e0, ih h1]
    by_cases hx : x ∈ a
    · have e1 : idxI (a ++ [y]) x = idxI a x := by
        have lt : List.findIdx (fun z => decide (z = x)) a < a.length := idxI_lt hx
        unfold idxI
        rw [List.findIdx_append, if_pos lt]
      rw [if_pos hx, if_pos (List.mem_append_left _ hx), e1]
    · by_cases e : y = x
      · have e1 : ¬ List.findIdx (fun z => decide (z = x)) a < a.length := fun z => by
          obtain ⟨u, hu, hu2⟩ := List.findIdx_lt_length.mp z
          rw [of_decide_eq_true hu2] at hu
          exact hx hu
        have e2 : List.findIdx (fun z => decide (z = x)) [y] = 0 := by
          rw [List.findIdx_cons, decide_eq_true e, cond_true]
        have e3 : idxI (a ++ [y]) x = a.length := by
          unfold idxI
          rw [List.findIdx_append, if_neg e1, e2, Nat.zero_add]
        rw [if_neg hx, if_pos (show x ∈ a ++ [y] by rw [← e]; exact List.mem_append_right _ List.mem_cons_self), e3, if_pos e]
      · rw [if_neg hx, if_neg (fun z : x ∈ a ++ [y] => by
          rcases List.mem_append.mp z with z | z
          · exact hx z
          · exact e (List.mem_singleton.mp z).symm)]
        show (if y = x then some (V.int (a.length : Nat)) else none) = none
        rw [if_neg e]
theorem placeOf_min {row behind : List Int} (hn : row.Nodup) (hb : ∀ x ∈ behind, x ∈ row) {m : Nat} (hm : ∃ x ∈ behind, m = idxI row x) (hl : ∀ x ∈ behind, m ≤ idxI row x) : placeOf row behind = m := by
  obtain ⟨x, hx, rfl⟩ := hm
  have lt := idxI_lt (hb x hx)
  unfold placeOf
  refine (List.findIdx_eq lt).mpr ⟨?_, fun j hj => decide_eq_false fun z => ?_⟩
  · have e := idxI_at (hb x hx)
    rw [List.getElem?_eq_getElem lt] at e
    rw [Option.some.inj e]
    exact decide_eq_true hx
  · have e := at_row hn (List.getElem?_eq_getElem (Nat.lt_trans hj lt))
    have h2 := hl _ z
    have e2 : idxI row (row[j]'(Nat.lt_trans hj lt)) = j := e
    rw [e2] at h2
    omega
theorem drop_idx {row : List Int} (hn : row.Nodup) {x : Int} {p : Nat} (hx : x ∈ row) : x ∈ row.drop p ↔ p ≤ idxI row x := by
  constructor
  · intro h
    obtain ⟨j, hj, e⟩ := List.getElem_of_mem h
    rw [List.getElem_drop] at e
    rw [List.length_drop] at hj
    have e2 : row[p + j]? = some x := by rw [List.getElem?_eq_getElem (by omega), e]
    have e3 : idxI row x = p + j := at_row hn e2
    omega
  · intro h
    have e := idxI_at hx
    have lt := idxI_lt hx
    rw [List.getElem?_eq_getElem lt] at e
    rw [List.mem_drop_iff_getElem]
    have e3 : row[p + (idxI row x - p)]? = some x := by
      rw [show p + (idxI row x - p) = idxI row x by omega]
      exact idxI_at hx
    rw [List.getElem?_eq_getElem (by omega)] at e3
    exact ⟨idxI row x - p, by omega, Option.some.inj e3⟩
theorem any_some {α : Type} {l : List α} {f : Nat → Bool} {g : α → Bool} (h : ∀ k x, l[k]? = some x → f k = g x) : (List.range l.length).any f = l.any g := by
  rw [Bool.eq_iff_iff, List.any_eq_true, List.any_eq_true]
  constructor
  · rintro ⟨k, hk, e⟩
    have lt := List.mem_range.mp hk
    exact ⟨l[k], List.getElem_mem lt, by rw [← h k _ (List.getElem?_eq_getElem lt)]; exact e⟩
  · rintro ⟨x, hx, e⟩
    obtain ⟨k, lt, rfl⟩ := List.getElem_of_mem hx
    exact ⟨k, List.mem_range.mpr lt, by rw [h k _ (List.getElem?_eq_getElem lt)]; exact e⟩
theorem ok_place_in {f c T : Addr} {fd : FuncData} (F : FunC K "place_in" "place_in" s_place_in f c fd) (TB : TabB base mg c T) (m_enumerate : mg "enumerate" = none) (m_min : mg "min" = none) (m_len : mg "len" = none) (m_any : mg "any" = none) :
    FnOk P w K mg base CX0 1 f fd ["row", "ahead", "behind"] (sp_place_in T) := by
  obtain ⟨oc, od, kV, doc, pm, an, ct, osl, rfl, lk, hcd⟩ := F.ex
  refine fn_of lk hcd sc_place_in (fun vs H Q E h => ?_) fun A outer s H vs Q E hr h => ?_
  · obtain ⟨a, b, d, row, ahead, behind, rfl, _⟩ := h
    rfl
  · obtain ⟨a, b, d, row, ahead, behind, rfl, ha, hb, hd, hn, hah, hbh, l1, l2, l3, hT, q⟩ := h
    have GS : GenS (envOfC "place_in" (defScope s_place_in) s.heap.objs.size f (.ref c)) { kind := .function, names := [((".0" : Str), .local), (("number" : Str), .local), (("at" : Str), .free), (("place" : Str), .free)], isGenerator := true, isCoroutine := false, more := [] } "number" :=
      ⟨rfl, rfl, by decide, rfl, rfl, fun y hy e => by
        have h3 : y = ((".0" : Str), NameKind.local) ∨ y = (("number" : Str), NameKind.local) ∨ y = (("at" : Str), NameKind.free) ∨ y = (("place" : Str), NameKind.free) := by simpa using hy
        rcases h3 with z | z | z | z <;> subst z
        · cases e
        · cases e
        · exact ⟨_, rfl⟩
        · exact ⟨_, rfl⟩⟩
    refine ⟨_, (pss_cons (ps_set (i := 4) sc_place_in.nd rfl (.inr rfl) (pe_dc (own := [("place", 3), ("number", 5)]) (tt := tYes) rfl sc_place_in.nd (pi_enum (by rfl) m_enumerate (pa_cons (pv 0) pa_nil)) (blkOk_by (N := ["row", "ahead", "behind", "place", "at", "number"]) (sc := defScope s_place_in) (by decide +kernel)) (fun _ _ _ _ _ => pg_tupK (K := K) (n := 2) rfl (pgs_cons (pg_name (i := 3) sc_place_in.nd rfl (Or.inl rfl) (.inr rfl)) (pgs_cons (pg_name (i := 5) sc_place_in.nd rfl (Or.inl rfl) (.inr rfl)) pgs_nil))) (fun _ _ _ _ _ => pts_nil) (fun _ _ _ _ _ => (pv 5)) (fun _ _ _ _ _ => (pv 3))))
      (C8.pss_cut (ps_set (i := 3) sc_place_in.nd rfl (.inr rfl) (pe_callBK (cr_minD rfl) (by rfl) m_min (by decide +kernel) (pa_cons (pe_lc (own := [("number", 5)]) (g := gName 5) (tt := tYes) rfl sc_place_in.nd (pi_list (pv 2)) (blkOk_by (N := ["row", "ahead", "behind", "place", "at", "number"]) (sc := defScope s_place_in) (by decide +kernel)) (fun _ _ _ _ _ => pg_name (i := 5) sc_place_in.nd rfl (Or.inl rfl)) (fun _ _ _ _ _ => pts_nil) (fun _ _ _ _ _ => (pe_dget (hu_of hr) (pv 4) (pv 5) (fun _ _ => rfl)))) pa_nil) (pk_cons (pe_callB call_len_seq (by rfl) m_len PySem.boot_len (pa_cons (pv 0) pa_nil)) pk_nil)))
      (pss_cons (ps_if (pt_val (pe_anyQ hr (by rfl) m_any TB rfl GS (pv 1) (src_ge (K := K) (i := 4) (j := 3) rfl rfl rfl rfl (fun _ => rfl) rfl rfl rfl (fun _ => rfl) rfl rfl) (fun _ => rfl))) (pss_one (ps_ret pe_non)) pss_nil)
      (pss_one (ps_ret (pv 3)))))), ?_⟩
    have ml : (row.map V.int).length = row.length := List.length_map _
    refine ⟨_, rfl, a, row.map V.int, rfl, SqL.of ha, fun D nD => dc_it walk_enum (fun i H' => Same H H' ∧ H' D = some (.dK (atMap (row.take i)))) ⟨same_new nD, upd_same⟩ (fun i H' _ h => SqL.of (h.1 _ _ ha)) ?_ ?_⟩
    · rintro i x H1 H2 lt ⟨s1, hD⟩ ⟨tp, x1, x2, rfl, ntp, rfl, e1, e2⟩
      rw [ml] at lt
      have e3 : x2 = V.int row[i] := by
        have e4 : (row.map V.int)[i]? = some x2 := e2
        rw [List.getElem?_map, List.getElem?_eq_getElem lt] at e4
        exact (Option.some.inj e4).symm
      have e5 : x1 = V.int (i : Nat) := (Option.some.inj e1).symm
      subst e3 e5
      have s2 := same_new (o := .tup [V.int (i : Nat), V.int row[i]]) ntp
      have lk2 : (row.take i).length = i := by rw [List.length_take]; omega
      refine ⟨tp, _, rfl, SqT.of upd_same, rfl, _, _, rfl, _, _, rfl, rfl, rfl, _, rfl, _, rfl, atMap (row.take i), Sum.inl row[i], rfl, s2 _ _ hD, ?_, ?_, ?_⟩
      · rw [atMap_len, lk2]
        exact Nat.lt_of_lt_of_le lt (small_line (by omega))
      · intro b o e
        rw [upd_ne (ne_of_none e nD)]
        exact s2 _ _ (s1 _ _ e)
      · rw [upd_same]
        have e6 : valV (atMap (row.take i)) (Sum.inl row[i] : Key) = none := by
          rw [atMap_val _ _ (hn.sublist (List.take_sublist _ _)), if_neg]
          intro z
          obtain ⟨j, hj, e7⟩ := List.mem_take_iff_getElem.mp z
          exact (List.pairwise_iff_getElem.mp hn) j i (by omega) lt (by omega) e7
        have e8 : row.take (i + 1) = row.take i ++ [row[i]] := by rw [List.take_add_one, List.getElem?_eq_getElem lt]; rfl
        rw [e8, atMap_snoc, lk2]
        unfold putK
        rw [valV_any, e6]
        rfl
    · rintro H1 ⟨s1, hD⟩
      rw [ml, List.take_length] at hD
      have val : ∀ x ∈ row, valV (atMap row) (Sum.inl x : Key) = some (V.int (idxI row x : Nat)) := fun x hx => by rw [atMap_val x row hn, if_pos hx]
      refine ⟨fun σ H' => Same H H' ∧ H' D = some (.dK (atMap row)) ∧ σ = [some (.ref a), some (.ref b), some (.ref d), some (.int (placeOf row behind : Nat)), some (.ref D), none], ?_, ?_⟩
      rotate_left
      · rintro σ2 H2 ⟨s2, hD2, rfl⟩
        have hT2 := TabG.same hT s2
        have ee : ∀ k x, ahead[k]? = some x → ((fun k => match ahead[k]? with
            | some x => decide (placeOf row behind ≤ idxI row x)
            | none => false) : Nat → Bool) k = decide (placeOf row behind ≤ idxI row x) := fun k x e => by
          show (match ahead[k]? with
            | some x => decide (placeOf row behind ≤ idxI row x)
            | none => false) = _
          rw [e]
        refine ⟨_, rfl, hT2, ahead.length, (fun k => match ahead[k]? with
            | some x => decide (placeOf row behind ≤ idxI row x)
            | none => false), ⟨b, D, ahead, _, _, rfl, SqL.of (s2 _ _ hb), rfl, rfl, hD2, rfl, fun k x e => ⟨(idxI row x : Nat), ?_, ?_⟩⟩, fun H3 hT3 => ?_⟩
        · rw [atMap_val x row hn, if_pos (hah x (List.mem_of_getElem? e))]
        · rw [ee k x e]
          exact decide_eq_decide.mpr ⟨fun z => by omega, fun z => by omega⟩
        · have s3 := (SameT.of hT s2).trans (SameT.tabbed hT3)
          have pv : placeV row ahead behind = if (List.range ahead.length).any (fun k => match ahead[k]? with
            | some x => decide (placeOf row behind ≤ idxI row x)
            | none => false) = true then .non else .int (placeOf row behind : Nat) := by
            rw [any_some (g := fun x => decide (placeOf row behind ≤ idxI row x)) ee]
            unfold placeV
            by_cases z : ahead.any (fun x => decide (placeOf row behind ≤ idxI row x)) = true
            · rw [if_pos z, if_neg]
              intro e
              obtain ⟨x, hx, h2⟩ := List.any_eq_true.mp z
              have h3 := List.filter_eq_nil_iff.mp e x hx
              exact h3 (decide_eq_true ((drop_idx hn (hah x hx)).mpr (of_decide_eq_true h2)))
            · rw [if_neg z, if_pos]
              rw [List.filter_eq_nil_iff]
              intro x hx h2
              exact z (List.any_eq_true.mpr ⟨x, hx, decide_eq_true ((drop_idx hn (hah x hx)).mp (of_decide_eq_true h2))⟩)
          have q2 := q H3 s3
          rw [pv] at q2
          refine ⟨_, rfl, ite2 (fun e => ?_) (fun e => ?_)⟩
          · rw [if_pos e] at q2
            exact q2
          · rw [if_neg e] at q2
            exact ⟨_, rfl, q2⟩
      refine ⟨_, rfl, d, rfl, ⟨_, SqL.of (s1 _ _ hd)⟩, fun L nL => lc_list (K := K) (a := d) (xs := behind.map V.int) (fun i H' => Same H1 H' ∧ H' L = some (.lst (((behind.take i).map fun x => (idxI row x : Int)).map V.int))) ⟨same_new nL, upd_same⟩ (fun i H' _ h => SqL.of (h.1 _ _ (s1 _ _ hd))) ?_ ?_⟩
      · rintro i x H2 hx ⟨s2, hL⟩
        obtain ⟨y, hy, rfl⟩ : ∃ y, behind[i]? = some y ∧ x = V.int y := by
          rw [List.getElem?_map] at hx
          obtain ⟨y, hy, e⟩ := Option.map_eq_some_iff.mp hx
          exact ⟨y, hy, e.symm⟩
        have hyb := List.mem_of_getElem? hy
        have lt : i < behind.length := (List.getElem?_eq_some_iff.mp hy).1
        refine ⟨rfl, _, rfl, _, rfl, D, V.int (idxI row y : Nat), rfl, ?_, _, hL, ?_, ?_, ?_⟩
        · rw [← val y (hbh y hyb)]
          exact DGet.k (k := Sum.inl y) (s2 _ _ hD)
        · rw [List.length_map, List.length_map, List.length_take]
          omega
        · intro b o e
          rw [upd_ne (ne_of_none e nL)]
          exact s2 _ _ e
        · rw [upd_same, List.take_add_one, hy, List.map_append, List.map_append]
          rfl
      · rintro H2 ⟨s2, hL⟩
        rw [List.length_map, List.take_length] at hL
        refine ⟨_, rfl, a, row.map V.int, rfl, .inl (SqL.of ((s1.trans s2) _ _ ha)), L, _, _, rfl, rfl, SqL.of hL, ?_, ?_⟩
        · intro e
          have e0 : behind = [] := List.map_eq_nil_iff.mp e
          have pl : placeOf row behind = row.length := by rw [e0]; exact findIdx_none
          rw [ml, ← pl]
          exact ⟨s1.trans s2, s2 _ _ hD, rfl⟩
        · intro m hm hle
          obtain ⟨x, hx, ex⟩ := List.mem_map.mp hm
          have pl : placeOf row behind = idxI row x := placeOf_min hn hbh ⟨x, hx, rfl⟩ fun y hy => by
            have z := hle _ (List.mem_map.mpr ⟨y, hy, rfl⟩)
            rw [← ex] at z
            omega
          rw [← ex, ← pl]
          exact ⟨s1.trans s2, s2 _ _ hD, rfl⟩
end
end Kt


namespace Kt
open PySem PySem.Spec PyProof.Rows L2 GxR
/-! ### the end: what stands at the top -/
/-- behind the top, the def of that name has a code object and an empty table -/
def TabOf (x : Str) (mg : Str → Option Value) (h : Heap) : Prop :=
  ∃ (a c T : Addr) (o : Obj) (fd : FuncData), mg x = some (.ref a) ∧ h.get? a = some o ∧ o.data = .func fd ∧ fd.code = .ref c ∧
    PySem.W.CodeHd h c T ∧ h.get? T = some { cls := .none, data := .fields #[] }
theorem walk_tabs {l : PySem.W.OpenLaw} {n k : Nat} {q : Program} {loose : List Str} {XP : (Str → Option Value) → Heap → Prop} {YP : World → Heap → Prop} {d : DefRec}
    {K : Params → PySem.W.Frag} {CX : World → CXT} {x : Str} (nms : List Str)
    (hn : l.most = some n) (hn2 : n ≤ sizeLine) (hdf : d.params.defaults = []) (hr : Room k callerA)
    (hrec : (nms.all fun nm => (recsOf q).any fun r => r.name == nm) = true) (hY : ∀ (w : World) (h : Heap), YP w h → (K w.params).In h)
    (F : ∀ (w : World) (mg : Str → Option Value) (fa : Addr) (h : Heap), YP w h → XP mg h → (K w.params).In h → h.Ns mainGlobals mg →
      mg d.name = some (.ref fa) → (∀ nm ∈ nms, TabOf nm mg h) → LamX.LawAtS l w (K w.params) (CX w) k n x mg fa h)
    (hCX : ∀ (w : World) (H : Hp) (s : Shared) (e : Value) (s' : Shared), CX w [] H s (fun _ _ _ => False) e s' → False) :
    PySem.W.WalkO q loose XP YP l.row.toRowW d [] (fun f vs => PySem.call f vs) := by
  refine Att.attach_callB hn hdf fun w sa sb mg mb fa o pm cd doc a vs ns G Y ho hd hcd hmg hobj hints hlen hbits hg => ?_
  have tab : ∀ nm ∈ nms, TabOf nm mg sb.heap := fun nm hm => by
    obtain ⟨r, hr1, hr2⟩ := List.any_eq_true.mp (List.all_eq_true.mp hrec nm hm)
    obtain ⟨b, ob, fd, c, T, g1, g2, g3, g4, g5, g6⟩ := G.T.tab r hr1
    rw [show r.name = nm from beq_iff_eq.mp hr2] at g1
    exact ⟨b, c, T, ob, fd, g1, g2, g3, g4, .of g5 g6, g6.2⟩
  obtain ⟨fd, cs, sp, t1, t2, t3, t4, t5, t6⟩ := F w mg fa _ Y G.X (hY w _ Y) G.T.g hmg tab
  exact LamX.law_callTs (hY w _ Y) G.T.g G.T.b G.T.builtins G.T.nolimit hg t1 t2 t3 G.T.bmain hobj hints (Nat.le_trans hlen hn2) hr t6 t4
    (fun H hH hS => t5 H a ns hlen hbits hH hS) fun H e s' => hCX w H sb e s'
section
variable {K : PySem.W.Frag} {h : Heap} {mg : Str → Option Value} {x : Str} {st : Stmt} {ps : List Str} {f o t : Addr} {oc : Value} {od an : Option Addr} {osl : Array (Option Value)} {kV dc pm cdv ct : Value}
theorem def_exC (X : K.In h) (G : h.Ns mainGlobals mg) (hb : ∀ (kV doc pm : Value) (an : Option Addr) (cdv ct : Value) (us : List Value), us.length = ps.length →
      bindArgs (PySem.W.fnOf x x (defArgs st) (defBody st) (defScope st) .none kV doc pm an cdv ct) ⟨us, []⟩ = pure (ps.zip us))
    (a : PySem.W.nsIn K mainGlobals x = some (some (.ref f))) (l : K.lookup f = some ⟨oc, od, .func (PySem.W.fnOf x x (defArgs st) (defBody st) (defScope st) .none kV dc pm an (.ref o) ct), osl⟩)
    (c : PySem.W.codeIn K (.ref o) x = true) (k : PySem.W.keepIn K (.ref f) = true) : ∃ D : Def K mg x st ps, D.f = f ∧ FunC K x x st D.f o D.fd :=
  ⟨⟨f, _, fun_mk l c k, (fun_mk (st := st) l c k).binds hb, PySem.W.mg_of X G a⟩, rfl, ⟨⟨oc, od, kV, dc, pm, an, ct, osl, rfl, l, c⟩, k⟩⟩
theorem def_exL (X : K.In h) (G : h.Ns mainGlobals mg) {p : Str} (hb : ∀ (kV doc pm : Value) (an : Option Addr) (cdv ct : Value) (us : List Value), us.length = [p].length →
      bindArgs (PySem.W.fnOf x x (defArgs st) (defBody st) (defScope st) .none kV doc pm an cdv ct) ⟨us, []⟩ = pure ([p].zip us))
    (a : PySem.W.nsIn K mainGlobals x = some (some (.ref f))) (l : K.lookup f = some ⟨oc, od, .func (PySem.W.fnOf x x (defArgs st) (defBody st) (defScope st) .none kV dc pm an cdv ct), osl⟩)
    (c : PySem.W.codeIn K cdv x = true) (k : PySem.W.keepIn K (.ref f) = true) : ∃ D : Def K mg x st [p], D.f = f ∧ ∀ (s : Shared) (u : Value), BindsTo s D.fd ⟨[u], []⟩ [(p, u)] :=
  ⟨⟨f, _, fun_mk l c k, (fun_mk (st := st) l c k).binds hb, PySem.W.mg_of X G a⟩, rfl, fun s u => .of_eq (hb _ _ _ _ _ _ [u] rfl)⟩
theorem tab_at {e : Value} {d : Option Addr} {vs : Array Value} {sl : Array (Option Value)} (X : K.In h) (G : h.Ns mainGlobals mg) (hT : TabOf x mg h)
    (a : PySem.W.nsIn K mainGlobals x = some (some (.ref f))) (l : K.lookup f = some ⟨oc, od, .func (PySem.W.fnOf x x (defArgs st) (defBody st) (defScope st) .none kV dc pm an (.ref o) ct), osl⟩)
    (o1 : K.lookup o = some ⟨e, d, .fields vs, sl⟩) (o2 : vs[11]? = some (.ref t)) : PySem.W.CodeHd h o t ∧ h.get? t = some { cls := .none, data := .fields #[] } := by
  obtain ⟨fq, cq, tq, oq, fdq, q1, q2, q3, q4, q5, q6⟩ := hT
  rw [PySem.W.mg_of X G a] at q1
  cases q1
  rw [X _ _ l] at q2
  cases q2
  cases q3
  cases q4
  have et : tq = t := by
    obtain ⟨u, ws, _, _, _, _, _, _, _, e1, _, e2, e3, _⟩ := q5
    rw [X _ _ o1] at e1
    cases e1
    cases e2
    rw [o2] at e3
    cases e3
    rfl
  subst et
  exact ⟨q5, q6⟩
end
end Kt

namespace Kt
open PySem PySem.Spec PyProof.Rows L2 GxR Kr

theorem all_mk {l : PySem.W.OpenLaw} {w : World} {K : PySem.W.Frag} {h : Heap} {mg : Str → Option Value} {fa : Addr} (X : K.In h) (G : h.Ns mainGlobals mg) (hfa : mg "law" = some (.ref fa)) (hT : ∀ nm ∈ (["place_in"] : List Str), TabOf nm mg h)
    {f_place_in : Addr} {od_place_in an_place_in : Option Addr} {sl_place_in : Array (Option Value)} {oc_place_in kV_place_in dc_place_in pm_place_in ct_place_in : Value} {o_place_in : Addr}
    (a_place_in : PySem.W.nsIn K mainGlobals "place_in" = some (some (.ref f_place_in)))
    (l_place_in : K.lookup f_place_in = some ⟨oc_place_in, od_place_in, .func (PySem.W.fnOf "place_in" "place_in" (defArgs s_place_in) (defBody s_place_in) (defScope s_place_in) .none kV_place_in dc_place_in pm_place_in an_place_in (.ref o_place_in) ct_place_in), sl_place_in⟩)
    (c_place_in : PySem.W.codeIn K (.ref o_place_in) "place_in" = true) (k_place_in : PySem.W.keepIn K (.ref f_place_in) = true)
    {f_law_whole : Addr} {od_law_whole an_law_whole : Option Addr} {sl_law_whole : Array (Option Value)} {oc_law_whole kV_law_whole dc_law_whole pm_law_whole ct_law_whole : Value} {cd_law_whole : Value}
    (a_law_whole : PySem.W.nsIn K mainGlobals "_law_whole" = some (some (.ref f_law_whole)))
    (l_law_whole : K.lookup f_law_whole = some ⟨oc_law_whole, od_law_whole, .func (PySem.W.fnOf "_law_whole" "_law_whole" (defArgs s_law_whole) (defBody s_law_whole) (defScope s_law_whole) .none kV_law_whole dc_law_whole pm_law_whole an_law_whole cd_law_whole ct_law_whole), sl_law_whole⟩)
    (c_law_whole : PySem.W.codeIn K cd_law_whole "_law_whole" = true) (k_law_whole : PySem.W.keepIn K (.ref f_law_whole) = true)
    {f_law_cell_at : Addr} {od_law_cell_at an_law_cell_at : Option Addr} {sl_law_cell_at : Array (Option Value)} {oc_law_cell_at kV_law_cell_at dc_law_cell_at pm_law_cell_at ct_law_cell_at : Value} {cd_law_cell_at : Value}
    (a_law_cell_at : PySem.W.nsIn K mainGlobals "_law_cell_at" = some (some (.ref f_law_cell_at)))
    (l_law_cell_at : K.lookup f_law_cell_at = some ⟨oc_law_cell_at, od_law_cell_at, .func (PySem.W.fnOf "_law_cell_at" "_law_cell_at" (defArgs s_law_cell_at) (defBody s_law_cell_at) (defScope s_law_cell_at) .none kV_law_cell_at dc_law_cell_at pm_law_cell_at an_law_cell_at cd_law_cell_at ct_law_cell_at), sl_law_cell_at⟩)
    (c_law_cell_at : PySem.W.codeIn K cd_law_cell_at "_law_cell_at" = true) (k_law_cell_at : PySem.W.keepIn K (.ref f_law_cell_at) = true)
    {f_law_some : Addr} {od_law_some an_law_some : Option Addr} {sl_law_some : Array (Option Value)} {oc_law_some kV_law_some dc_law_some pm_law_some ct_law_some : Value} {cd_law_some : Value}
    (a_law_some : PySem.W.nsIn K mainGlobals "_law_some" = some (some (.ref f_law_some)))
    (l_law_some : K.lookup f_law_some = some ⟨oc_law_some, od_law_some, .func (PySem.W.fnOf "_law_some" "_law_some" (defArgs s_law_some) (defBody s_law_some) (defScope s_law_some) .none kV_law_some dc_law_some pm_law_some an_law_some cd_law_some ct_law_some), sl_law_some⟩)
    (c_law_some : PySem.W.codeIn K cd_law_some "_law_some" = true) (k_law_some : PySem.W.keepIn K (.ref f_law_some) = true)
    {f_law_due : Addr} {od_law_due an_law_due : Option Addr} {sl_law_due : Array (Option Value)} {oc_law_due kV_law_due dc_law_due pm_law_due ct_law_due : Value} {cd_law_due : Value}
    (a_law_due : PySem.W.nsIn K mainGlobals "_law_due" = some (some (.ref f_law_due)))
    (l_law_due : K.lookup f_law_due = some ⟨oc_law_due, od_law_due, .func (PySem.W.fnOf "_law_due" "_law_due" (defArgs s_law_due) (defBody s_law_due) (defScope s_law_due) .none kV_law_due dc_law_due pm_law_due an_law_due cd_law_due ct_law_due), sl_law_due⟩)
    (c_law_due : PySem.W.codeIn K cd_law_due "_law_due" = true) (k_law_due : PySem.W.keepIn K (.ref f_law_due) = true)
    {f_law : Addr} {od_law an_law : Option Addr} {sl_law : Array (Option Value)} {oc_law kV_law dc_law pm_law ct_law : Value} {cd_law : Value}
    (a_law : PySem.W.nsIn K mainGlobals "law" = some (some (.ref f_law)))
    (l_law : K.lookup f_law = some ⟨oc_law, od_law, .func (PySem.W.fnOf "law" "law" (defArgs s_law) (defBody s_law) (defScope s_law) .none kV_law dc_law pm_law an_law cd_law ct_law), sl_law⟩)
    (c_law : PySem.W.codeIn K cd_law "law" = true) (k_law : PySem.W.keepIn K (.ref f_law) = true)
    {te_place_in : Value} {td_place_in : Option Addr} {tv_place_in : Array Value} {ts_place_in : Array (Option Value)} {t_place_in : Addr} (t1_place_in : K.lookup o_place_in = some ⟨te_place_in, td_place_in, .fields tv_place_in, ts_place_in⟩) (t2_place_in : tv_place_in[11]? = some (.ref t_place_in)) (t3_place_in : K.lookup t_place_in = none)
    (z_len : PySem.W.nsIn K mainGlobals "len" = some none)
    (z_range : PySem.W.nsIn K mainGlobals "range" = some none)
    (z_list : PySem.W.nsIn K mainGlobals "list" = some none)
    (z_isinstance : PySem.W.nsIn K mainGlobals "isinstance" = some none)
    (z_int : PySem.W.nsIn K mainGlobals "int" = some none)
    (z_bool : PySem.W.nsIn K mainGlobals "bool" = some none)
    (z_enumerate : PySem.W.nsIn K mainGlobals "enumerate" = some none)
    (z_min : PySem.W.nsIn K mainGlobals "min" = some none)
    (z_any : PySem.W.nsIn K mainGlobals "any" = some none) :
    LamX.LawAtS l w K CX0 3 63 "_law_script" mg fa h := by
  obtain ⟨D_place_in, e_place_in, F_place_in⟩ := def_exC X G (ps := ["row", "ahead", "behind"]) (st := s_place_in) (fun _ _ _ _ _ _ us hl => match us, hl with | [_, _, _], _ => rfl) a_place_in l_place_in c_place_in k_place_in
  obtain ⟨D_law_whole⟩ := def_ex X G (ps := ["_law_found"]) (st := s_law_whole) (fun _ _ _ _ _ _ us hl => match us, hl with | [_], _ => rfl) a_law_whole l_law_whole c_law_whole k_law_whole
  obtain ⟨D_law_cell_at⟩ := def_ex X G (ps := ["_law_script", "_law_k"]) (st := s_law_cell_at) (fun _ _ _ _ _ _ us hl => match us, hl with | [_, _], _ => rfl) a_law_cell_at l_law_cell_at c_law_cell_at k_law_cell_at
  obtain ⟨D_law_some⟩ := def_ex X G (ps := ["_law_script", "_law_k", "_law_many", "_law_row"]) (st := s_law_some) (fun _ _ _ _ _ _ us hl => match us, hl with | [_, _, _, _], _ => rfl) a_law_some l_law_some c_law_some k_law_some
  obtain ⟨D_law_due⟩ := def_ex X G (ps := ["_law_row", "_law_ahead", "_law_behind"]) (st := s_law_due) (fun _ _ _ _ _ _ us hl => match us, hl with | [_, _, _], _ => rfl) a_law_due l_law_due c_law_due k_law_due
  obtain ⟨D_law, e_law, b_law⟩ := def_exL X G (st := s_law) (p := "_law_script") (fun _ _ _ _ _ _ us hl => match us, hl with | [_], _ => rfl) a_law l_law c_law k_law
  have q_place_in := tab_at X G (hT "place_in" (by simp)) a_place_in l_place_in t1_place_in t2_place_in
  have m_len := PySem.W.mg_none_of X G z_len
  have m_range := PySem.W.mg_none_of X G z_range
  have m_list := PySem.W.mg_none_of X G z_list
  have m_isinstance := PySem.W.mg_none_of X G z_isinstance
  have m_int := PySem.W.mg_none_of X G z_int
  have m_bool := PySem.W.mg_none_of X G z_bool
  have m_enumerate := PySem.W.mg_none_of X G z_enumerate
  have m_min := PySem.W.mg_none_of X G z_min
  have m_any := PySem.W.mg_none_of X G z_any

  refine ⟨D_law.fd, [(o_place_in, t_place_in)], sp_law t_place_in K, ?_, ?_, ?_, b_law, fun H a ns hl hb hH hS => ?_, fun base _ _ hTB => ?_⟩
  · exact (fun p hp => by
      rcases List.mem_cons.mp hp with z | hp
      · rw [z]
        exact q_place_in.2
      cases hp)
  · exact (fun p hp => by
      rcases List.mem_cons.mp hp with z | hp
      · rw [z]
        exact t3_place_in
      cases hp)
  · exact (fun p hp => by
      rcases List.mem_cons.mp hp with z | hp
      · rw [z]
        exact q_place_in.1
      cases hp)
  ·
    have h_place_in : TabG H t_place_in := ⟨_, hH (o_place_in, t_place_in) (by simp), True.intro⟩
    exact ⟨a, ns, rfl, hS, h_place_in, fun _ => rfl⟩
  ·
    have TB_place_in := hTB (o_place_in, t_place_in) (by simp)
    have ef : fa = D_law.f := by
      have e2 := hfa.symm.trans (PySem.W.mg_of X G a_law)
      cases e2
      exact e_law.symm
    rw [ef]
    have G_place_in := ok_place_in (P := l.prog) (w := w) F_place_in ⟨TB_place_in.code, TB_place_in.bm, TB_place_in.gP⟩ m_enumerate m_min m_len m_any
    exact ok_law D_law D_law_cell_at D_law_whole D_law_some D_law_due D_place_in (G_place_in.mono (by decide)) m_len m_range m_list m_isinstance m_int m_bool
end Kt
open PySem PySem.W PyProof.Rows
set_option maxHeartbeats 0 in
theorem PySem.Challenge.cw_keptrow_k01_places_holds : PySem.Challenge.rw_keptrow_k01_places.Holds := by
  w_on; o_law; k_head; (case hw => w_witness2)
  k_fill
  refine Kt.walk_tabs (l := PySem.Challenge.rw_keptrow_k01_places) (n := 63) (k := 3) (x := "_law_script") (CX := fun _ => L2.CX0) ["place_in"] rfl (by decide) rfl ⟨rfl, by decide, by decide⟩ (by decide +kernel) (fun w h Y => PySem.W.kIn_of Y) ?F (fun _ _ _ _ _ h => h)
  case F =>
    intro w mg fa h Y X KX G hmg hT
    refine' Kt.all_mk KX G hmg hT ?a_place_in ?l_place_in ?c_place_in ?k_place_in ?a_law_whole ?l_law_whole ?c_law_whole ?k_law_whole ?a_law_cell_at ?l_law_cell_at ?c_law_cell_at ?k_law_cell_at ?a_law_some ?l_law_some ?c_law_some ?k_law_some ?a_law_due ?l_law_due ?c_law_due ?k_law_due ?a_law ?l_law ?c_law ?k_law ?t1_place_in ?t2_place_in ?t3_place_in ?z_len ?z_range ?z_list ?z_isinstance ?z_int ?z_bool ?z_enumerate ?z_min ?z_any
    (case a_place_in => k_is)
    (case l_place_in => k_is)
    (case c_place_in => k_is)
    (case k_place_in => k_is)
    (case a_law_whole => k_is)
    (case l_law_whole => k_is)
    (case c_law_whole => k_is)
    (case k_law_whole => k_is)
    (case a_law_cell_at => k_is)
    (case l_law_cell_at => k_is)
    (case c_law_cell_at => k_is)
    (case k_law_cell_at => k_is)
    (case a_law_some => k_is)
    (case l_law_some => k_is)
    (case c_law_some => k_is)
    (case k_law_some => k_is)
    (case a_law_due => k_is)
    (case l_law_due => k_is)
    (case c_law_due => k_is)
    (case k_law_due => k_is)
    (case a_law => k_is)
    (case l_law => k_is)
    (case c_law => k_is)
    (case k_law => k_is)
    (case t1_place_in => k_is)
    (case t2_place_in => rfl)
    (case t3_place_in => rfl)
    (case z_len => k_is)
    (case z_range => k_is)
    (case z_list => k_is)
    (case z_isinstance => k_is)
    (case z_int => k_is)
    (case z_bool => k_is)
    (case z_enumerate => k_is)
    (case z_min => k_is)
    (case z_any => k_is)
