import PyProof.Rows.All
import Wide.All
import OpenK.AllK
import Wide.FinOn
import HandS.ForMost
import HandS.AnyAll
import HandS.IsInst
import HandS.LawCells
import HandS.Walk
import HandS.Codes
import HandS.EndTab
import PySem.Challenge.RW_keptrow_k02_names_and_values
set_option Elab.async false
set_option linter.all false
set_option maxRecDepth 100000
set_option maxHeartbeats 2000000
namespace Kt
open PySem PySem.Spec PyProof.Rows L2 GxR
/-- the element of a generator expression: a test of one sign, that may read the module's own names -/
def EltM (X : Cx) (sc : Scope) (x : Str) (e : Expr) (f : Nat → Bool) : Prop :=
  ∀ (en : Env) (B : Around) (R : Value → Shared → Prop) (n : Nat) (t : Tok) (z : Shared) (m : Str → Option Value),
    en.scope = sc → en.globals = mainGlobals → z.heap.Ns mainGlobals X.mg → z.heap.Ns en.locals m → m x = some (.str ⟨#[n]⟩ t) →
      wpAny (model X.prog X.w) B (eval e en) (fun y z' => y = .bool (f n) ∧ Keeps z z') R z
section
variable {X : Cx} {pins : List (Addr × Obj)} {σ : L2.St} {H : Hp} {s : Shared}
/-- x in NAME, NAME a text of the module -/
theorem elt_in {sc : Scope} {x y : Str} {w : Str} {tw : Tok} {p1 p2 p3 : Pos} (hk : sc.kind = .function) (hl : sc.names.lookup x = some .local) (hg : sc.names.lookup y = some .globalImplicit)
    (hm : X.mg y = some (.str w tw)) (d1 : (x == ("__debug__" : Str)) = false := by decide) (d2 : (y == ("__debug__" : Str)) = false := by decide) :
    EltM X sc x (.Compare (.Name x p1) [.In] [.Name y p2] p3) (fun n => decide (n ∈ w.cps.toList)) := by
  intro en B R n t z m hsc hgl hG hL hv
  refine wpAny_Compare1 (wpAny_Name (wpAny_loadName_local (by rw [hsc]; exact hk) (show en.scope.names.lookup x = some .local by rw [hsc]; exact hl) hL hv ?_) d1)
  refine Calls.Name_function_global (by rw [hsc]; exact hk) (show en.scope.names.lookup y = some .globalImplicit by rw [hsc]; exact hg) (Calls.loadGlobal_global (by rw [hgl]; exact hG) hm ?_) d2
  refine PyProof.Rows.in_str ⟨?_, keeps_tok _ _⟩
  exact congrArg Value.bool (PySem.StrLaws.found_one w n)
/-- what the making of the generator asks, behind its code object, in the state z4 -/
def Onward (X : Cx) (sc : Scope) (x : Str) (elt : Expr) (it : Addr) (cd : Value)
    (G : Value → Shared → Prop) (bi : Addr) (z4 : Shared) : Prop :=
  ∃ (J : Addr) (fp wr : List Addr) (n : Nat) (V : Nat → Value → Prop) (S0 : Nat → Heap → Prop)
      (pz : Nat → Bool) (F : Nat → Value → Prop), Value.ref it = .ref J ∧
    (∀ B : Around, B.handled = none → Walks X.prog X.w B J fp wr n V S0) ∧ S0 0 z4.heap ∧
    (∀ b ∈ fp, b < z4.heap.objs.size) ∧ z4.heap.NoLimit ∧ cStatics ∉ wr ∧
    (∀ hr : Heap, (∀ b o, z4.heap.get? b = some o → hr.get? b = some o) →
      QuietGen X.prog X.w (genEnv sc (cloFrom X.env.cells sc.names [])
        z4.heap.objs.size cd bi X.env) x [] elt (List.range z4.heap.objs.size) wr V pz F hr) ∧
    (∀ a h5 tk gs, gs.bare = true → z4.heap.objs.size < a → h5.objs.size = a + 1 →
      (∀ b o, z4.heap.get? b = some o → h5.get? b = some o) →
      WalksS X.prog X.w X.A.in4 a
        (a :: z4.heap.objs.size :: List.range z4.heap.objs.size) (z4.heap.objs.size :: wr)
        (GenOnlyQ z4.gens.size) (passing pz n 0).length
        (fun j y => ∃ i, (passing pz n 0)[j]? = some i ∧ F i y)
        (GenAt X.prog X.w X.A.in4 a z4.gens.size z4.heap.objs.size
          (List.range z4.heap.objs.size) wr pz n F) →
      GenAt X.prog X.w X.A.in4 a z4.gens.size z4.heap.objs.size
        (List.range z4.heap.objs.size) wr pz n F 0
        { z4 with gens := z4.gens.push gs, toks := tk, heap := h5 } →
      G (.ref a) { z4 with gens := z4.gens.push gs, toks := tk, heap := h5 })
/-- the walk over the signs of z, made ready for any or all -/
theorem gen_signs {c P : Addr} {elt iter : Expr} {x : Str} {px gp : Pos} {sc : Scope} {f : Nat → Bool} {te : TE} {k : Nat} {G : Value → Shared → Prop} {R : Str → Hp → Prop}
    (hr : Room k X.A) (TB : TabB X.base X.mg c P) (hcode : X.env.code = .ref c) (S : GenS X.env sc x) (hi : PE X iter te) (hel : EltM X sc x elt f)
    (hf : ∀ v, genFold iter X.env v = pure v) (I : Inv X pins σ H s) (h : te σ H fun v H1 => ∃ z : Str, v = .str z ∧ TabG H1 P ∧ R z H1)
    (hQ : ∀ z H1 g sg, R z H1 → Ready X pins σ H1 P z f g sg → G (.ref g) sg) :
    wpAny (model X.prog X.w) X.A (eval (.GeneratorExp elt [⟨.Name x px, iter, [], 0⟩] sc gp) X.env) G X.xe s := by
  refine wpAny_GeneratorExp_walksQ hr.hd S.co (closure_ok S.free) S.cell S.dot S.loc S.kind (by have := hr.dp; omega) ?_ hf
  refine thn (hi.run pins s σ H _ I h) fun u sa ⟨v, H1, Ia, rv, ⟨z, ev, ⟨ps, hP, htr⟩, hR⟩⟩ => ?_
  subst ev
  obtain ⟨tz, rfl⟩ := rv
  refine wpAny_pyIter_str fun ob St W hst => ?_
  have eP : sa.heap.get? P = some { cls := .none, data := .fields ps } := Ia.hok P _ hP
  have ltP : P < sa.heap.objs.size := Heap.lt_size eP
  have eP2 : (sa.heap.push ob).get? P = some { cls := .none, data := .fields ps } := Heap.get?_push_of_some _ eP
  have hcd : PySem.W.CodeHd (sa.heap.push ob) c P := TB.code.keeps fun b o e => Heap.get?_push_of_some _ (Ia.bk b o e)
  have nl : (sa.heap.push ob).NoLimit := Ia.nolimit.push ob
  have nsz : (sa.heap.push ob).objs.size = sa.heap.objs.size + 1 := Heap.size_push ..
  have ltS : cStatics < sa.heap.objs.size := let ⟨_, q, _⟩ := Ia.nolimit; q.lt
  have neS : cStatics ≠ P := fun q => by
    obtain ⟨_, ⟨o, es, ep, ho, hd, _⟩, _⟩ := Ia.nolimit
    rw [q, eP] at ho
    cases ho
    cases hd
  -- behind the code object (found, or made anew: then the table has grown)
  have behind : ∀ (cd : Value) (hh : Heap) (tk : Nat) (qs : Array Value), Heap.ExtBut P (sa.heap.push ob) hh → (sa.heap.push ob).objs.size ≤ hh.objs.size →
      hh.get? P = some { cls := .none, data := .fields qs } → (∃ more, qs = ps ++ more) → TriplesOk qs.toList →
      wpAny (model X.prog X.w) X.A (builtinsFor X.env.globals X.env.builtins) (Onward X sc x elt sa.heap.objs.size cd G) X.xe { sa with heap := hh, toks := tk } := by
    intro cd hh tk qs hx hsz hq hmore htq
    have lt2 : sa.heap.objs.size < hh.objs.size := Nat.lt_of_lt_of_le (by rw [nsz]; exact Nat.lt_succ_self _) hsz
    obtain ⟨bm, obm, b1, b2, b3, b4, b5, b6, b7, b8⟩ := TB.bm
    have up : ∀ b o, b ≠ P → sa.heap.get? b = some o → hh.get? b = some o := fun b o hb e => hx b o hb (Heap.get?_push_of_some _ e)
    have hgl : hh.Ns mainGlobals X.mg := ((Ia.mod.glob.keeps Ia.bk).push ob).extBut hx TB.gP
    refine wpAny_builtinsFor (m := X.mg) (by rw [Ia.ok.glob]; exact hgl) b1 b2 (up _ _ b4 (Ia.bk _ _ b5)) b6 b7 b8 ?_
    refine ⟨sa.heap.objs.size, [sa.heap.objs.size], [sa.heap.objs.size], z.cps.size, SignAt z, St, (fun _ => true),
      (fun i y => ∃ n, z.cps[i]? = some n ∧ y = .bool (f n)), rfl, W, ?_, ?_, nl.extBut hx neS, ?_, ?_, ?_⟩
    · refine (W X.A hr.hd).frame _ _ _ hst fun b hb o e => hx b o ?_ e
      intro q
      have e1 : b = sa.heap.objs.size := List.mem_singleton.mp hb
      have e2 : P = sa.heap.objs.size := q.symm.trans e1
      exact absurd ltP (by rw [e2]; exact Nat.lt_irrefl _)
    · intro b hb
      have e1 : b = sa.heap.objs.size := List.mem_singleton.mp hb
      show b < hh.objs.size
      rw [e1]
      exact lt2
    · intro q
      have e1 : cStatics = sa.heap.objs.size := List.mem_singleton.mp q
      exact absurd ltS (by rw [← e1]; exact Nat.lt_irrefl _)
    · intro hr2 hup
      refine ⟨fun B R i v z2 m2 hB hPv hn hm hkeep => ?_, fun B R i v z2 m2 hB hPv hp hn hm hkeep => ?_⟩
      · rw [List.forIn_nil]
        exact wpAny_pure ⟨rfl, keeps_tok _ _⟩
      · obtain ⟨n, u, hn2, rfl⟩ := hPv
        have ltG : mainGlobals < sa.heap.objs.size := let ⟨_, _, _, e, _⟩ := Ia.mod.glob.keeps Ia.bk; Heap.lt_size e
        have g2 : z2.heap.Ns mainGlobals X.mg := by
          obtain ⟨o, es, ep, e, r⟩ := hgl
          refine ⟨o, es, ep, hkeep mainGlobals (List.mem_range.mpr ?_) (fun q => ?_) o (hup _ _ e), r⟩
          · exact Nat.lt_trans ltG lt2
          · have e1 : mainGlobals = sa.heap.objs.size := List.mem_singleton.mp q
            exact absurd ltG (by rw [← e1]; exact Nat.lt_irrefl _)
        exact wpAny_mono (hel _ B R n u z2 m2 rfl Ia.ok.glob g2 hn hm) (fun y z3 r => ⟨⟨n, hn2, r.1⟩, r.2⟩) fun _ _ e => e
    · intro g h5 tk5 gs hgs hag hs5 hk5 W5 hat
      have en : (passing (fun _ => true) z.cps.size 0) = List.range z.cps.size := passing_true _
      rw [en, List.length_range] at W5
      refine hQ z H1 g _ hR ⟨_, _, _, _, _, W5.in4_1, hat, ?_, fun s' hmv => ?_⟩
      · intro j y sj Qj Ej hy hQj
        obtain ⟨i, hij, n, hn, rfl⟩ := hy
        obtain ⟨_, ej⟩ := List.getElem?_eq_some_iff.mp hij
        rw [List.getElem_range] at ej
        subst ej
        have e9 : z.cps.toList[j]? = some n := by
          rw [Array.getElem?_toList]
          exact hn
        have hq2 : Qj (trF f z.cps.toList j) sj := hQj
        rw [trF_some e9] at hq2
        exact wpAny_truthy_bool hq2
      · obtain ⟨more, em⟩ := hmore
        subst em
        have away : ∀ b o, sa.heap.get? b = some o → b ∉ hh.objs.size :: [sa.heap.objs.size] := fun b o e q => by
          have l1 := Heap.lt_size e
          rcases List.mem_cons.mp q with q | q
          · rw [q] at l1
            exact Nat.lt_irrefl _ (Nat.lt_of_lt_of_le l1 (Nat.le_of_lt lt2))
          · rw [List.mem_singleton.mp q] at l1
            exact Nat.lt_irrefl _ l1
        have I9 := inv_tab (more := more) (h' := s'.heap) (g' := s'.gens) (d' := s'.drawn) (t' := s'.toks) Ia hP
          (fun b o hb e => hmv.heap b o (away b o e) (hk5 b o (up b o hb e)))
          (hmv.heap P _ (away P _ eP) (hk5 P _ hq)) (AllBare.movedS (Ia.bare.push hgs) hmv)
        rw [sh_eta sa s' hmv.os] at I9
        exact ⟨_, ⟨⟨_, upd_same, htq⟩, fun b hb => upd_ne hb⟩, I9⟩
  refine ⟨nl, ?_⟩
  cases hf2 : codeAmong gp ps.toList with
  | none =>
    refine wpAny_genexprCodeX hcode (hcd.code eP2 htr) (hcd.tab eP2) hf2 fun c2 h2 tk hx hge hlt hco _ htb _ => ?_
    obtain ⟨_, _, _, _, _, _, _, _, _, _, _, _, _, _, _, _, _, _, _, ht2, _⟩ := hco
    exact behind _ h2 tk _ hx (Nat.le_trans hge (Nat.le_of_lt hlt)) htb.2 ⟨_, rfl⟩ ht2
  | some cv =>
    refine wpAny_genexprCode_hit hcode (hcd.code eP2 htr) hf2 ?_
    exact behind cv (sa.heap.push ob) sa.toks ps (Heap.ExtBut.refl _ _) (Nat.le_refl _) eP2 ⟨#[], by simp⟩ htr
/-- all(test for x in e), the test by the module's names too -/
theorem pe_allM {c P : Addr} {elt iter : Expr} {x : Str} {px p pos gp : Pos} {sc : Scope} {f : Nat → Bool} {te : TE} {k : Nat}
    (hr : Room k X.A) (hg : Gl X "all") (hm : X.mg "all" = none) (TB : TabB X.base X.mg c P) (hcode : X.env.code = .ref c) (S : GenS X.env sc x) (hi : PE X iter te) (hel : EltM X sc x elt f)
    (hf : ∀ v, genFold iter X.env v = pure v)
    (he : starEach [.GeneratorExp elt [⟨.Name x px, iter, [], 0⟩] sc gp] X.env = (false, eval (.GeneratorExp elt [⟨.Name x px, iter, [], 0⟩] sc gp) X.env) :: starEach [] X.env := by rfl) :
    PE X (.Call (.Name "all" p) [.GeneratorExp elt [⟨.Name x px, iter, [], 0⟩] sc gp] [] pos) (tAllS P f te) := by
  refine ⟨fun pins s σ H Q I h => ?_⟩
  refine wpAny_Call_Name_kw (ld_blt I hg hm (show bootBuiltins "all" = some (.builtin "all") by decide +kernel) (PyProof.Rows.callWith_builtin1 ?_ he (by rfl)))
  rw [he]
  refine Calls.spliced_cons ?_
  refine gen_signs (R := fun z H1 => ∀ H2, Tabbed P H1 H2 → Q (.bl (z.cps.toList.all f)) H2) hr TB hcode S hi hel hf I h fun z H1 g sg hR hG => ?_
  obtain ⟨fp, wr, G, F, St, W, hst, htr, hI⟩ := hG
  refine Calls.spliced_nil ?_
  refine call_all_walkS (W.self 0 _ _ _ hst ⟨g, fp, wr, G, _, F, St, _, rfl, W, hst, htr, fun s' hmv => ?_⟩)
  obtain ⟨H2, hT, J⟩ := hI s' hmv
  refine ⟨.bl _, H2, J, rfl, ?_⟩
  have e : (List.range z.cps.size).all (trF f z.cps.toList) = z.cps.toList.all f := all_signs z f
  rw [e]
  exact hR H2 hT
end
end Kt

namespace Kt
open PySem PySem.Spec PyProof.Rows L2
def topS (i : Nat) : Stmt := PySem.Challenge.pw_keptrow_k02_names_and_values.main.body.getD i (.Pass ⟨0, 0, 0, 0⟩)
abbrev sWhole : Stmt := topS 4
abbrev sName : Stmt := topS 5
abbrev sHead : Stmt := topS 6
abbrev sValue : Stmt := topS 7
abbrev sUnder : Stmt := topS 8
abbrev sCell : Stmt := topS 10
abbrev sMixed : Stmt := topS 11
abbrev sText : Stmt := topS 12
abbrev sSign : Stmt := topS 13
abbrev sGood : Stmt := topS 14
abbrev sAsked : Stmt := topS 15
abbrev sLaw : Stmt := topS 16
theorem scCell : FnScope ["_law_script", "_law_k"] ["_law_script", "_law_k"] (defScope sCell) := ⟨rfl, rfl, rfl, by decide +kernel, rfl, by decide +kernel, by decide +kernel⟩
theorem scMixed : FnScope ["_law_number"] ["_law_number"] (defScope sMixed) := ⟨rfl, rfl, rfl, by decide +kernel, rfl, by decide +kernel, by decide +kernel⟩
theorem scText : FnScope ["_law_cell", "_law_size", "_law_some", "_law_made", "_law_number", "_law_k"] ["_law_cell", "_law_size"] (defScope sText) := ⟨rfl, rfl, rfl, by decide +kernel, rfl, by decide +kernel, by decide +kernel⟩
theorem scSign : FnScope ["_law_cell", "_law_some"] ["_law_cell"] (defScope sSign) := ⟨rfl, rfl, rfl, by decide +kernel, rfl, by decide +kernel, by decide +kernel⟩
theorem scGood : FnScope ["_law_made", "_law_sign"] ["_law_made"] (defScope sGood) := ⟨rfl, rfl, rfl, by decide +kernel, rfl, by decide +kernel, by decide +kernel⟩
theorem scAsked : FnScope ["_law_thing", "_law_due", "_law_told", "_law_answer"] ["_law_thing", "_law_due"] (defScope sAsked) := ⟨rfl, rfl, rfl, by decide +kernel, rfl, by decide +kernel, by decide +kernel⟩
theorem scLaw : FnScope ["_law_script", "_law_size", "_law_made", "_law_at", "_law_sign", "_law_number", "_law_thing", "_law_name", "_law_head", "_law_found"] ["_law_script"] (defScope sLaw) := ⟨rfl, rfl, rfl, by decide +kernel, rfl, by decide +kernel, by decide +kernel⟩
theorem scWhole : FnScope ["thing"] ["thing"] (defScope sWhole) := ⟨rfl, rfl, rfl, by decide +kernel, rfl, by decide +kernel, by decide +kernel⟩
theorem scName : FnScope ["thing"] ["thing"] (defScope sName) := ⟨rfl, rfl, rfl, by decide +kernel, rfl, by decide +kernel, by decide +kernel⟩
theorem scHead : FnScope ["thing"] ["thing"] (defScope sHead) := ⟨rfl, rfl, rfl, by decide +kernel, rfl, by decide +kernel, by decide +kernel⟩
theorem scValue : FnScope ["thing"] ["thing"] (defScope sValue) := ⟨rfl, rfl, rfl, by decide +kernel, rfl, by decide +kernel, by decide +kernel⟩
theorem scUnder : FnScope ["name", "head"] ["name", "head"] (defScope sUnder) := ⟨rfl, rfl, rfl, by decide +kernel, rfl, by decide +kernel, by decide +kernel⟩

section
variable {P : Program} {w : World} {K : PySem.W.Frag} {mg : Str → Option Value} {base : Heap}
theorem at_has {α : Type} {l : List α} {i : Int} (h0 : 0 ≤ i) (h1 : i < (l.length : Int)) : ∃ c, atI l i = some c := by
  obtain ⟨j, rfl⟩ : ∃ j : Nat, i = (j : Int) := ⟨i.toNat, by omega⟩
  have hj : j < l.length := by omega
  exact ⟨l[j], atI_nat (List.getElem?_eq_getElem hj)⟩
/-- one whole number comes out -/
theorem ok_cell {f : Addr} {fd : FuncData} (F : Fun K "_law_cell_at" "_law_cell_at" sCell f fd) (ml : mg "len" = none) : FnOk P w K mg base CX0 1 f fd ["_law_script", "_law_k"] (spCell K) := by
  refine F.ok scCell (fun vs H Q E h => ?_) (fun cdv A outer s H vs Q E hr h => ?_)
  · obtain ⟨l, ns, j, rfl, _⟩ := h
    rfl
  · obtain ⟨l, ns, j, rfl, hs, q⟩ := h
    refine ⟨_, pss_cons (ps_if (pt_cmpR op_lt (pv 1) (pe_callB call_len_seq (by rfl) ml PySem.boot_len (pa_cons (pv 0) pa_nil)) (nomark _)) (pss_one (ps_ret (pe_ix ix_list (pv 0) (pv 1) (fun _ _ => rfl)))) pss_nil) (pss_one (ps_ret pe_int)), ?_⟩
    refine ⟨_, rfl, _, rfl, l, _, rfl, .inl hs, _, _, rfl, rfl, _, rfl, ite2 (fun e => ?_) (fun e => ?_)⟩
    · have e1 := of_decide_eq_true e
      rw [List.length_map] at e1
      have hj : j < ns.length := by omega
      exact ⟨_, rfl, _, rfl, l, _, _, _, rfl, rfl, hs, atI_cell hj, q⟩
    · have hj : ¬ j < ns.length := fun z => e (decide_eq_true (by rw [List.length_map]; omega))
      rw [cell_out hj] at q
      exact q
def mixZ (n : Int) : Int := (n * 48271 + 7919) % 2147483647
def spMixed : Sp := fun vs H Q _ => ∃ n : Int, vs = [.int n] ∧ Q (.int (mixZ n)) H
theorem ok_mixed {f : Addr} {fd : FuncData} (F : Fun K "_law_mixed" "_law_mixed" sMixed f fd) : FnOk P w K mg base CX0 1 f fd ["_law_number"] spMixed := by
  refine F.ok scMixed (fun vs H Q E h => ?_) (fun cdv A outer s H vs Q E hr h => ?_)
  · obtain ⟨n, rfl, _⟩ := h
    rfl
  · obtain ⟨n, rfl, q⟩ := h
    refine ⟨_, pss_one (ps_ret (pe_op op_mod (pe_op op_add (pe_op op_mul (pv 0) pe_int) pe_int) pe_int)), ?_⟩
    exact ⟨_, rfl, _, _, rfl, rfl, .inr ⟨by decide, by decide⟩, _, _, rfl, rfl, _, _, rfl, rfl, (by show (0 : Int) < 2147483647; decide), q⟩
def signsS : Str := "abcdefghijklmnopqrstuvwxyz0123456789."
theorem signs_len : signsS.cps.toList.length = 37 := by decide +kernel
theorem signs_len2 : signsS.length = 37 := by decide +kernel
/-- some text of that many signs comes out -/
def spText1 : Sp := fun vs H Q _ => ∃ c n : Int, vs = [.int c, .int n] ∧ 0 ≤ n ∧ n ≤ 100 ∧ ∀ z : Str, (z.length : Int) = n → Q (.str z) H
theorem ok_text {f fM : Addr} {fd fdM : FuncData} (F : Fun K "_law_text_by" "_law_text_by" sText f fd) (FM : Fun K "_law_mixed" "_law_mixed" sMixed fM fdM) (bM : Binds K fdM ["_law_number"] []) (gM : mg "_law_mixed" = some (.ref fM)) (mr : mg "range" = none) :
    FnOk P w K mg base CX0 2 f fd ["_law_cell", "_law_size"] spText1 := by
  have GM : FnOk P w K mg base CX0 1 fM fdM ["_law_number"] spMixed := ok_mixed FM
  refine F.ok scText (fun vs H Q E h => ?_) (fun cdv A outer s H vs Q E hr h => ?_)
  · obtain ⟨c, n, rfl, _⟩ := h
    rfl
  · obtain ⟨c, n, rfl, h0, h1, q⟩ := h
    refine ⟨_, pss_cons (ps_set (i := 2) scText.nd rfl (.inl rfl) pe_str)
      (pss_cons (ps_set (i := 3) scText.nd rfl (.inl rfl) pe_str)
      (pss_cons (ps_set (i := 4) scText.nd rfl (.inl rfl) (pv 0))
      (pss_cons (ps_for PassesOwn.never rfl (pi_range1 (by rfl) mr (pa_cons (pv 1) pa_nil)) (pg_name (i := 5) scText.nd rfl (.inl rfl))
        (pss_cons (ps_set (i := 4) scText.nd rfl (.inl rfl) (pe_call GM hr (by rfl) gM FM.kp bM .nil pass0 (pa_cons (pv 4) pa_nil)))
        (pss_one (ps_set (i := 3) scText.nd rfl (.inl rfl) (pe_op op_add_str (pv 3) (pe_ix ix_str (pv 2) (pe_op op_mod (pv 4) pe_int) (fun _ _ => rfl)))))))
      (pss_one (ps_ret (pv 3)))))), ?_⟩
    refine ⟨_, rfl, _, rfl, n, rfl, by omega, by omega, for_range (lo := 0) (n := n.toNat) (fun i σ H' => H' = H ∧ ∃ (z : Str) (m : Int) (k : Option V), (z.length : Int) = i ∧ σ = [some (.int c), some (.int n), some (.str signsS), some (.str z), some (.int m), k]) ⟨rfl, "", c, none, rfl, rfl⟩ ?_ ?_⟩
    · rintro i σ H' hi ⟨rfl, z, m, k, hz, rfl⟩
      refine ⟨_, rfl, m, rfl, ?_⟩
      have hm0 : 0 ≤ mixZ m % 37 := Int.emod_nonneg _ (by decide)
      have hm1 : mixZ m % 37 < 37 := Int.emod_lt_of_pos _ (by decide)
      obtain ⟨ch, hch⟩ := at_has (l := signsS.cps.toList) (i := mixZ m % 37) hm0 (by rw [signs_len]; exact hm1)
      refine ⟨_, rfl, _, rfl, _, rfl, _, _, rfl, rfl, (by show (0 : Int) < 37; decide), signsS, _, ch, rfl, rfl, (by rw [signs_len2]; decide), hch, z, _, rfl, rfl, ?_, rfl, _, _, _, ?_, rfl⟩
      · show z.length + 1 ≤ sizeLine
        have hs : 1000 < sizeLine := by decide
        omega
      · have e : (z ++ (⟨#[ch]⟩ : Str)).length = z.length + 1 := by
          show (z.cps ++ #[ch]).size = z.cps.size + 1
          rw [Array.size_append]
          all_goals rfl
        omega
    · rintro σ H' ⟨rfl, z, m, k, hz, rfl⟩
      exact ⟨_, rfl, q z (by omega)⟩
end
end Kt

namespace Kt
open PySem PySem.Spec PyProof.Rows L2 GxR
/-! ### texts -/
theorem cut_head (a b : Str) : (cutS a none (some (b.length : Int))).cps.toList = a.cps.toList.take b.length := by
  unfold cutS
  rw [HT.sIx_none, HT.sIx_nat, List.drop_zero, Nat.sub_zero]
  show (a.cps.toList.take (min b.length a.length)) = _
  have e : a.cps.toList.length = a.length := Array.length_toList
  by_cases h : b.length ≤ a.length
  · rw [Nat.min_eq_left h]
  · rw [Nat.min_eq_right (by omega), List.take_of_length_le (by omega), List.take_of_length_le (by omega)]
theorem str_ext {a b : Str} (h : a.cps.toList = b.cps.toList) : a = b := by
  cases a
  cases b
  exact congrArg Str.mk (Array.toList_inj.mp h)
theorem under_eq (a b : Str) : decide (V.str (cutS a none (some (b.length : Int))) = V.str b) = Txt.startswith a b := by
  have la : a.cps.toList.length = a.length := Array.length_toList
  have lb : b.cps.toList.length = b.length := Array.length_toList
  unfold Txt.startswith
  rw [StrLaws.subAt_eq, List.drop_zero]
  by_cases h : a.cps.toList.take b.length = b.cps.toList
  · have hl : b.length ≤ a.length := by
      have e := congrArg List.length h
      rw [List.length_take, la, lb] at e
      omega
    have e : cutS a none (some (b.length : Int)) = b := str_ext (by rw [cut_head]; exact h)
    rw [e, h, decide_eq_true rfl, decide_eq_true (by omega : 0 + b.length ≤ a.length), beq_self_eq_true]
    rfl
  · have e : ¬ (V.str (cutS a none (some (b.length : Int))) = V.str b) := fun q => h (by
      have q2 := V.str.inj q
      rw [← cut_head, q2])
    rw [decide_eq_false e, beq_eq_false_iff_ne.mpr h, Bool.and_false]
/-- what the document calls a head, of a text -/
def headB (z : Str) : Bool := z.cps.toList.all (fun n => decide (n ∈ signsS.cps.toList)) && decide (z.length ≤ 12)
def headV : V → Bool
  | .str z => headB z
  | _ => false
def nameV : V → Bool
  | .str z => headB z && !decide (V.str z = V.str "")
  | _ => false
def valueV : V → Bool
  | .non => true
  | .int i => decide (-(10 ^ 30) ≤ i) && decide (i ≤ 10 ^ 30)
  | _ => false
/-- what may be asked about: None, a truth value, a whole number, a text, a list, a tuple -/
inductive Thing (H : Hp) : V → Prop where
  | non : Thing H .non
  | bl (b : Bool) : Thing H (.bl b)
  | int (i : Int) : Thing H (.int i)
  | str (z : Str) (h : z.length ≤ 1000) : Thing H (.str z)
  | lst {a : Addr} {xs : List V} (h : H a = some (.lst xs)) : Thing H (.ref a)
  | tup {a : Addr} {xs : List V} (h : H a = some (.tup xs)) : Thing H (.ref a)
section
variable {P : Program} {w : World} {K : PySem.W.Frag} {mg : Str → Option Value} {base : Heap}
def spSign : Sp := fun vs H Q _ => ∃ c : Int, vs = [.int c] ∧ ∀ n : Nat, Q (.str ⟨#[n]⟩) H
def sgA : Str := " !\"#$&'()*+,-./0123456789:;<=>?@ABCDEFGHIJKLMNOPQRSTUVWXYZ[\\]^_`"
def sgB : Str := "abcdefghijklmnopqrstuvwxyz{|}~\n\t"
theorem sg_len : (sgA ++ sgB).cps.toList.length = 96 := by decide +kernel
theorem sg_len2 : (sgA ++ sgB).length = 96 := by decide +kernel
theorem ok_sign {f : Addr} {fd : FuncData} (F : Fun K "_law_sign_by" "_law_sign_by" sSign f fd) : FnOk P w K mg base CX0 1 f fd ["_law_cell"] spSign := by
  refine F.ok scSign (fun vs H Q E h => ?_) (fun cdv A outer s H vs Q E hr h => ?_)
  · obtain ⟨c, rfl, _⟩ := h
    rfl
  · obtain ⟨c, rfl, q⟩ := h
    refine ⟨_, pss_cons (ps_set (i := 1) scSign.nd rfl (.inl rfl) pe_str)
      (pss_cons (ps_set (i := 1) scSign.nd rfl (.inl rfl) (pe_op op_add_str (pv 1) pe_str))
      (pss_one (ps_ret (pe_ix ix_str (pv 1) (pe_op op_mod (pv 0) pe_int) (fun _ _ => rfl))))), ?_⟩
    obtain ⟨ch, hch⟩ := at_has (l := (sgA ++ sgB).cps.toList) (i := c % 96) (Int.emod_nonneg _ (by decide)) (by rw [sg_len]; exact Int.emod_lt_of_pos _ (by decide))
    exact ⟨_, rfl, sgA, sgB, rfl, rfl, (by decide +kernel), _, rfl, _, rfl, _, _, rfl, rfl, (by show (0 : Int) < 96; decide), sgA ++ sgB, _, ch, rfl, rfl, (by rw [sg_len2]; decide), hch, q ch⟩
def spGood : Sp := fun vs H Q _ => ∃ z : Str, vs = [.str z] ∧ z.length ≤ 1000 ∧ Q (.bl (headB z)) H
theorem ok_good {f : Addr} {fd : FuncData} (F : Fun K "_law_good" "_law_good" sGood f fd) (ml : mg "len" = none) : FnOk P w K mg base CX0 1 f fd ["_law_made"] spGood := by
  refine F.ok scGood (fun vs H Q E h => ?_) (fun cdv A outer s H vs Q E hr h => ?_)
  · obtain ⟨z, rfl, _⟩ := h
    rfl
  · obtain ⟨z, rfl, hz, q⟩ := h
    refine ⟨_, pss_cons (ps_for PassesOwn.never rfl (pi_str (pv 0)) (pg_name (i := 1) scGood.nd rfl (.inl rfl))
        (pss_one (ps_if (pt_cmpR op_notIn_sign (pv 1) pe_str (by rfl)) (pss_one (ps_ret pe_bl)) pss_nil)))
      (pss_one (ps_ret (pe_cmpR op_le (pe_callB call_len_str (by rfl) ml PySem.boot_len (pa_cons (pv 0) pa_nil)) pe_int (nomark _)))), ?_⟩
    have hsz : z.length ≤ sizeLine := Nat.le_trans hz (by decide)
    refine ⟨_, rfl, z, rfl, for_it walk_str (fun i σ H' => H' = H ∧ (∃ k : Option V, σ = [some (.str z), k]) ∧ (z.cps.toList.take i).all (fun n => decide (n ∈ signsS.cps.toList)) = true) ⟨rfl, ⟨none, rfl⟩, rfl⟩ (fun _ _ _ _ _ => trivial) ?_ ?_⟩
    · rintro i x σ H1 H2 hi ⟨rfl, ⟨k, rfl⟩, ha⟩ ⟨rfl, ch, hch, rfl⟩
      have hch2 : z.cps.toList[i]? = some ch := by
        rw [Array.getElem?_toList]
        exact hch
      refine ⟨_, rfl, ch, signsS, rfl, rfl, _, rfl, ?_⟩
      by_cases hin : ch ∈ signsS.cps.toList
      · rw [decide_eq_true hin]
        refine iteF ⟨rfl, ⟨_, rfl⟩, ?_⟩
        rw [List.take_add_one, hch2, List.all_append, ha]
        show (true && ([ch].all _)) = true
        rw [List.all_cons, decide_eq_true hin]
        rfl
      · rw [decide_eq_false hin]
        refine iteT ?_
        have e : headB z = false := by
          unfold headB
          have e2 : z.cps.toList.all (fun n => decide (n ∈ signsS.cps.toList)) = false := by
            rw [List.all_eq_false]
            exact ⟨ch, List.mem_of_getElem? hch2, by simpa using hin⟩
          rw [e2]
          rfl
        rw [e] at q
        exact q
    · rintro σ H1 ⟨rfl, ⟨k, rfl⟩, ha⟩
      have e0 : z.cps.toList.length = z.cps.size := Array.length_toList
      rw [← e0, List.take_length] at ha
      refine ⟨_, rfl, z, rfl, hsz, _, _, rfl, rfl, ?_⟩
      have e : headB z = decide ((z.length : Int) ≤ 12) := by
        unfold headB
        rw [ha, Bool.true_and]
        exact decide_eq_decide.mpr (by omega)
      rw [e] at q
      exact q
def spUnder : Sp := fun vs H Q _ => ∃ a b : Str, vs = [.str a, .str b] ∧ Q (.bl (Txt.startswith a b)) H
theorem ok_under {f : Addr} {fd : FuncData} (F : Fun K "is_under" "is_under" sUnder f fd) : FnOk P w K mg base CX0 1 f fd ["name", "head"] spUnder := by
  refine F.ok scUnder (fun vs H Q E h => ?_) (fun cdv A outer s H vs Q E hr h => ?_)
  · obtain ⟨a, b, rfl, _⟩ := h
    rfl
  · obtain ⟨a, b, rfl, q⟩ := h
    refine ⟨_, pss_one (ps_ret (pe_m1 PySem.F.slot_str_startswith PySem.F.type_str_startswith mt_startswith (pv 0) (pv 1))), ?_⟩
    exact ⟨_, rfl, ⟨_, rfl⟩, _, rfl, a, b, rfl, rfl, q⟩
/-! ### isinstance -/
def strB : V → Bool
  | .str _ => true
  | _ => false
def blB : V → Bool
  | .bl _ => true
  | _ => false
def intB : V → Bool
  | .bl _ => true
  | .int _ => true
  | _ => false
theorem ty_of {H : Hp} {x : V} (h : Thing H x) : ∃ t : String, TyX K H x (.type t) ∧ kitB t "str" = some (strB x) ∧ kitB t "bool" = some (blB x) ∧ kitB t "int" = some (intB x) := by
  cases h with
  | non => exact ⟨"NoneType", .base .non, (show kitB "NoneType" "str" = some false by decide +kernel), (show kitB "NoneType" "bool" = some false by decide +kernel), (show kitB "NoneType" "int" = some false by decide +kernel)⟩
  | bl b => exact ⟨"bool", .base (.bl b), (show kitB "bool" "str" = some false by decide +kernel), (show kitB "bool" "bool" = some true by decide +kernel), (show kitB "bool" "int" = some true by decide +kernel)⟩
  | int i => exact ⟨"int", .base (.int i), (show kitB "int" "str" = some false by decide +kernel), (show kitB "int" "bool" = some false by decide +kernel), (show kitB "int" "int" = some true by decide +kernel)⟩
  | str z h => exact ⟨"str", .base (.str z), (show kitB "str" "str" = some true by decide +kernel), (show kitB "str" "bool" = some false by decide +kernel), (show kitB "str" "int" = some false by decide +kernel)⟩
  | lst h => exact ⟨"list", .base (.lst h), (show kitB "list" "str" = some false by decide +kernel), (show kitB "list" "bool" = some false by decide +kernel), (show kitB "list" "int" = some false by decide +kernel)⟩
  | tup h => exact ⟨"tuple", .base (.tup h), (show kitB "tuple" "str" = some false by decide +kernel), (show kitB "tuple" "bool" = some false by decide +kernel), (show kitB "tuple" "int" = some false by decide +kernel)⟩
/-- a whole number: an int that is no bool -/
def wholeB : V → Bool
  | .int _ => true
  | _ => false
def spWhole : Sp := fun vs H Q _ => ∃ x : V, vs = [x] ∧ Thing H x ∧ Q (.bl (wholeB x)) H
theorem ok_whole {f : Addr} {fd : FuncData} (F : Fun K "is_whole" "is_whole" sWhole f fd) (mi : mg "isinstance" = none) (mb : mg "bool" = none) (mn : mg "int" = none) :
    FnOk P w K mg base CX0 1 f fd ["thing"] spWhole := by
  refine F.ok scWhole (fun vs H Q E h => ?_) (fun cdv A outer s H vs Q E hr h => ?_)
  · obtain ⟨x, rfl, _⟩ := h
    rfl
  · obtain ⟨x, rfl, hx, q⟩ := h
    refine ⟨_, (pss_one (ps_ret (pe_and (pe_callB call_isi (by rfl) mi (by decide +kernel) (pa_cons (pv 0) (pa_cons (pe_bltn (by rfl) mn (by decide +kernel) (v := .ty "int") rfl) pa_nil))) (pe_one (pe_not (pe_callB call_isi (by rfl) mi (by decide +kernel) (pa_cons (pv 0) (pa_cons (pe_bltn (by rfl) mb (by decide +kernel) (v := .ty "bool") rfl) pa_nil)))))))), ?_⟩
    obtain ⟨t, ht, k1, k2, k3⟩ := ty_of (K := K) hx
    refine ⟨x, rfl, x, .ty "int", _, _, _, rfl, .ty _, ht, kit_ty k3, _, rfl, ?_⟩
    cases hx with
    | non => exact iteF q
    | bl b => exact iteT ⟨_, rfl, _, .ty "bool", _, _, _, rfl, .ty _, ht, kit_ty k2, _, rfl, q⟩
    | int i => exact iteT ⟨_, rfl, _, .ty "bool", _, _, _, rfl, .ty _, ht, kit_ty k2, _, rfl, q⟩
    | str z h => exact iteF q
    | lst h => exact iteF q
    | tup h => exact iteF q
def spValue : Sp := fun vs H Q _ => ∃ x : V, vs = [x] ∧ Thing H x ∧ Q (.bl (valueV x)) H
theorem ok_value {f fW : Addr} {fd fdW : FuncData} {tl : Tok} (F : Fun K "is_value" "is_value" sValue f fd) (GW : FnOk P w K mg base CX0 1 fW fdW ["thing"] spWhole) (kW : PySem.W.keepIn K (.ref fW) = true) (bW : Binds K fdW ["thing"] [])
    (gW : mg "is_whole" = some (.ref fW)) (mL : mg "LARGEST" = some (.int (10 ^ 30) tl)) : FnOk P w K mg base CX0 2 f fd ["thing"] spValue := by
  refine F.ok scValue (fun vs H Q E h => ?_) (fun cdv A outer s H vs Q E hr h => ?_)
  · obtain ⟨x, rfl, _⟩ := h
    rfl
  · obtain ⟨x, rfl, hx, q⟩ := h
    refine ⟨_, pss_cons (ps_if (pt_cmpR op_isN (pv 0) pe_non (nomark _)) (pss_one (ps_ret pe_bl)) pss_nil)
      (pss_one (ps_ret (pe_and (pe_call GW hr (by rfl) gW kW bW .nil pass0 (pa_cons (pv 0) pa_nil)) (pe_one (pe_chain op_le op_le (pe_un un_neg (pe_glob rfl mL (v := .int (10 ^ 30)) ⟨_, rfl⟩)) (pv 0) (pe_glob rfl mL (v := .int (10 ^ 30)) ⟨_, rfl⟩)))))), ?_⟩
    refine ⟨x, rfl, rfl, _, rfl, ite2 (fun e => ?_) (fun e => ?_)⟩
    · have e1 : x = .non := of_decide_eq_true e
      subst e1
      exact q
    · refine ⟨x, rfl, x, rfl, hx, _, rfl, ?_⟩
      cases hx with
      | non => exact absurd rfl e
      | int i =>
        refine iteT ⟨_, rfl, _, rfl, _, _, rfl, rfl, _, rfl, ite2 (fun e3 => ?_) (fun e3 => ?_)⟩
        · refine ⟨_, _, rfl, rfl, ?_⟩
          have e4 : valueV (.int i) = decide (i ≤ 10 ^ 30) := by
            show (decide _ && _) = _
            rw [e3, Bool.true_and]
          rw [e4] at q
          exact q
        · have e4 : valueV (.int i) = false := by
            show (decide _ && _) = _
            rw [Bool.eq_false_iff.mpr e3, Bool.false_and]
          rw [e4] at q
          exact q
      | bl b => exact iteF q
      | str z h => exact iteF q
      | lst h => exact iteF q
      | tup h => exact iteF q
end
end Kt

namespace Kt
open PySem PySem.Spec PyProof.Rows L2 GxR
/-- a def that stands with its own code object at c -/
structure FunC (K : PySem.W.Frag) (x qual : Str) (st : Stmt) (f c : Addr) (fd : FuncData) : Prop where
  ex : ∃ (oc : Value) (od : Option Addr) (kV doc pm : Value) (an : Option Addr) (ct : Value) (osl : Array (Option Value)),
    fd = PySem.W.fnOf x qual (defArgs st) (defBody st) (defScope st) .none kV doc pm an (.ref c) ct ∧ K.lookup f = some ⟨oc, od, .func fd, osl⟩ ∧ PySem.W.codeIn K (.ref c) qual = true
  kp : PySem.W.keepIn K (.ref f) = true
/-- all that was held stays, but for the table at T, which stays one -/
def SameT (T : Addr) (H H' : Hp) : Prop := TabG H' T ∧ ∀ b o, b ≠ T → H b = some o → H' b = some o
theorem SameT.refl {T : Addr} {H : Hp} (h : TabG H T) : SameT T H H := ⟨h, fun _ _ _ e => e⟩
theorem SameT.trans {T : Addr} {H H1 H2 : Hp} (a : SameT T H H1) (b : SameT T H1 H2) : SameT T H H2 := ⟨b.1, fun c o n e => b.2 c o n (a.2 c o n e)⟩
theorem SameT.tab {T : Addr} {H H1 : Hp} (a : Tabbed T H H1) : SameT T H H1 := ⟨a.1, fun b o n e => by rw [a.2 b n]; exact e⟩
theorem tabG_ne {T p : Addr} {H : Hp} (t : TabG H T) (h : H p = none) : p ≠ T := fun e => by
  obtain ⟨ps, e1, _⟩ := t
  rw [← e, h] at e1
  cases e1
theorem SameT.new {T p : Addr} {H : Hp} {o : HO} (t : TabG H T) (h : H p = none) : SameT T H (upd H p o) := by
  have ne := tabG_ne t h
  obtain ⟨ps, e1, e2⟩ := t
  exact ⟨⟨ps, by rw [upd_ne ne.symm]; exact e1, e2⟩, fun b u _ e => by rw [upd_ne (ne_of_none e h)]; exact e⟩
theorem SameT.seq {T a : Addr} {K : PySem.W.Frag} {H H' : Hp} {xs : List V} (s : SameT T H H') (t : TabG H T) (h : SqL K H a xs) : SqL K H' a xs := by
  obtain ⟨ps, e1, _⟩ := t
  have nT : ∀ {o : HO}, H a = some o → (∀ q, o ≠ .tbl q) → a ≠ T := fun e n z => by
    rw [z, e1] at e
    exact n _ (Option.some.inj e).symm
  rcases h with (h | ⟨o, h⟩) | h
  · exact .inl (.inl (s.2 _ _ (nT h fun q z => by cases z) h))
  · exact .inl (.inr ⟨o, s.2 _ _ (nT h fun q z => by cases z) h⟩)
  · exact .inr h
theorem Thing.mono {T : Addr} {H H' : Hp} {x : V} (h : Thing H x) (t : TabG H T) (s : SameT T H H') : Thing H' x := by
  obtain ⟨ps, e1, _⟩ := t
  have nT : ∀ {a : Addr} {o : HO}, H a = some o → (∀ q, o ≠ .tbl q) → a ≠ T := fun e n z => by
    rw [z, e1] at e
    exact n _ (Option.some.inj e).symm
  cases h with
  | non => exact .non
  | bl b => exact .bl b
  | int i => exact .int i
  | str z h => exact .str z h
  | lst h => exact .lst (s.2 _ _ (nT h fun q z => by cases z) h)
  | tup h => exact .tup (s.2 _ _ (nT h fun q z => by cases z) h)
section
variable {P : Program} {w : World} {K : PySem.W.Frag} {mg : Str → Option Value} {base : Heap}
def spHead (T : Addr) : Sp := fun vs H Q _ => ∃ x : V, vs = [x] ∧ Thing H x ∧ TabG H T ∧ ∀ H', Tabbed T H H' → Q (.bl (headV x)) H'
theorem ok_head {f c T : Addr} {fd : FuncData} {tn ts : Tok} (F : FunC K "is_head" "is_head" sHead f c fd) (TB : TabB base mg c T) (mS : mg "SIGNS" = some (.str signsS ts)) (mL : mg "LONGEST" = some (.int 12 tn))
    (mi : mg "isinstance" = none) (ms : mg "str" = none) (ml : mg "len" = none) (ma : mg "all" = none) : FnOk P w K mg base CX0 1 f fd ["thing"] (spHead T) := by
  obtain ⟨oc, od, kV, doc, pm, an, ct, osl, rfl, lk, hcd⟩ := F.ex
  refine fn_of lk hcd scHead (fun vs H Q E h => ?_) fun A outer s H vs Q E hr h => ?_
  · obtain ⟨x, rfl, _⟩ := h
    rfl
  · obtain ⟨x, rfl, hx, hT, q⟩ := h
    have GS : GenS (envOfC "is_head" (defScope sHead) s.heap.objs.size f (.ref c)) { kind := .function, names := [((".0" : Str), .local), (("sign" : Str), .local), (("SIGNS" : Str), .globalImplicit)], isGenerator := true, isCoroutine := false, more := [] } "sign" :=
      ⟨rfl, rfl, by decide, rfl, rfl, fun y hy e => by
        have h3 : y = ((".0" : Str), NameKind.local) ∨ y = (("sign" : Str), NameKind.local) ∨ y = (("SIGNS" : Str), NameKind.globalImplicit) := by simpa using hy
        rcases h3 with z | z | z <;> (subst z; cases e)⟩
    refine ⟨_, pss_cons (ps_if (PW.pt (pw_or (pt_not (pt_val (pe_callB call_isi (by rfl) mi (by decide +kernel) (pa_cons (pv 0) (pa_cons (pe_bltn (by rfl) ms (by decide +kernel) (v := .ty "str") rfl) pa_nil)))))
          (pw_or1 (pt_cmpR op_gt (pe_callB call_len_str (by rfl) ml PySem.boot_len (pa_cons (pv 0) pa_nil)) (pe_glob rfl mL (v := .int 12) ⟨_, rfl⟩) (nomark _))))) (pss_one (ps_ret pe_bl)) pss_nil)
      (pss_one (ps_ret (pe_allM hr (by rfl) ma TB rfl GS (pv 0) (elt_in rfl rfl rfl mS) (fun _ => rfl)))), ?_⟩
    obtain ⟨t, ht, k1, _, _⟩ := ty_of (K := K) hx
    refine ⟨x, rfl, x, .ty "str", _, _, _, rfl, .ty _, ht, kit_ty k1, _, rfl, ?_⟩
    have stay : Tabbed T H H := ⟨hT, fun _ _ => rfl⟩
    cases hx with
    | non => exact iteT (q _ stay)
    | bl b => exact iteT (q _ stay)
    | int i => exact iteT (q _ stay)
    | lst h => exact iteT (q _ stay)
    | tup h => exact iteT (q _ stay)
    | str z hz =>
      refine iteF ⟨_, rfl, z, rfl, Nat.le_trans hz (by decide), _, _, rfl, rfl, _, rfl, ite2 (fun e => ?_) (fun e => ?_)⟩
      · have e1 : (12 : Int) < (z.length : Int) := of_decide_eq_true e
        have e2 : headV (.str z) = false := by
          show (_ && decide (z.length ≤ 12)) = false
          rw [decide_eq_false (by omega : ¬ z.length ≤ 12), Bool.and_false]
        rw [e2] at q
        exact q _ stay
      · have e1 : ¬ (12 : Int) < (z.length : Int) := fun z => e (decide_eq_true z)
        refine ⟨_, rfl, z, rfl, hT, fun H' hT' => ?_⟩
        have e2 : headV (.str z) = z.cps.toList.all (fun n => decide (n ∈ signsS.cps.toList)) := by
          show (_ && decide (z.length ≤ 12)) = _
          rw [decide_eq_true (by omega : z.length ≤ 12), Bool.and_true]
        rw [e2] at q
        exact q _ hT'
def spName (T : Addr) : Sp := fun vs H Q _ => ∃ x : V, vs = [x] ∧ Thing H x ∧ TabG H T ∧ ∀ H', Tabbed T H H' → Q (.bl (nameV x)) H'
theorem ok_name {f fH T : Addr} {fd fdH : FuncData} (F : Fun K "is_name" "is_name" sName f fd) (GH : FnOk P w K mg base CX0 1 fH fdH ["thing"] (spHead T)) (kH : PySem.W.keepIn K (.ref fH) = true) (bH : Binds K fdH ["thing"] [])
    (gH : mg "is_head" = some (.ref fH)) : FnOk P w K mg base CX0 2 f fd ["thing"] (spName T) := by
  refine F.ok scName (fun vs H Q E h => ?_) (fun cdv A outer s H vs Q E hr h => ?_)
  · obtain ⟨x, rfl, _⟩ := h
    rfl
  · obtain ⟨x, rfl, hx, hT, q⟩ := h
    refine ⟨_, pss_one (ps_ret (pe_and (pe_call GH hr (by rfl) gH kH bH .nil pass0 (pa_cons (pv 0) pa_nil)) (pe_one (pe_cmpR op_ne (pv 0) pe_str (nomark _))))), ?_⟩
    refine ⟨x, rfl, x, rfl, hx, hT, fun H' hT' => ⟨_, rfl, ?_⟩⟩
    cases hx with
    | non => exact iteF (q _ hT')
    | bl b => exact iteF (q _ hT')
    | int i => exact iteF (q _ hT')
    | lst h => exact iteF (q _ hT')
    | tup h => exact iteF (q _ hT')
    | str z hz =>
      refine ite2 (fun e => ?_) (fun e => ?_)
      · have e2 : nameV (.str z) = !decide (V.str z = V.str "") := by
          show (headV (.str z) && _) = _
          rw [e, Bool.true_and]
        rw [e2] at q
        exact ⟨_, rfl, rfl, q _ hT'⟩
      · have e2 : nameV (.str z) = false := by
          show (headV (.str z) && _) = _
          rw [Bool.eq_false_iff.mpr e, Bool.false_and]
        rw [e2] at q
        exact q _ hT'
/-- all three answers are those that are due -/
def spAsked (K : PySem.W.Frag) (T : Addr) : Sp := fun vs H Q _ => ∃ (x : V) (d : Addr), vs = [x, .ref d] ∧ Thing H x ∧ TabG H T ∧ H d = some (.lst [.bl (nameV x), .bl (headV x), .bl (valueV x)]) ∧ ∀ H', SameT T H H' → Q (.bl true) H'
theorem ok_asked {f fN fH fV T : Addr} {fd fdN fdH fdV : FuncData} (F : Fun K "_law_asked" "_law_asked" sAsked f fd)
    (GN : FnOk P w K mg base CX0 2 fN fdN ["thing"] (spName T)) (kN : PySem.W.keepIn K (.ref fN) = true) (bN : Binds K fdN ["thing"] []) (gN : mg "is_name" = some (.ref fN))
    (GH : FnOk P w K mg base CX0 1 fH fdH ["thing"] (spHead T)) (kH : PySem.W.keepIn K (.ref fH) = true) (bH : Binds K fdH ["thing"] []) (gH : mg "is_head" = some (.ref fH))
    (GV : FnOk P w K mg base CX0 2 fV fdV ["thing"] spValue) (kV : PySem.W.keepIn K (.ref fV) = true) (bV : Binds K fdV ["thing"] []) (gV : mg "is_value" = some (.ref fV))
    (mi : mg "isinstance" = none) (mb : mg "bool" = none) : FnOk P w K mg base CX0 3 f fd ["_law_thing", "_law_due"] (spAsked K T) := by
  refine F.ok scAsked (fun vs H Q E h => ?_) (fun cdv A outer s H vs Q E hr h => ?_)
  · obtain ⟨x, d, rfl, _⟩ := h
    rfl
  · obtain ⟨x, d, rfl, hx, hT, hd, q⟩ := h
    refine ⟨_, pss_cons (ps_set (i := 2) scAsked.nd rfl (.inl rfl) (pe_lst (pa_cons (pe_call GN hr (by rfl) gN kN bN .nil pass0 (pa_cons (pv 0) pa_nil))
          (pa_cons (pe_call GH (hr.mono (by decide)) (by rfl) gH kH bH .nil pass0 (pa_cons (pv 0) pa_nil)) (pa_cons (pe_call GV hr (by rfl) gV kV bV .nil pass0 (pa_cons (pv 0) pa_nil)) pa_nil)))))
      (pss_cons (ps_for PassesOwn.never rfl (pi_list (pv 2)) (pg_name (i := 3) scAsked.nd rfl (.inl rfl))
        (pss_one (ps_if (pt_not (pt_val (pe_callB call_isi (by rfl) mi (by decide +kernel) (pa_cons (pv 3) (pa_cons (pe_bltn (by rfl) mb (by decide +kernel) (v := .ty "bool") rfl) pa_nil))))) (pss_one (ps_ret pe_bl)) pss_nil)))
      (pss_one (ps_ret (pe_cmpR (op_eqD hr.units) (pv 2) (pv 1) (nomark _))))), ?_⟩
    have dT : d ≠ T := fun z => by
      obtain ⟨ps, e1, _⟩ := hT
      rw [← z, hd] at e1
      cases e1
    refine ⟨x, rfl, x, rfl, hx, hT, fun H1 t1 => ?_⟩
    have s1 := SameT.tab t1
    refine ⟨x, rfl, x, rfl, hx.mono hT s1, t1.1, fun H2 t2 => ?_⟩
    have s2 := s1.trans (SameT.tab t2)
    refine ⟨x, rfl, x, rfl, hx.mono hT s2, (by show 3 ≤ sizeLine; decide), fun p hp => ?_⟩
    have s3 := s2.trans (SameT.new (o := .lst [.bl (nameV x), .bl (headV x), .bl (valueV x)]) t2.1 hp)
    have hd3 := s3.2 d _ dT hd
    refine ⟨_, rfl, p, rfl, ⟨_, SqL.of upd_same⟩, for_list (K := K) (a := p) (xs := [.bl (nameV x), .bl (headV x), .bl (valueV x)]) (fun i σ H' => H' = upd H2 p (.lst [.bl (nameV x), .bl (headV x), .bl (valueV x)]) ∧ ∃ k : Option V, σ = [some x, some (.ref d), some (.ref p), k])
      ⟨rfl, none, rfl⟩ (fun i σ H' _ h => by rw [h.1]; exact SqL.of upd_same) ?_ ?_⟩
    · rintro i y σ H' hy ⟨rfl, k, rfl⟩
      have hb : ∃ b, y = .bl b := by
        have h1 := List.mem_of_getElem? hy
        have h2 : y = .bl (nameV x) ∨ y = .bl (headV x) ∨ y = .bl (valueV x) := by simpa using h1
        rcases h2 with z | z | z <;> exact ⟨_, z⟩
      obtain ⟨b, rfl⟩ := hb
      exact ⟨_, rfl, _, _, _, _, _, rfl, .ty _, .base (.bl b), kit_ty (show kitB "bool" "bool" = some true by decide +kernel), _, rfl, iteF ⟨rfl, _, rfl⟩⟩
    · rintro σ H' ⟨rfl, k, rfl⟩
      refine ⟨_, rfl, _, rfl, _, _, .lst (SqL.of upd_same) (.cons (.bl _) (.cons (.bl _) (.cons (.bl _) .nil))), .lst (SqL.of hd3) (.cons (.bl _) (.cons (.bl _) (.cons (.bl _) .nil))), rfl, rfl, ?_⟩
      rw [SeqAt.eqv_refl _ rfl]
      exact q _ s3
end
end Kt

namespace Kt
open PySem PySem.Spec PyProof.Rows L2 GxR
section
variable {P : Program} {w : World} {K : PySem.W.Frag} {mg : Str → Option Value} {base : Heap}
theorem len_app (a b : Str) : (a ++ b).length = a.length + b.length := Str.length_append a b
theorem small_line {n : Nat} (h : n ≤ 1000) : n ≤ sizeLine := Nat.le_trans h (by decide)
def spLaw (K : PySem.W.Frag) (T : Addr) : Sp := fun vs H Q _ => ∃ (a : Addr) (ns : List Int), vs = [.ref a] ∧ SqL K H a (ns.map V.int) ∧ TabG H T ∧ ∀ H', Q (.bl true) H'
theorem ok_law {f fC fT fS fG fA fU T : Addr} {fd fdC fdT fdS fdG fdA fdU : FuncData} (F : Fun K "law" "law" sLaw f fd)
    (GC : FnOk P w K mg base CX0 1 fC fdC ["_law_script", "_law_k"] (spCell K)) (kC : PySem.W.keepIn K (.ref fC) = true) (bC : Binds K fdC ["_law_script", "_law_k"] []) (gC : mg "_law_cell_at" = some (.ref fC))
    (GT : FnOk P w K mg base CX0 2 fT fdT ["_law_cell", "_law_size"] spText1) (kT : PySem.W.keepIn K (.ref fT) = true) (bT : Binds K fdT ["_law_cell", "_law_size"] []) (gT : mg "_law_text_by" = some (.ref fT))
    (GS : FnOk P w K mg base CX0 1 fS fdS ["_law_cell"] spSign) (kS : PySem.W.keepIn K (.ref fS) = true) (bS : Binds K fdS ["_law_cell"] []) (gS : mg "_law_sign_by" = some (.ref fS))
    (GG : FnOk P w K mg base CX0 1 fG fdG ["_law_made"] spGood) (kG : PySem.W.keepIn K (.ref fG) = true) (bG : Binds K fdG ["_law_made"] []) (gG : mg "_law_good" = some (.ref fG))
    (GA : FnOk P w K mg base CX0 3 fA fdA ["_law_thing", "_law_due"] (spAsked K T)) (kA : PySem.W.keepIn K (.ref fA) = true) (bA : Binds K fdA ["_law_thing", "_law_due"] []) (gA : mg "_law_asked" = some (.ref fA))
    (GU : FnOk P w K mg base CX0 1 fU fdU ["name", "head"] spUnder) (kU : PySem.W.keepIn K (.ref fU) = true) (bU : Binds K fdU ["name", "head"] []) (gU : mg "is_under" = some (.ref fU))
    (mi : mg "isinstance" = none) (mb : mg "bool" = none) (ml : mg "len" = none) : FnOk P w K mg base CX0 4 f fd ["_law_script"] (spLaw K T) := by
  refine F.ok scLaw (fun vs H Q E h => ?_) (fun cdv A outer s H vs Q E hr h => ?_)
  · obtain ⟨a, ns, rfl, _⟩ := h
    rfl
  · obtain ⟨a, ns, rfl, hS, hT, q⟩ := h
    refine ⟨_, (pss_cons (ps_set (i := 1) scLaw.nd rfl (.inl rfl) (pe_op op_mod (pe_call GC (hr.mono (by decide)) (by rfl) gC kC bC .nil pass0 (pa_cons (pv 0) (pa_cons pe_int pa_nil))) pe_int))
      (pss_cons (ps_set (i := 2) scLaw.nd rfl (.inl rfl) (pe_call GT (hr.mono (by decide)) (by rfl) gT kT bT .nil pass0 (pa_cons (pe_call GC (hr.mono (by decide)) (by rfl) gC kC bC .nil pass0 (pa_cons (pv 0) (pa_cons pe_int pa_nil))) (pa_cons (pv 1) pa_nil))))
      (C8.pss_cut (ps_if (PW.pt (pw_and (pt_cmpR op_gt (pv 1) pe_int (nomark _)) (pw_and1 (pt_cmpR op_eq (pe_op op_mod (pe_call GC (hr.mono (by decide)) (by rfl) gC kC bC .nil pass0 (pa_cons (pv 0) (pa_cons pe_int pa_nil))) pe_int) pe_int (nomark _))))) (pss_cons (ps_set (i := 3) scLaw.nd rfl (.inl rfl) (pe_op op_modN (pe_op op_fdiv (pe_call GC (hr.mono (by decide)) (by rfl) gC kC bC .nil pass0 (pa_cons (pv 0) (pa_cons pe_int pa_nil))) pe_int) (pv 1)))
      (pss_cons (ps_set (i := 4) scLaw.nd rfl (.inl rfl) (pe_call GS (hr.mono (by decide)) (by rfl) gS kS bS .nil pass0 (pa_cons (pe_call GC (hr.mono (by decide)) (by rfl) gC kC bC .nil pass0 (pa_cons (pv 0) (pa_cons pe_int pa_nil))) pa_nil)))
      (C8.pss_cut (ps_if (pt_cmpR op_eq (pe_op op_mod (pe_call GC (hr.mono (by decide)) (by rfl) gC kC bC .nil pass0 (pa_cons (pv 0) (pa_cons pe_int pa_nil))) pe_int) pe_int (nomark _)) (pss_one (ps_set (i := 4) scLaw.nd rfl (.inl rfl) (pe_ix ix_str pe_str (pe_op op_mod (pe_op op_fdiv (pe_call GC (hr.mono (by decide)) (by rfl) gC kC bC .nil pass0 (pa_cons (pv 0) (pa_cons pe_int pa_nil))) pe_int) pe_int) (fun _ _ => rfl)))) pss_nil)
      (pss_one (ps_set (i := 2) scLaw.nd rfl (.inl rfl) (pe_op op_add_str (pe_op op_add_str (pe_slice sl_str (pv 2) po_none (po_some (pv 3))) (pv 4)) (pe_slice sl_str (pv 2) (po_some (pe_op op_add (pv 3) pe_int)) po_none))))))) pss_nil)
      (C8.pss_cut (ps_if (pt_not (pt_val (pe_call GA hr (by rfl) gA kA bA .nil pass0 (pa_cons (pv 2) (pa_cons (pe_lst (pa_cons (pe_and (pe_call GG (hr.mono (by decide)) (by rfl) gG kG bG .nil pass0 (pa_cons (pv 2) pa_nil)) (pe_one (pe_cmpR op_ne (pv 2) pe_str (nomark _)))) (pa_cons (pe_call GG (hr.mono (by decide)) (by rfl) gG kG bG .nil pass0 (pa_cons (pv 2) pa_nil)) (pa_cons pe_bl pa_nil)))) pa_nil))))) (pss_one (ps_ret pe_bl)) pss_nil)
      (pss_cons (ps_set (i := 5) scLaw.nd rfl (.inl rfl) (pe_call GC (hr.mono (by decide)) (by rfl) gC kC bC .nil pass0 (pa_cons (pv 0) (pa_cons pe_int pa_nil))))
      (C8.pss_cut (ps_if (pt_cmpR op_eq (pe_op op_mod (pv 5) pe_int) pe_int (nomark _)) (pss_one (ps_set (i := 5) scLaw.nd rfl (.inl rfl) (pe_op op_sub (pe_op op_add (pe_ix ix_list (pe_lst (pa_cons (pe_op op_pow pe_int pe_int) (pa_cons (pe_un un_neg (pe_op op_pow pe_int pe_int)) pa_nil))) (pe_op op_mod (pe_op op_fdiv (pv 5) pe_int) pe_int) (fun _ _ => rfl)) (pe_op op_mod (pe_op op_fdiv (pv 5) pe_int) pe_int)) pe_int))) pss_nil)
      (C8.pss_cut (ps_if (pt_not (pt_val (pe_call GA hr (by rfl) gA kA bA .nil pass0 (pa_cons (pv 5) (pa_cons (pe_lst (pa_cons pe_bl (pa_cons pe_bl (pa_cons (pe_and (pe_cmpR op_le (pe_un un_neg (pe_op op_pow pe_int pe_int)) (pv 5) (nomark _)) (pe_one (pe_cmpR op_le (pv 5) (pe_op op_pow pe_int pe_int) (nomark _)))) pa_nil)))) pa_nil))))) (pss_one (ps_ret pe_bl)) pss_nil)
      (C8.pss_cut (ps_for PassesOwn.never rfl (pi_list (pe_lst (pa_cons pe_bl (pa_cons pe_bl (pa_cons (pe_lst (pa_cons (pv 2) pa_nil)) (pa_cons (pe_tup (pa_cons (pv 2) pa_nil)) pa_nil)))))) (pg_name (i := 6) scLaw.nd rfl (.inl rfl)) (pss_one (ps_if (pt_not (pt_val (pe_call GA hr (by rfl) gA kA bA .nil pass0 (pa_cons (pv 6) (pa_cons (pe_lst (pa_cons pe_bl (pa_cons pe_bl (pa_cons pe_bl pa_nil)))) pa_nil))))) (pss_one (ps_ret pe_bl)) pss_nil)))
      (C8.pss_cut (ps_if (pt_not (pt_val (pe_call GA hr (by rfl) gA kA bA .nil pass0 (pa_cons pe_non (pa_cons (pe_lst (pa_cons pe_bl (pa_cons pe_bl (pa_cons pe_bl pa_nil)))) pa_nil))))) (pss_one (ps_ret pe_bl)) pss_nil)
      (pss_cons (ps_set (i := 7) scLaw.nd rfl (.inl rfl) (pe_call GT (hr.mono (by decide)) (by rfl) gT kT bT .nil pass0 (pa_cons (pe_call GC (hr.mono (by decide)) (by rfl) gC kC bC .nil pass0 (pa_cons (pv 0) (pa_cons pe_int pa_nil))) (pa_cons (pe_op op_add pe_int (pe_op op_mod (pe_call GC (hr.mono (by decide)) (by rfl) gC kC bC .nil pass0 (pa_cons (pv 0) (pa_cons pe_int pa_nil))) pe_int)) pa_nil))))
      (pss_cons (ps_set (i := 8) scLaw.nd rfl (.inl rfl) (pe_slice sl_str (pv 7) po_none (po_some (pe_op op_modN (pe_call GC (hr.mono (by decide)) (by rfl) gC kC bC .nil pass0 (pa_cons (pv 0) (pa_cons pe_int pa_nil))) (pe_op op_add (pe_callB call_len_str (by rfl) ml PySem.boot_len (pa_cons (pv 7) pa_nil)) pe_int)))))
      (C8.pss_cut (ps_if (pt_cmpR op_eq (pe_op op_mod (pe_call GC (hr.mono (by decide)) (by rfl) gC kC bC .nil pass0 (pa_cons (pv 0) (pa_cons pe_int pa_nil))) pe_int) pe_int (nomark _)) (pss_one (ps_set (i := 8) scLaw.nd rfl (.inl rfl) (pe_call GT (hr.mono (by decide)) (by rfl) gT kT bT .nil pass0 (pa_cons (pe_call GC (hr.mono (by decide)) (by rfl) gC kC bC .nil pass0 (pa_cons (pv 0) (pa_cons pe_int pa_nil))) (pa_cons (pe_op op_mod (pe_call GC (hr.mono (by decide)) (by rfl) gC kC bC .nil pass0 (pa_cons (pv 0) (pa_cons pe_int pa_nil))) pe_int) pa_nil))))) pss_nil)
      (C8.pss_cut (ps_if (pt_cmpR op_eq (pe_op op_mod (pe_call GC (hr.mono (by decide)) (by rfl) gC kC bC .nil pass0 (pa_cons (pv 0) (pa_cons pe_int pa_nil))) pe_int) pe_int (nomark _)) (pss_one (ps_set (i := 8) scLaw.nd rfl (.inl rfl) (pe_slice sl_str (pv 7) (po_some (pe_op op_modN (pe_call GC (hr.mono (by decide)) (by rfl) gC kC bC .nil pass0 (pa_cons (pv 0) (pa_cons pe_int pa_nil))) (pe_callB call_len_str (by rfl) ml PySem.boot_len (pa_cons (pv 7) pa_nil)))) po_none))) pss_nil)
      (pss_cons (ps_set (i := 9) scLaw.nd rfl (.inl rfl) (pe_call GU (hr.mono (by decide)) (by rfl) gU kU bU .nil pass0 (pa_cons (pv 7) (pa_cons (pv 8) pa_nil))))
      (pss_one (ps_ret (pe_and (pe_callB call_isi (by rfl) mi (by decide +kernel) (pa_cons (pv 9) (pa_cons (pe_bltn (by rfl) mb (by decide +kernel) (v := .ty "bool") rfl) pa_nil))) (pe_one (pe_cmpR op_eq (pv 9) (pe_cmpR op_eq (pe_slice sl_str (pv 7) po_none (po_some (pe_callB call_len_str (by rfl) ml PySem.boot_len (pa_cons (pv 8) pa_nil)))) (pv 8) (nomark _)) (nomark _)))))))))))))))))))), ?_⟩
    have cellAt : ∀ (j : Nat) (H' : Hp) (σ : L2.St) (R : VK), σ[0]? = some (some (.ref a)) → SameT T H H' → R (.int (cellOf ns j)) H' → tCall (spCell K) [] E0 (tCons (tVar 0) (tCons (tC (.int (j : Nat))) tNil)) σ H' R :=
      fun j H' σ R h0 hs hR => ⟨_, h0, a, ns, j, rfl, hs.seq hT hS, hR⟩
    have h00 : SameT T H H := SameT.refl hT
    -- size, made
    refine cellAt 0 _ _ _ rfl h00 ⟨_, _, rfl, rfl, (by show (0 : Int) < 15; decide), ?_⟩
    have n0 : 0 ≤ cellOf ns 0 % 15 := Int.emod_nonneg _ (by decide)
    have n1 : cellOf ns 0 % 15 < 15 := Int.emod_lt_of_pos _ (by decide)
    refine cellAt 1 _ _ _ rfl h00 ?_
    refine ⟨_, rfl, _, _, rfl, n0, by omega, fun z hz => ?_⟩
    -- one sign put in
    refine ⟨fun σ H' => H' = H ∧ ∃ (z : Str) (x y : Option V), z.length ≤ 100 ∧ σ = [some (.ref a), some (.int (cellOf ns 0 % 15)), some (.str z), x, y, none, none, none, none, none], ?_, ?_⟩
    · refine ⟨_, rfl, _, _, rfl, rfl, _, rfl, ite2 (fun e => ?_) (fun e => ?_)⟩
      · have ps : cellOf ns 0 % 15 ≠ 0 := fun q => by
          have e2 : (0 : Int) < cellOf ns 0 % 15 := of_decide_eq_true e
          omega
        refine cellAt 2 _ _ _ rfl h00 ⟨_, _, rfl, rfl, (by show (0 : Int) < 3; decide), rfl, _, rfl, ite2 (fun e => ?_) (fun e => ?_)⟩
        · refine cellAt 2 _ _ _ rfl h00 ⟨_, _, rfl, rfl, ⟨by decide, by decide⟩, _, rfl, _, _, rfl, rfl, ps, ?_⟩
          refine cellAt 3 _ _ _ rfl h00 ⟨_, rfl, fun n => ?_⟩
          refine ⟨fun σ H' => H' = H ∧ ∃ (i : Int) (m : Nat), σ = [some (.ref a), some (.int (cellOf ns 0 % 15)), some (.str z), some (.int i), some (.str ⟨#[m]⟩), none, none, none, none, none], ?_, ?_⟩
          · refine cellAt 3 _ _ _ rfl h00 ⟨_, _, rfl, rfl, (by show (0 : Int) < 3; decide), rfl, _, rfl, ite2 (fun e => ?_) (fun e => ?_)⟩
            · obtain ⟨ch, hch⟩ := at_has (l := ("09az./:" : Str).cps.toList) (i := cellOf ns 3 / 3 % 7) (Int.emod_nonneg _ (by decide)) (by show _ < (7 : Int); exact Int.emod_lt_of_pos _ (by decide))
              refine cellAt 3 _ _ _ rfl h00 ⟨_, _, rfl, rfl, ⟨by decide, by decide⟩, _, _, rfl, rfl, (by show (0 : Int) < 7; decide), _, _, ch, rfl, rfl, (by decide +kernel), hch, rfl, _, ch, rfl⟩
            · exact ⟨rfl, _, n, rfl⟩
          · rintro σ H' ⟨rfl, i, m, rfl⟩
            have l1 : (cutS z none (some i)).length ≤ z.length := cutS_length _ _ _
            have l2 : (cutS z (some (i + 1)) none).length ≤ z.length := cutS_length _ _ _
            have l3 : (⟨#[m]⟩ : Str).length = 1 := rfl
            refine ⟨_, rfl, _, rfl, i, rfl, z, rfl, small_line (by omega), _, rfl, _, _, rfl, rfl, small_line (by omega), _, rfl, _, rfl, _, _, rfl, rfl, i + 1, rfl, z, rfl, small_line (by omega), _, _, rfl, rfl, ?_, rfl, _, _, _, ?_, rfl⟩
            · rw [len_app]
              exact small_line (by omega)
            · rw [len_app, len_app]
              omega
        · exact ⟨rfl, z, none, none, by omega, rfl⟩
      · exact iteF ⟨rfl, z, none, none, by omega, rfl⟩
    rintro σ1 H1 ⟨rfl, z, x, y, hz, rfl⟩
    -- asked of the text
    refine ⟨fun σ H' => SameT T H1 H' ∧ σ = [some (.ref a), some (.int (cellOf ns 0 % 15)), some (.str z), x, y, none, none, none, none, none], ?_, ?_⟩
    · refine ⟨_, rfl, _, rfl, z, rfl, by omega, _, rfl, ite2 (fun e => ?_) (fun e => ?_)⟩
      · have en : nameV (.str z) = !decide (V.str z = V.str "") := by
          show (headB z && _) = _
          rw [e, Bool.true_and]
        refine ⟨_, rfl, rfl, _, rfl, z, rfl, by omega, (by show 3 ≤ sizeLine; decide), fun p hp => ⟨.str z, p, rfl, .str z (by omega), (SameT.new hT hp).1, (by rw [en]; exact upd_same), fun H' s' => ⟨_, rfl, iteF ⟨(SameT.new hT hp).trans s', rfl⟩⟩⟩⟩
      · have en : nameV (.str z) = false := by
          show (headB z && _) = _
          rw [Bool.eq_false_iff.mpr e, Bool.false_and]
        refine ⟨_, rfl, z, rfl, by omega, (by show 3 ≤ sizeLine; decide), fun p hp => ⟨.str z, p, rfl, .str z (by omega), (SameT.new hT hp).1, (by rw [en]; exact upd_same), fun H' s' => ⟨_, rfl, iteF ⟨(SameT.new hT hp).trans s', rfl⟩⟩⟩⟩
    rintro σ1 H2 ⟨h2, rfl⟩
    -- the number
    refine cellAt 4 _ _ _ rfl h2 ?_
    refine ⟨fun σ H' => SameT T H1 H' ∧ ∃ m : Int, σ = [some (.ref a), some (.int (cellOf ns 0 % 15)), some (.str z), x, y, some (.int m), none, none, none, none], ?_, ?_⟩
    · refine ⟨_, rfl, _, _, rfl, rfl, (by show (0 : Int) < 2; decide), rfl, _, rfl, ite2 (fun e => ?_) (fun e => ⟨h2, _, rfl⟩)⟩
      refine ⟨_, _, rfl, rfl, ⟨by decide, by decide, by decide⟩, _, _, rfl, rfl, ⟨by decide, by decide, by decide⟩, _, rfl, (by show 2 ≤ sizeLine; decide), fun p hp => ?_⟩
      have m0 : 0 ≤ cellOf ns 4 / 2 % 2 := Int.emod_nonneg _ (by decide)
      have m1 : cellOf ns 4 / 2 % 2 < 2 := Int.emod_lt_of_pos _ (by decide)
      have hv : ∃ m : Int, atI [V.int ((10 : Int) ^ (30 : Int).toNat), V.int (-((10 : Int) ^ (30 : Int).toNat))] (cellOf ns 4 / 2 % 2) = some (.int m) := by
        rcases (by omega : cellOf ns 4 / 2 % 2 = 0 ∨ cellOf ns 4 / 2 % 2 = 1) with e0 | e0
        · rw [e0]
          exact ⟨_, atI_nat (j := 0) rfl⟩
        · rw [e0]
          exact ⟨_, atI_nat (j := 1) rfl⟩
      obtain ⟨m, hm⟩ := hv
      refine ⟨_, rfl, _, _, rfl, rfl, ⟨by decide, by decide⟩, _, _, rfl, rfl, (by show (0 : Int) < 2; decide), p, _, _, _, rfl, rfl, SqL.of upd_same, hm, _, rfl, _, _, rfl, rfl, ⟨by decide, by decide⟩, _, _, rfl, rfl, (by show (0 : Int) < 7; decide), _, _, rfl, rfl, _, _, rfl, rfl, h2.trans (SameT.new h2.1 hp), _, rfl⟩
    rintro σ1 H3 ⟨h3, m, rfl⟩
    -- asked of the number
    refine ⟨fun σ H' => SameT T H1 H' ∧ σ = [some (.ref a), some (.int (cellOf ns 0 % 15)), some (.str z), x, y, some (.int m), none, none, none, none], ?_, ?_⟩
    · refine ⟨_, rfl, _, _, rfl, rfl, ⟨by decide, by decide, by decide⟩, _, rfl, _, rfl, _, _, rfl, rfl, _, rfl, ite2 (fun e => ?_) (fun e => ?_)⟩
      · have e1 : decide (-(10 ^ 30) ≤ m) = true := e
        have en : valueV (.int m) = decide (m ≤ 10 ^ 30) := by
          show (decide _ && _) = _
          rw [e1, Bool.true_and]
        refine ⟨_, rfl, _, _, rfl, rfl, ⟨by decide, by decide, by decide⟩, _, _, rfl, rfl, (by show 3 ≤ sizeLine; decide), fun p hp => ⟨.int m, p, rfl, .int m, (SameT.new h3.1 hp).1, (by rw [en]; exact upd_same), fun H' s' => ⟨_, rfl, iteF ⟨h3.trans ((SameT.new h3.1 hp).trans s'), rfl⟩⟩⟩⟩
      · have e1 : decide (-(10 ^ 30) ≤ m) = false := Bool.eq_false_iff.mpr e
        have en : valueV (.int m) = false := by
          show (decide _ && _) = _
          rw [e1, Bool.false_and]
        refine ⟨(by show 3 ≤ sizeLine; decide), fun p hp => ⟨.int m, p, rfl, .int m, (SameT.new h3.1 hp).1, (by rw [en]; exact upd_same), fun H' s' => ⟨_, rfl, iteF ⟨h3.trans ((SameT.new h3.1 hp).trans s'), rfl⟩⟩⟩⟩
    rintro σ1 H4 ⟨h4, rfl⟩
    -- asked of other things
    refine ⟨fun σ H' => SameT T H1 H' ∧ ∃ k : Option V, σ = [some (.ref a), some (.int (cellOf ns 0 % 15)), some (.str z), x, y, some (.int m), k, none, none, none], ?_, ?_⟩
    · refine ⟨_, rfl, (by show 1 ≤ sizeLine; decide), fun p1 n1 => ⟨_, rfl, (by show 1 ≤ sizeLine; decide), fun p2 n2 => ⟨(by show 4 ≤ sizeLine; decide), fun p3 n3 => ?_⟩⟩⟩
      have t1 := SameT.new (o := .lst [.str z]) h4.1 n1
      have t2 := SameT.new (o := .tup [.str z]) t1.1 n2
      have t3 := SameT.new (o := .lst [.bl true, .bl false, .ref p1, .ref p2]) t2.1 n3
      refine ⟨p3, rfl, ⟨_, SqL.of upd_same⟩, for_list (K := K) (a := p3) (xs := [.bl true, .bl false, .ref p1, .ref p2])
        (fun i σ H' => SameT T _ H' ∧ ∃ k : Option V, σ = [some (.ref a), some (.int (cellOf ns 0 % 15)), some (.str z), x, y, some (.int m), k, none, none, none])
        ⟨SameT.refl t3.1, none, rfl⟩ (fun i σ H' _ h => h.1.seq t3.1 (SqL.of upd_same)) ?_ ?_⟩
      · rintro i v σ H5 hv ⟨h5, k, rfl⟩
        have th : Thing H5 v ∧ nameV v = false ∧ headV v = false ∧ valueV v = false := by
          have h1 := List.mem_of_getElem? hv
          have h2 : v = .bl true ∨ v = .bl false ∨ v = .ref p1 ∨ v = .ref p2 := by simpa using h1
          rcases h2 with q | q | q | q
          · subst q
            exact ⟨.bl _, rfl, rfl, rfl⟩
          · subst q
            exact ⟨.bl _, rfl, rfl, rfl⟩
          · subst q
            refine ⟨Thing.mono (.lst (xs := [.str z]) ?_) t3.1 h5, rfl, rfl, rfl⟩
            exact t3.2 _ _ (tabG_ne h4.1 n1) (t2.2 _ _ (tabG_ne h4.1 n1) upd_same)
          · subst q
            refine ⟨Thing.mono (.tup (xs := [.str z]) ?_) t3.1 h5, rfl, rfl, rfl⟩
            exact t3.2 _ _ (tabG_ne t1.1 n2) upd_same
        obtain ⟨th, e1, e2, e3⟩ := th
        refine ⟨_, rfl, (by show 3 ≤ sizeLine; decide), fun p hp => ⟨v, p, rfl, th.mono h5.1 (SameT.new h5.1 hp), (SameT.new h5.1 hp).1, (by rw [e1, e2, e3]; exact upd_same), fun H' s' => ⟨_, rfl, iteF ⟨h5.trans ((SameT.new h5.1 hp).trans s'), _, rfl⟩⟩⟩⟩
      · rintro σ H5 ⟨h5, k, rfl⟩
        exact ⟨h4.trans (t1.trans (t2.trans (t3.trans h5))), k, rfl⟩
    rintro σ1 H5 ⟨h5, k, rfl⟩
    -- asked of None
    refine ⟨fun σ H' => SameT T H1 H' ∧ σ = [some (.ref a), some (.int (cellOf ns 0 % 15)), some (.str z), x, y, some (.int m), k, none, none, none], ?_, ?_⟩
    · refine ⟨(by show 3 ≤ sizeLine; decide), fun p hp => ⟨.non, p, rfl, .non, (SameT.new h5.1 hp).1, upd_same, fun H' s' => ⟨_, rfl, iteF ⟨h5.trans ((SameT.new h5.1 hp).trans s'), rfl⟩⟩⟩⟩
    rintro σ1 H6 ⟨h6, rfl⟩
    -- a name and a head
    have c0 : 0 ≤ cellOf ns 6 % 12 := Int.emod_nonneg _ (by decide)
    have c1 : cellOf ns 6 % 12 < 12 := Int.emod_lt_of_pos _ (by decide)
    refine cellAt 5 _ _ _ rfl h6 ?_
    refine cellAt 6 _ _ _ rfl h6 ⟨_, _, rfl, rfl, (by show (0 : Int) < 12; decide), _, _, rfl, rfl, _, _, rfl, by omega, by omega, fun nm hnm => ?_⟩
    refine ⟨_, rfl, cellAt 7 _ _ _ rfl h6 ⟨_, rfl, nm, rfl, small_line (by omega), _, _, rfl, rfl, _, _, rfl, rfl, (by omega), _, rfl, nm, rfl, small_line (by omega), ?_⟩⟩
    refine ⟨fun σ H' => SameT T H1 H' ∧ ∃ hd : Str, hd.length ≤ 100 ∧ σ = [some (.ref a), some (.int (cellOf ns 0 % 15)), some (.str z), x, y, some (.int m), k, some (.str nm), some (.str hd), none], ?_, ?_⟩
    · have l1 : (cutS nm none (some ((cellOf ns 7).fmod ((nm.length : Int) + 1)))).length ≤ nm.length := cutS_length _ _ _
      refine cellAt 8 _ _ _ rfl h6 ⟨_, _, rfl, rfl, (by show (0 : Int) < 3; decide), rfl, _, rfl, ite2 (fun e => ?_) (fun e => ?_)⟩
      · refine cellAt 8 _ _ _ rfl h6 (cellAt 7 _ _ _ rfl h6 ⟨_, _, rfl, rfl, (by show (0 : Int) < 13; decide), _, _, rfl, ?_, ?_, fun t ht => ⟨h6, t, ?_, rfl⟩⟩)
        · exact Int.emod_nonneg _ (by decide)
        · have d1 : cellOf ns 7 % 13 < 13 := Int.emod_lt_of_pos _ (by decide)
          omega
        · have d1 : cellOf ns 7 % 13 < 13 := Int.emod_lt_of_pos _ (by decide)
          omega
      · exact ⟨h6, _, by omega, rfl⟩
    rintro σ1 H7 ⟨h7, hd, hh, rfl⟩
    refine ⟨fun σ H' => SameT T H1 H' ∧ ∃ hd : Str, hd.length ≤ 100 ∧ σ = [some (.ref a), some (.int (cellOf ns 0 % 15)), some (.str z), x, y, some (.int m), k, some (.str nm), some (.str hd), none], ?_, ?_⟩
    · refine cellAt 8 _ _ _ rfl h7 ⟨_, _, rfl, rfl, (by show (0 : Int) < 3; decide), rfl, _, rfl, ite2 (fun e => ?_) (fun e => ?_)⟩
      · have l1 : (cutS nm (some ((cellOf ns 7).fmod (nm.length : Int))) none).length ≤ nm.length := cutS_length _ _ _
        exact ⟨_, rfl, cellAt 7 _ _ _ rfl h7 ⟨_, rfl, nm, rfl, small_line (by omega), _, _, rfl, rfl, (by omega), _, rfl, nm, rfl, small_line (by omega), h7, _, by omega, rfl⟩⟩
      · exact ⟨h7, hd, hh, rfl⟩
    rintro σ1 H8 ⟨h8, hd, hh, rfl⟩
    refine ⟨_, rfl, _, rfl, nm, hd, rfl, ?_⟩
    refine ⟨_, rfl, _, _, _, _, _, rfl, .ty _, .base (.bl _), kit_ty (show kitB "bool" "bool" = some true by decide +kernel), _, rfl, iteT ?_⟩
    refine ⟨_, rfl, _, rfl, _, rfl, hd, rfl, small_line (by omega), _, rfl, nm, rfl, small_line (by omega), _, rfl, rfl, rfl, ?_⟩
    rw [under_eq nm hd, decide_eq_true rfl]
    exact q _
end
end Kt

namespace Kt
open PySem PySem.Spec PyProof.Rows L2 GxR
/-- behind the top, the def of that name has a code object and an empty table -/
def TabOf (x : Str) (mg : Str → Option Value) (h : Heap) : Prop :=
  ∃ (a c T : Addr) (o : Obj) (fd : FuncData), mg x = some (.ref a) ∧ h.get? a = some o ∧ o.data = .func fd ∧ fd.code = .ref c ∧
    PySem.W.CodeHd h c T ∧ h.get? T = some { cls := .none, data := .fields #[] }
theorem walk_tab {l : PySem.W.OpenLaw} {n k : Nat} {q : Program} {loose : List Str} {XP : (Str → Option Value) → Heap → Prop} {YP : World → Heap → Prop} {d : DefRec}
    {K : Params → PySem.W.Frag} {CX : World → CXT} {x nm : Str}
    (hn : l.most = some n) (hn2 : n ≤ sizeLine) (hdf : d.params.defaults = []) (hr : Room k callerA)
    (hrec : ((recsOf q).any fun r => r.name == nm) = true) (hY : ∀ (w : World) (h : Heap), YP w h → (K w.params).In h)
    (F : ∀ (w : World) (mg : Str → Option Value) (fa : Addr) (h : Heap), YP w h → XP mg h → (K w.params).In h → h.Ns mainGlobals mg →
      mg d.name = some (.ref fa) → TabOf nm mg h → LamX.LawAtS l w (K w.params) (CX w) k n x mg fa h)
    (hCX : ∀ (w : World) (H : Hp) (s : Shared) (e : Value) (s' : Shared), CX w [] H s (fun _ _ _ => False) e s' → False) :
    PySem.W.WalkO q loose XP YP l.row.toRowW d [] (fun f vs => PySem.call f vs) := by
  refine Att.attach_callB hn hdf fun w sa sb mg mb fa o pm cd doc a vs ns G Y ho hd hcd hmg hobj hints hlen hbits hg => ?_
  have tab : TabOf nm mg sb.heap := by
    obtain ⟨r, hr1, hr2⟩ := List.any_eq_true.mp hrec
    obtain ⟨b, ob, fd, c, T, g1, g2, g3, g4, g5, g6⟩ := G.T.tab r hr1
    rw [show r.name = nm from beq_iff_eq.mp hr2] at g1
    exact ⟨b, c, T, ob, fd, g1, g2, g3, g4, .of g5 g6, g6.2⟩
  obtain ⟨fd, cs, sp, t1, t2, t3, t4, t5, t6⟩ := F w mg fa _ Y G.X (hY w _ Y) G.T.g hmg tab
  exact LamX.law_callTs (hY w _ Y) G.T.g G.T.b G.T.builtins G.T.nolimit hg t1 t2 t3 G.T.bmain hobj hints (Nat.le_trans hlen hn2) hr t6 t4
    (fun H hH hS => t5 H a ns hlen hbits hH hS) fun H e s' => hCX w H sb e s'
theorem all_mk {l : PySem.W.OpenLaw} {w : World} {K : PySem.W.Frag} {h : Heap} {mg : Str → Option Value} {fa : Addr} (X : K.In h) (G : h.Ns mainGlobals mg) (hfa : mg "law" = some (.ref fa)) (hT : TabOf "is_head" mg h)
    {fN : Addr} {odN anN : Option Addr} {slN : Array (Option Value)} {ocN kVN dcN pmN ctN : Value} {cdN : Value}
    (aN : PySem.W.nsIn K mainGlobals "is_name" = some (some (.ref fN)))
    (lN : K.lookup fN = some ⟨ocN, odN, .func (PySem.W.fnOf "is_name" "is_name" (defArgs sName) (defBody sName) (defScope sName) .none kVN dcN pmN anN cdN ctN), slN⟩)
    (cN : PySem.W.codeIn K cdN "is_name" = true) (kN : PySem.W.keepIn K (.ref fN) = true)
    {fH : Addr} {odH anH : Option Addr} {slH : Array (Option Value)} {ocH kVH dcH pmH ctH : Value} {oH : Addr}
    (aH : PySem.W.nsIn K mainGlobals "is_head" = some (some (.ref fH)))
    (lH : K.lookup fH = some ⟨ocH, odH, .func (PySem.W.fnOf "is_head" "is_head" (defArgs sHead) (defBody sHead) (defScope sHead) .none kVH dcH pmH anH (.ref oH) ctH), slH⟩)
    (cH : PySem.W.codeIn K (.ref oH) "is_head" = true) (kH : PySem.W.keepIn K (.ref fH) = true)
    {fW : Addr} {odW anW : Option Addr} {slW : Array (Option Value)} {ocW kVW dcW pmW ctW : Value} {cdW : Value}
    (aW : PySem.W.nsIn K mainGlobals "is_whole" = some (some (.ref fW)))
    (lW : K.lookup fW = some ⟨ocW, odW, .func (PySem.W.fnOf "is_whole" "is_whole" (defArgs sWhole) (defBody sWhole) (defScope sWhole) .none kVW dcW pmW anW cdW ctW), slW⟩)
    (cW : PySem.W.codeIn K cdW "is_whole" = true) (kW : PySem.W.keepIn K (.ref fW) = true)
    {fV : Addr} {odV anV : Option Addr} {slV : Array (Option Value)} {ocV kVV dcV pmV ctV : Value} {cdV : Value}
    (aV : PySem.W.nsIn K mainGlobals "is_value" = some (some (.ref fV)))
    (lV : K.lookup fV = some ⟨ocV, odV, .func (PySem.W.fnOf "is_value" "is_value" (defArgs sValue) (defBody sValue) (defScope sValue) .none kVV dcV pmV anV cdV ctV), slV⟩)
    (cV : PySem.W.codeIn K cdV "is_value" = true) (kV : PySem.W.keepIn K (.ref fV) = true)
    {fU : Addr} {odU anU : Option Addr} {slU : Array (Option Value)} {ocU kVU dcU pmU ctU : Value} {cdU : Value}
    (aU : PySem.W.nsIn K mainGlobals "is_under" = some (some (.ref fU)))
    (lU : K.lookup fU = some ⟨ocU, odU, .func (PySem.W.fnOf "is_under" "is_under" (defArgs sUnder) (defBody sUnder) (defScope sUnder) .none kVU dcU pmU anU cdU ctU), slU⟩)
    (cU : PySem.W.codeIn K cdU "is_under" = true) (kU : PySem.W.keepIn K (.ref fU) = true)
    {fC : Addr} {odC anC : Option Addr} {slC : Array (Option Value)} {ocC kVC dcC pmC ctC : Value} {cdC : Value}
    (aC : PySem.W.nsIn K mainGlobals "_law_cell_at" = some (some (.ref fC)))
    (lC : K.lookup fC = some ⟨ocC, odC, .func (PySem.W.fnOf "_law_cell_at" "_law_cell_at" (defArgs sCell) (defBody sCell) (defScope sCell) .none kVC dcC pmC anC cdC ctC), slC⟩)
    (cC : PySem.W.codeIn K cdC "_law_cell_at" = true) (kC : PySem.W.keepIn K (.ref fC) = true)
    {fM : Addr} {odM anM : Option Addr} {slM : Array (Option Value)} {ocM kVM dcM pmM ctM : Value} {cdM : Value}
    (aM : PySem.W.nsIn K mainGlobals "_law_mixed" = some (some (.ref fM)))
    (lM : K.lookup fM = some ⟨ocM, odM, .func (PySem.W.fnOf "_law_mixed" "_law_mixed" (defArgs sMixed) (defBody sMixed) (defScope sMixed) .none kVM dcM pmM anM cdM ctM), slM⟩)
    (cM : PySem.W.codeIn K cdM "_law_mixed" = true) (kM : PySem.W.keepIn K (.ref fM) = true)
    {fT : Addr} {odT anT : Option Addr} {slT : Array (Option Value)} {ocT kVT dcT pmT ctT : Value} {cdT : Value}
    (aT : PySem.W.nsIn K mainGlobals "_law_text_by" = some (some (.ref fT)))
    (lT : K.lookup fT = some ⟨ocT, odT, .func (PySem.W.fnOf "_law_text_by" "_law_text_by" (defArgs sText) (defBody sText) (defScope sText) .none kVT dcT pmT anT cdT ctT), slT⟩)
    (cT : PySem.W.codeIn K cdT "_law_text_by" = true) (kT : PySem.W.keepIn K (.ref fT) = true)
    {fS : Addr} {odS anS : Option Addr} {slS : Array (Option Value)} {ocS kVS dcS pmS ctS : Value} {cdS : Value}
    (aS : PySem.W.nsIn K mainGlobals "_law_sign_by" = some (some (.ref fS)))
    (lS : K.lookup fS = some ⟨ocS, odS, .func (PySem.W.fnOf "_law_sign_by" "_law_sign_by" (defArgs sSign) (defBody sSign) (defScope sSign) .none kVS dcS pmS anS cdS ctS), slS⟩)
    (cS : PySem.W.codeIn K cdS "_law_sign_by" = true) (kS : PySem.W.keepIn K (.ref fS) = true)
    {fG : Addr} {odG anG : Option Addr} {slG : Array (Option Value)} {ocG kVG dcG pmG ctG : Value} {cdG : Value}
    (aG : PySem.W.nsIn K mainGlobals "_law_good" = some (some (.ref fG)))
    (lG : K.lookup fG = some ⟨ocG, odG, .func (PySem.W.fnOf "_law_good" "_law_good" (defArgs sGood) (defBody sGood) (defScope sGood) .none kVG dcG pmG anG cdG ctG), slG⟩)
    (cG : PySem.W.codeIn K cdG "_law_good" = true) (kG : PySem.W.keepIn K (.ref fG) = true)
    {fA : Addr} {odA anA : Option Addr} {slA : Array (Option Value)} {ocA kVA dcA pmA ctA : Value} {cdA : Value}
    (aA : PySem.W.nsIn K mainGlobals "_law_asked" = some (some (.ref fA)))
    (lA : K.lookup fA = some ⟨ocA, odA, .func (PySem.W.fnOf "_law_asked" "_law_asked" (defArgs sAsked) (defBody sAsked) (defScope sAsked) .none kVA dcA pmA anA cdA ctA), slA⟩)
    (cA : PySem.W.codeIn K cdA "_law_asked" = true) (kA : PySem.W.keepIn K (.ref fA) = true)
    {fL : Addr} {odL anL : Option Addr} {slL : Array (Option Value)} {ocL kVL dcL pmL ctL : Value} {cdL : Value}
    (aL : PySem.W.nsIn K mainGlobals "law" = some (some (.ref fL)))
    (lL : K.lookup fL = some ⟨ocL, odL, .func (PySem.W.fnOf "law" "law" (defArgs sLaw) (defBody sLaw) (defScope sLaw) .none kVL dcL pmL anL cdL ctL), slL⟩)
    (cL : PySem.W.codeIn K cdL "law" = true) (kL : PySem.W.keepIn K (.ref fL) = true)
    {eH : Value} {dH : Option Addr} {vsH : Array Value} {slO : Array (Option Value)} {tH : Addr} (oH1 : K.lookup oH = some ⟨eH, dH, .fields vsH, slO⟩) (oH2 : vsH[11]? = some (.ref tH)) (oH3 : K.lookup tH = none)
    {tS tN : Tok} (zS : PySem.W.nsIn K mainGlobals "SIGNS" = some (some (.str "abcdefghijklmnopqrstuvwxyz0123456789." tS))) (zN : PySem.W.nsIn K mainGlobals "LONGEST" = some (some (.int 12 tN))) (zL : ∃ t : Tok, mg "LARGEST" = some (.int 1000000000000000000000000000000 t))
    (z_len : PySem.W.nsIn K mainGlobals "len" = some none) (z_range : PySem.W.nsIn K mainGlobals "range" = some none) (z_isinstance : PySem.W.nsIn K mainGlobals "isinstance" = some none) (z_str : PySem.W.nsIn K mainGlobals "str" = some none) (z_bool : PySem.W.nsIn K mainGlobals "bool" = some none) (z_int : PySem.W.nsIn K mainGlobals "int" = some none) (z_all : PySem.W.nsIn K mainGlobals "all" = some none) :
    LamX.LawAtS l w K CX0 4 63 "_law_script" mg fa h := by
  have e := hfa.symm.trans (PySem.W.mg_of X G aL)
  cases e
  have FN := fun_mk (st := sName) lN cN kN
  have FH : FunC K "is_head" "is_head" sHead fH oH _ := ⟨⟨ocH, odH, kVH, dcH, pmH, anH, ctH, slH, rfl, lH, cH⟩, kH⟩
  have FH2 := fun_mk (st := sHead) lH cH kH
  have FW := fun_mk (st := sWhole) lW cW kW
  have FV := fun_mk (st := sValue) lV cV kV
  have FU := fun_mk (st := sUnder) lU cU kU
  have FC := fun_mk (st := sCell) lC cC kC
  have FM := fun_mk (st := sMixed) lM cM kM
  have FT := fun_mk (st := sText) lT cT kT
  have FS := fun_mk (st := sSign) lS cS kS
  have FG := fun_mk (st := sGood) lG cG kG
  have FA := fun_mk (st := sAsked) lA cA kA
  have FL := fun_mk (st := sLaw) lL cL kL
  have bN := FN.binds (ps := ["thing"]) fun _ _ _ _ _ _ us hl => match us, hl with | [_], _ => rfl
  have bH := FH2.binds (ps := ["thing"]) fun _ _ _ _ _ _ us hl => match us, hl with | [_], _ => rfl
  have bW := FW.binds (ps := ["thing"]) fun _ _ _ _ _ _ us hl => match us, hl with | [_], _ => rfl
  have bV := FV.binds (ps := ["thing"]) fun _ _ _ _ _ _ us hl => match us, hl with | [_], _ => rfl
  have bU := FU.binds (ps := ["name", "head"]) fun _ _ _ _ _ _ us hl => match us, hl with | [_, _], _ => rfl
  have bC := FC.binds (ps := ["_law_script", "_law_k"]) fun _ _ _ _ _ _ us hl => match us, hl with | [_, _], _ => rfl
  have bM := FM.binds (ps := ["_law_number"]) fun _ _ _ _ _ _ us hl => match us, hl with | [_], _ => rfl
  have bT := FT.binds (ps := ["_law_cell", "_law_size"]) fun _ _ _ _ _ _ us hl => match us, hl with | [_, _], _ => rfl
  have bS := FS.binds (ps := ["_law_cell"]) fun _ _ _ _ _ _ us hl => match us, hl with | [_], _ => rfl
  have bG := FG.binds (ps := ["_law_made"]) fun _ _ _ _ _ _ us hl => match us, hl with | [_], _ => rfl
  have bA := FA.binds (ps := ["_law_thing", "_law_due"]) fun _ _ _ _ _ _ us hl => match us, hl with | [_, _], _ => rfl
  obtain ⟨tL, zL⟩ := zL
  have gL : mg "LARGEST" = some (.int (10 ^ 30) tL) := by
    rw [show (10 : Int) ^ 30 = 1000000000000000000000000000000 by decide]
    exact zL
  have gNm := PySem.W.mg_of X G aN
  have gHm := PySem.W.mg_of X G aH
  have gWm := PySem.W.mg_of X G aW
  have gVm := PySem.W.mg_of X G aV
  have gUm := PySem.W.mg_of X G aU
  have gCm := PySem.W.mg_of X G aC
  have gMm := PySem.W.mg_of X G aM
  have gTm := PySem.W.mg_of X G aT
  have gSm := PySem.W.mg_of X G aS
  have gGm := PySem.W.mg_of X G aG
  have gAm := PySem.W.mg_of X G aA
  have gLm := PySem.W.mg_of X G aL
  have m_len := PySem.W.mg_none_of X G z_len
  have m_range := PySem.W.mg_none_of X G z_range
  have m_isinstance := PySem.W.mg_none_of X G z_isinstance
  have m_str := PySem.W.mg_none_of X G z_str
  have m_bool := PySem.W.mg_none_of X G z_bool
  have m_int := PySem.W.mg_none_of X G z_int
  have m_all := PySem.W.mg_none_of X G z_all
  obtain ⟨fq, cq, tq, oq, fdq, q1, q2, q3, q4, q5, q6⟩ := hT
  rw [gHm] at q1
  cases q1
  rw [X _ _ lH] at q2
  cases q2
  cases q3
  cases q4
  have et : tq = tH := by
    obtain ⟨o, vs, _, _, _, _, _, _, _, e1, _, e2, e3, _⟩ := q5
    rw [X _ _ oH1] at e1
    cases e1
    cases e2
    rw [oH2] at e3
    cases e3
    rfl
  subst et
  refine ⟨PySem.W.fnOf "law" "law" (defArgs sLaw) (defBody sLaw) (defScope sLaw) .none kVL dcL pmL anL cdL ctL, [(oH, tq)], spLaw K tq, fun p hp => ?_, fun p hp => ?_, fun p hp => ?_, fun s v => .of_eq rfl, fun H a ns hl hb hH hS => ?_, fun base _ _ hTB => ?_⟩
  · cases List.mem_singleton.mp hp
    exact q6
  · cases List.mem_singleton.mp hp
    exact oH3
  · cases List.mem_singleton.mp hp
    exact q5
  · have h0 := hH (oH, tq) (List.mem_singleton.mpr rfl)
    exact ⟨a, ns, rfl, hS, ⟨_, h0, True.intro⟩, fun _ => rfl⟩
  · have tb := hTB (oH, tq) (List.mem_singleton.mpr rfl)
    have GH := ok_head (P := l.prog) (w := w) (base := base) FH ⟨tb.code, tb.bm, tb.gP⟩ (PySem.W.mg_of X G zS) (PySem.W.mg_of X G zN) m_isinstance m_str m_len m_all
    have GN := ok_name (P := l.prog) (w := w) (base := base) FN GH kH bH gHm
    have GV := ok_value (P := l.prog) (w := w) (base := base) FV (ok_whole FW m_isinstance m_bool m_int) kW bW gWm gL
    exact ok_law FL (ok_cell FC m_len) kC bC gCm (ok_text FT FM bM gMm m_range) kT bT gTm (ok_sign FS) kS bS gSm (ok_good FG m_len) kG bG gGm
      (ok_asked FA GN kN bN gNm GH kH bH gHm GV kV bV gVm m_isinstance m_bool) kA bA gAm (ok_under FU) kU bU gUm m_isinstance m_bool m_len
end Kt
open PySem PySem.W PyProof.Rows
set_option maxHeartbeats 0 in
theorem PySem.Challenge.cw_keptrow_k02_names_and_values_holds : PySem.Challenge.rw_keptrow_k02_names_and_values.Holds := by
  w_on; o_law; k_head; (case hw => w_witness2)
  k_fill
  refine Kt.walk_tab (l := PySem.Challenge.rw_keptrow_k02_names_and_values) (n := 63) (k := 4) (x := "_law_script") (nm := "is_head") (CX := fun _ => L2.CX0) rfl (by decide) rfl ⟨rfl, by decide, by decide⟩ (by decide +kernel) (fun w h Y => PySem.W.kIn_of Y) ?F (fun _ _ _ _ _ h => h)
  case F =>
    intro w mg fa h Y X KX G hmg hT
    have zL : ∃ t : Tok, mg "LARGEST" = some (.int 1000000000000000000000000000000 t) := by
      obtain ⟨v, e, r⟩ := X.2.val _ (List.mem_singleton.mpr rfl)
      cases r
      exact ⟨_, e⟩
    refine' Kt.all_mk KX G hmg hT ?aN ?lN ?cN ?kN ?aH ?lH ?cH ?kH ?aW ?lW ?cW ?kW ?aV ?lV ?cV ?kV ?aU ?lU ?cU ?kU ?aC ?lC ?cC ?kC ?aM ?lM ?cM ?kM ?aT ?lT ?cT ?kT ?aS ?lS ?cS ?kS ?aG ?lG ?cG ?kG ?aA ?lA ?cA ?kA ?aL ?lL ?cL ?kL ?oH1 ?oH2 ?oH3 ?zS ?zN zL ?z_len ?z_range ?z_isinstance ?z_str ?z_bool ?z_int ?z_all
    (case aN => k_is)
    (case lN => k_is)
    (case cN => k_is)
    (case kN => k_is)
    (case aH => k_is)
    (case lH => k_is)
    (case cH => k_is)
    (case kH => k_is)
    (case aW => k_is)
    (case lW => k_is)
    (case cW => k_is)
    (case kW => k_is)
    (case aV => k_is)
    (case lV => k_is)
    (case cV => k_is)
    (case kV => k_is)
    (case aU => k_is)
    (case lU => k_is)
    (case cU => k_is)
    (case kU => k_is)
    (case aC => k_is)
    (case lC => k_is)
    (case cC => k_is)
    (case kC => k_is)
    (case aM => k_is)
    (case lM => k_is)
    (case cM => k_is)
    (case kM => k_is)
    (case aT => k_is)
    (case lT => k_is)
    (case cT => k_is)
    (case kT => k_is)
    (case aS => k_is)
    (case lS => k_is)
    (case cS => k_is)
    (case kS => k_is)
    (case aG => k_is)
    (case lG => k_is)
    (case cG => k_is)
    (case kG => k_is)
    (case aA => k_is)
    (case lA => k_is)
    (case cA => k_is)
    (case kA => k_is)
    (case aL => k_is)
    (case lL => k_is)
    (case cL => k_is)
    (case kL => k_is)
    (case oH1 => k_is)
    (case oH2 => rfl)
    (case oH3 => rfl)
    (case zS => k_is)
    (case zN => k_is)
    (case z_len => k_is)
    (case z_range => k_is)
    (case z_isinstance => k_is)
    (case z_str => k_is)
    (case z_bool => k_is)
    (case z_int => k_is)
    (case z_all => k_is)
