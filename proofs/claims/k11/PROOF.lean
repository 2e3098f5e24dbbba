import PyProof.Rows.All
import Wide.All
import OpenK.AllK
import Wide.FinOn
import HandS.ForMost
import HandS.Wide
import HandS.IsInst
import HandS.Gcd
import HandS.NoneIn
import HandS.ForExc
import HandS.ExcIs
import HandS.Star
import HandS.Walk
import HandS.Zip
import HandS.TupAny
import HandS.Strs
import PySem.Challenge.RW_hushpapers_k11_fixed_forms
set_option Elab.async false
set_option maxRecDepth 100000
set_option maxHeartbeats 4000000
namespace Toy
open PySem L2
def top (i : Nat) : Stmt := PySem.Challenge.pw_hushpapers_k11_fixed_forms.main.body.getD i (.Pass ⟨0, 0, 0, 0⟩)
abbrev s_inverse : Stmt := top 4
theorem scinverse : FnScope ["a", "q", "larger", "smaller", "larger_factor", "smaller_factor", "times"] ["a", "q"] (defScope s_inverse) := ⟨rfl, rfl, rfl, by decide +kernel, rfl, by decide +kernel, by decide +kernel⟩
abbrev s__minus_multiple : Stmt := top 6
theorem sc_minus_multiple : FnScope ["q", "row", "times", "lead", "entry", "other"] ["q", "row", "times", "lead"] (defScope s__minus_multiple) := ⟨rfl, rfl, rfl, by decide +kernel, rfl, by decide +kernel, by decide +kernel⟩
abbrev s__row_with : Stmt := top 7
theorem sc_row_with : FnScope ["grid", "top", "column", "at"] ["grid", "top", "column"] (defScope s__row_with) := ⟨rfl, rfl, rfl, by decide +kernel, rfl, by decide +kernel, by decide +kernel⟩
abbrev s__with_lead : Stmt := top 8
theorem sc_with_lead : FnScope ["q", "grid", "top", "at", "column", "scale", "lead", "entry", "others", "cleared", "row"] ["q", "grid", "top", "at", "column"] (defScope s__with_lead) := ⟨rfl, rfl, rfl, by decide +kernel, rfl, by decide +kernel, by decide +kernel⟩
abbrev s_reduced : Stmt := top 9
theorem screduced : FnScope ["q", "width", "rows", "grid", "row", "entry", "top", "column", "at"] ["q", "width", "rows"] (defScope s_reduced) := ⟨rfl, rfl, rfl, by decide +kernel, rfl, by decide +kernel, by decide +kernel⟩
abbrev s_rank : Stmt := top 10
theorem scrank : FnScope ["q", "width", "rows"] ["q", "width", "rows"] (defScope s_rank) := ⟨rfl, rfl, rfl, by decide +kernel, rfl, by decide +kernel, by decide +kernel⟩
abbrev s_is_fixed : Stmt := top 11
theorem scis_fixed : FnScope ["q", "width", "rows", "form"] ["q", "width", "rows", "form"] (defScope s_is_fixed) := ⟨rfl, rfl, rfl, by decide +kernel, rfl, by decide +kernel, by decide +kernel⟩
abbrev s_Lmixed : Stmt := top 13
theorem scLmixed : FnScope ["number", "turn", "many", "prime", "once", "twice"] ["number", "turn", "many"] (defScope s_Lmixed) := ⟨rfl, rfl, rfl, by decide +kernel, rfl, by decide +kernel, by decide +kernel⟩
abbrev s_Lpool : Stmt := top 14
theorem scLpool : FnScope ["script", "seed", "cell", "cells"] ["script"] (defScope s_Lpool) := ⟨rfl, rfl, rfl, by decide +kernel, rfl, by decide +kernel, by decide +kernel⟩
abbrev s_Ltake : Stmt := top 15
theorem scLtake : FnScope ["pool", "many", "drawn"] ["pool", "many"] (defScope s_Ltake) := ⟨rfl, rfl, rfl, by decide +kernel, rfl, by decide +kernel, by decide +kernel⟩
abbrev s_Lis_prime : Stmt := top 16
theorem scLis_prime : FnScope ["n", "d"] ["n"] (defScope s_Lis_prime) := ⟨rfl, rfl, rfl, by decide +kernel, rfl, by decide +kernel, by decide +kernel⟩
abbrev s_Lorder : Stmt := top 18
theorem scLorder : FnScope ["pool", "most", "odd", "n"] ["pool", "most"] (defScope s_Lorder) := ⟨rfl, rfl, rfl, by decide +kernel, rfl, by decide +kernel, by decide +kernel⟩
abbrev s_Lentry : Stmt := top 19
theorem scLentry : FnScope ["pool", "q"] ["pool", "q"] (defScope s_Lentry) := ⟨rfl, rfl, rfl, by decide +kernel, rfl, by decide +kernel, by decide +kernel⟩
abbrev s_Lrows : Stmt := top 20
theorem scLrows : FnScope ["pool", "q", "width", "many", "rows", "k", "row", "j", "other", "again", "times"] ["pool", "q", "width", "many"] (defScope s_Lrows) := ⟨rfl, rfl, rfl, by decide +kernel, rfl, by decide +kernel, by decide +kernel⟩
abbrev s_Lreduced : Stmt := top 21
theorem scLreduced : FnScope ["q", "width", "rows", "left", "row", "found", "leads", "column", "some", "lead", "turned", "one"] ["q", "width", "rows"] (defScope s_Lreduced) := ⟨rfl, rfl, rfl, by decide +kernel, rfl, by decide +kernel, by decide +kernel⟩
abbrev s_Lcleared : Stmt := top 22
theorem scLcleared : FnScope ["q", "row", "lead", "column", "many", "k"] ["q", "row", "lead", "column"] (defScope s_Lcleared) := ⟨rfl, rfl, rfl, by decide +kernel, rfl, by decide +kernel, by decide +kernel⟩
abbrev s_Linverse : Stmt := top 23
theorem scLinverse : FnScope ["a", "q", "b"] ["a", "q"] (defScope s_Linverse) := ⟨rfl, rfl, rfl, by decide +kernel, rfl, by decide +kernel, by decide +kernel⟩
abbrev s_Lproduct : Stmt := top 24
theorem scLproduct : FnScope ["q", "row", "x", "k"] ["q", "row", "x"] (defScope s_Lproduct) := ⟨rfl, rfl, rfl, by decide +kernel, rfl, by decide +kernel, by decide +kernel⟩
abbrev s_Lvectors : Stmt := top 25
theorem scLvectors : FnScope ["q", "width", "found", "k", "wider", "one", "a"] ["q", "width"] (defScope s_Lvectors) := ⟨rfl, rfl, rfl, by decide +kernel, rfl, by decide +kernel, by decide +kernel⟩
abbrev s_Lform : Stmt := top 26
theorem scLform : FnScope ["pool", "q", "width", "rows", "form", "k", "row", "times", "way", "at"] ["pool", "q", "width", "rows"] (defScope s_Lform) := ⟨rfl, rfl, rfl, by decide +kernel, rfl, by decide +kernel, by decide +kernel⟩
abbrev s_Lby_trying : Stmt := top 27
theorem scLby_trying : FnScope ["q", "width", "rows", "form", "counts", "x", "values", "row", "many", "at", "alone", "one", "even"] ["q", "width", "rows", "form"] (defScope s_Lby_trying) := ⟨rfl, rfl, rfl, by decide +kernel, rfl, by decide +kernel, by decide +kernel⟩
abbrev s_law : Stmt := top 28
theorem sclaw : FnScope ["script", "pool", "q", "width", "many", "rows", "turn", "form", "ranks", "due", "told"] ["script"] (defScope s_law) := ⟨rfl, rfl, rfl, by decide +kernel, rfl, by decide +kernel, by decide +kernel⟩
/-! ### calls by keywords alone -/
section
open PySem.Spec PyProof.Rows
variable {X : Cx} {CX : CXT} {k : Nat} {f : Addr} {fd : FuncData} {ps ks : List Str} {sp : Sp} {E : XK} {x : Str} {p pos : Pos} {kws : List Keyword} {tk : TA} {g : List Value → List Value → List Value} {gV : List V → List V → List V}
theorem pe_callK0 (F : FnOk X.prog X.w X.K X.mg X.base CX k f fd ps sp) (hr : Room k X.A) (hg : Gl X x) (hm : X.mg x = some (.ref f)) (hk : PySem.W.keepIn X.K (.ref f) = true) (hb : KBinds X.K fd ps ks g gV) (hx : Passes CX X E)
    (hkw : PK X kws tk) (hall : (backToKw pos (keywordEach kws X.env)).all (·.1.isSome) = true := by rfl) (hks : (backToKw pos (keywordEach kws X.env)).filterMap (·.1) = ks := by rfl)
    (hdb : (x == ("__debug__" : Str)) = false := by decide)
    (hpl : ((backTo pos (starEach [] X.env)).any (·.1) || (backToKw pos (keywordEach kws X.env)).any (·.1.isNone)) = false := by rfl) :
    PE X (.Call (.Name x p) [] kws pos) (tCallK sp gV E tNil tk) := by
  refine ⟨fun pins s σ H Q I h => ?_⟩
  refine wpAny_Call_Name_kw (ld_glob I hg hm ?_ hdb)
  refine PySem.W.callWith_KW0 (h₀ := X.base) I.ok.mod.kin hk hall ?_ hpl
  refine thn (hkw.run pos pins s σ H _ I h) fun ws s2 ⟨zs, H2, I2, rz, q2⟩ => ⟨I2.kIn, ?_⟩
  rw [hks]
  exact run_fnk (us := []) (vs := []) F hr hb hx I2 .nil rz q2
end
theorem fun_kbinds {K : PySem.W.Frag} {x qual : Str} {st : Stmt} {f : Addr} {fd : FuncData} {ps ks : List Str} {g : List Value → List Value → List Value} {gV : List V → List V → List V} (F : Fun K x qual st f fd)
    (hrel : ∀ {vs : List V} {us : List Value} {zs : List V} {ws : List Value}, Vals vs us → Vals zs ws → Vals (gV vs zs) (g us ws))
    (h : ∀ (kV doc pm : Value) (an : Option Addr) (cdv ct : Value) (us ws : List Value), (g us ws).length = ps.length → bindArgs (PySem.W.fnOf x qual (defArgs st) (defBody st) (defScope st) .none kV doc pm an cdv ct) ⟨us, ks.zip ws⟩ = pure (ps.zip (g us ws))) : KBinds K fd ps ks g gV := by
  obtain ⟨oc, od, kV, doc, pm, an, cdv, ct, osl, rfl, lk, hcd⟩ := F.ex
  exact ⟨fun s us ws _ hl => .of_eq (h kV doc pm an cdv ct us ws hl), hrel⟩
/-! ### errors of one's own, made without arguments -/
section
open PySem.Spec PyProof.Rows
variable {X : Cx}
theorem pmk_own0 {C : Addr} {bmB : List Value} {B newId initId : String} {x : Str} {p pos : Pos} (F : ExcBaseFacts B newId initId bmB) (q : PySem.W.excIn X.K C bmB newId = true) (gC : X.mg x = some (.ref C))
    (kC : PySem.W.keepIn X.K (.ref C) = true) (r : Raises X (.ref C)) (hg : Gl X x) (hdb : (x == ("__debug__" : Str)) = false := by decide) :
    PMk X (.Call (.Name x p) [] [] pos) (fun _ H Q => Q (.ref C) none H) := by
  intro pins s σ H Q I h
  refine wpAny_Call_Name_kw (ld_glob I hg gC ?_ hdb)
  refine PySem.W.callWith_K0 (first := []) I.kIn kC ?_
  show wpAny _ _ (call (.ref C) []) _ _ _
  have X0 := I.kIn
  obtain ⟨bm, N, nm, qn, bs, hdct, sn, sub, ab, col, dd, k0, k1, k2, k3, k5, mN, hC, hN, hni, T⟩ := exc_obj X0 q
  refine wpAny_call_exc_subT F T hC hN hni (fun h' e hm => ?_) (Nat.zero_le _)
  exact mk_of I hm r h (I.hok.gone hm.new)
theorem pss_given {st : List Stmt} {t : TS} {φ : Prop} (h : φ → PSs X st t) : PSs X st (fun D σ H => φ ∧ t D σ H) := ⟨fun pins s σ H D I q => (h q.1).run pins s σ H D I q.2⟩
end
theorem kit_own {K : PySem.W.Frag} {D C : Addr} {b : Bool} (i : PySem.W.isClsIn K C = true) (t : PySem.W.typeIn K (.ref C) = some (.type "type")) (s : PySem.W.subIn K (.ref D) (.ref C) = some b) (h : D = C → b = true) : PySem.W.kitOne K (.ref D) (.ref C) = some b := by
  unfold PySem.W.kitOne
  by_cases e : D = C
  · rw [if_pos (by rw [e]; exact beq_self_eq_true _), h e]
  · have ne : (Value.ref D == Value.ref C) = false := beq_eq_false_iff_ne.mpr (fun z => e (Value.ref.inj z))
    rw [if_neg (by rw [ne]; exact Bool.false_ne_true)]
    show (if ((PySem.W.clsIn K C).isSome && PySem.W.typeIn K (.ref C) == some (.type "type")) = true then PySem.W.subIn K (.ref D) (.ref C) else none) = some b
    have i' : (PySem.W.clsIn K C).isSome = true := i
    rw [i', t, if_pos (by rfl)]
    exact s
theorem kit_val {K : PySem.W.Frag} {D : Addr} {b : Bool} (s : PySem.W.subIn K (.ref D) (.type "ValueError") = some b) : PySem.W.kitOne K (.ref D) (.type "ValueError") = some b := by
  unfold PySem.W.kitOne
  have ne : (Value.ref D == Value.type "ValueError") = false := beq_eq_false_iff_ne.mpr (fun z => nomatch z)
  rw [if_neg (by rw [ne]; exact Bool.false_ne_true)]
  show (if PySem.W.kitMeta "ValueError" = true then PySem.W.subIn K (.ref D) (.type "ValueError") else none) = some b
  rw [if_pos (by decide +kernel)]
  exact s
def g_is_fixed_0_q_width_rows_form {α : Type} (us ws : List α) : List α := match us, ws with | [], [w0, w1, w2, w3] => [w0, w1, w2, w3] | _, _ => []
theorem g_is_fixed_0_q_width_rows_form_rel {vs : List V} {us : List Value} {zs : List V} {ws : List Value} (r : Vals vs us) (q : Vals zs ws) : Vals (g_is_fixed_0_q_width_rows_form vs zs) (g_is_fixed_0_q_width_rows_form us ws) := by
  unfold g_is_fixed_0_q_width_rows_form
  split
  · match r, q with | .nil, (.cons q0 (.cons q1 (.cons q2 (.cons q3 .nil)))) => exact (.cons q0 (.cons q1 (.cons q2 (.cons q3 .nil))))
  · next h =>
    split
    · match r, q with | .nil, (.cons q0 (.cons q1 (.cons q2 (.cons q3 .nil)))) => exact (h _ _ _ _ rfl rfl).elim
    · exact .nil
theorem g_is_fixed_0_q_width_rows_form_rel' : True := True.intro
structure Top (K : PySem.W.Frag) (mg : Str → Option Value) where
  f_inverse : Addr
  d_inverse : FuncData
  F_inverse : Fun K "inverse" "inverse" s_inverse f_inverse d_inverse
  m_inverse : mg "inverse" = some (.ref f_inverse)
  b_inverse : Binds K d_inverse ["a", "q"] []
  f__minus_multiple : Addr
  d__minus_multiple : FuncData
  F__minus_multiple : Fun K "_minus_multiple" "_minus_multiple" s__minus_multiple f__minus_multiple d__minus_multiple
  m__minus_multiple : mg "_minus_multiple" = some (.ref f__minus_multiple)
  b__minus_multiple : Binds K d__minus_multiple ["q", "row", "times", "lead"] []
  f__row_with : Addr
  d__row_with : FuncData
  F__row_with : Fun K "_row_with" "_row_with" s__row_with f__row_with d__row_with
  m__row_with : mg "_row_with" = some (.ref f__row_with)
  b__row_with : Binds K d__row_with ["grid", "top", "column"] []
  f__with_lead : Addr
  d__with_lead : FuncData
  F__with_lead : Fun K "_with_lead" "_with_lead" s__with_lead f__with_lead d__with_lead
  m__with_lead : mg "_with_lead" = some (.ref f__with_lead)
  b__with_lead : Binds K d__with_lead ["q", "grid", "top", "at", "column"] []
  f_reduced : Addr
  d_reduced : FuncData
  F_reduced : Fun K "reduced" "reduced" s_reduced f_reduced d_reduced
  m_reduced : mg "reduced" = some (.ref f_reduced)
  b_reduced : Binds K d_reduced ["q", "width", "rows"] []
  f_rank : Addr
  d_rank : FuncData
  F_rank : Fun K "rank" "rank" s_rank f_rank d_rank
  m_rank : mg "rank" = some (.ref f_rank)
  b_rank : Binds K d_rank ["q", "width", "rows"] []
  f_is_fixed : Addr
  d_is_fixed : FuncData
  F_is_fixed : Fun K "is_fixed" "is_fixed" s_is_fixed f_is_fixed d_is_fixed
  m_is_fixed : mg "is_fixed" = some (.ref f_is_fixed)
  b_is_fixed : Binds K d_is_fixed ["q", "width", "rows", "form"] []
  f__law_mixed : Addr
  d__law_mixed : FuncData
  F__law_mixed : Fun K "_law_mixed" "_law_mixed" s_Lmixed f__law_mixed d__law_mixed
  m__law_mixed : mg "_law_mixed" = some (.ref f__law_mixed)
  b__law_mixed : Binds K d__law_mixed ["number", "turn", "many"] []
  f__law_pool : Addr
  d__law_pool : FuncData
  F__law_pool : Fun K "_law_pool" "_law_pool" s_Lpool f__law_pool d__law_pool
  m__law_pool : mg "_law_pool" = some (.ref f__law_pool)
  b__law_pool : Binds K d__law_pool ["script"] []
  f__law_take : Addr
  d__law_take : FuncData
  F__law_take : Fun K "_law_take" "_law_take" s_Ltake f__law_take d__law_take
  m__law_take : mg "_law_take" = some (.ref f__law_take)
  b__law_take : Binds K d__law_take ["pool", "many"] []
  f__law_is_prime : Addr
  d__law_is_prime : FuncData
  F__law_is_prime : Fun K "_law_is_prime" "_law_is_prime" s_Lis_prime f__law_is_prime d__law_is_prime
  m__law_is_prime : mg "_law_is_prime" = some (.ref f__law_is_prime)
  b__law_is_prime : Binds K d__law_is_prime ["n"] []
  f__law_order : Addr
  d__law_order : FuncData
  F__law_order : Fun K "_law_order" "_law_order" s_Lorder f__law_order d__law_order
  m__law_order : mg "_law_order" = some (.ref f__law_order)
  b__law_order : Binds K d__law_order ["pool", "most"] []
  f__law_entry : Addr
  d__law_entry : FuncData
  F__law_entry : Fun K "_law_entry" "_law_entry" s_Lentry f__law_entry d__law_entry
  m__law_entry : mg "_law_entry" = some (.ref f__law_entry)
  b__law_entry : Binds K d__law_entry ["pool", "q"] []
  f__law_rows : Addr
  d__law_rows : FuncData
  F__law_rows : Fun K "_law_rows" "_law_rows" s_Lrows f__law_rows d__law_rows
  m__law_rows : mg "_law_rows" = some (.ref f__law_rows)
  b__law_rows : Binds K d__law_rows ["pool", "q", "width", "many"] []
  f__law_reduced : Addr
  d__law_reduced : FuncData
  F__law_reduced : Fun K "_law_reduced" "_law_reduced" s_Lreduced f__law_reduced d__law_reduced
  m__law_reduced : mg "_law_reduced" = some (.ref f__law_reduced)
  b__law_reduced : Binds K d__law_reduced ["q", "width", "rows"] []
  f__law_cleared : Addr
  d__law_cleared : FuncData
  F__law_cleared : Fun K "_law_cleared" "_law_cleared" s_Lcleared f__law_cleared d__law_cleared
  m__law_cleared : mg "_law_cleared" = some (.ref f__law_cleared)
  b__law_cleared : Binds K d__law_cleared ["q", "row", "lead", "column"] []
  f__law_inverse : Addr
  d__law_inverse : FuncData
  F__law_inverse : Fun K "_law_inverse" "_law_inverse" s_Linverse f__law_inverse d__law_inverse
  m__law_inverse : mg "_law_inverse" = some (.ref f__law_inverse)
  b__law_inverse : Binds K d__law_inverse ["a", "q"] []
  f__law_product : Addr
  d__law_product : FuncData
  F__law_product : Fun K "_law_product" "_law_product" s_Lproduct f__law_product d__law_product
  m__law_product : mg "_law_product" = some (.ref f__law_product)
  b__law_product : Binds K d__law_product ["q", "row", "x"] []
  f__law_vectors : Addr
  d__law_vectors : FuncData
  F__law_vectors : Fun K "_law_vectors" "_law_vectors" s_Lvectors f__law_vectors d__law_vectors
  m__law_vectors : mg "_law_vectors" = some (.ref f__law_vectors)
  b__law_vectors : Binds K d__law_vectors ["q", "width"] []
  f__law_form : Addr
  d__law_form : FuncData
  F__law_form : Fun K "_law_form" "_law_form" s_Lform f__law_form d__law_form
  m__law_form : mg "_law_form" = some (.ref f__law_form)
  b__law_form : Binds K d__law_form ["pool", "q", "width", "rows"] []
  f__law_by_trying : Addr
  d__law_by_trying : FuncData
  F__law_by_trying : Fun K "_law_by_trying" "_law_by_trying" s_Lby_trying f__law_by_trying d__law_by_trying
  m__law_by_trying : mg "_law_by_trying" = some (.ref f__law_by_trying)
  b__law_by_trying : Binds K d__law_by_trying ["q", "width", "rows", "form"] []
  f_law : Addr
  d_law : FuncData
  F_law : Fun K "law" "law" s_law f_law d_law
  m_law : mg "law" = some (.ref f_law)
  b_law : Binds K d_law ["script"] []
  k_is_fixed_0_q_width_rows_form : KBinds K d_is_fixed ["q", "width", "rows", "form"] ["q", "width", "rows", "form"] (g_is_fixed_0_q_width_rows_form) (g_is_fixed_0_q_width_rows_form)
  z_ValueError : mg "ValueError" = none
  z_bool : mg "bool" = none
  z_int : mg "int" = none
  z_isinstance : mg "isinstance" = none
  z_len : mg "len" = none
  z_list : mg "list" = none
  z_range : mg "range" = none
  z_str : mg "str" = none
  z_sum : mg "sum" = none
  z_tuple : mg "tuple" = none
  z_zip : mg "zip" = none
  c_NoInverse : Addr
  m_NoInverse : mg "NoInverse" = some (.ref c_NoInverse)
  kc_NoInverse : PySem.W.keepIn K (.ref c_NoInverse) = true
  s_NoInverse : PySem.W.subIn K (.ref c_NoInverse) (.type "BaseException") = some true
  t_NoInverse : PySem.W.typeIn K (.ref c_NoInverse) = some (.type "type")
  i_NoInverse : PySem.W.isClsIn K c_NoInverse = true
  c_HushError : Addr
  m_HushError : mg "HushError" = some (.ref c_HushError)
  x_NoInverse : PySem.W.excIn K c_NoInverse [.type "ValueError", .type "Exception", .type "BaseException", .type "object"] "ValueError.__new__" = true
  u_NoInverse : PySem.W.subIn K (.ref c_NoInverse) (.ref c_NoInverse) = some true
  uh_NoInverse : PySem.W.subIn K (.ref c_NoInverse) (.ref c_HushError) = some true
  uv_NoInverse : PySem.W.subIn K (.ref c_NoInverse) (.type "ValueError") = some true
  xc_NoInverse : ExcC K c_NoInverse
/-! ### the same rules within a comprehension: the fragment is named -/
theorem call_list_ofK (K : PySem.W.Frag) {X : Cx} (e : X.K = K) : CallR X (.type "list") (fun xs H Q => ∃ p ys, xs = [.ref p] ∧ (SqL K H p ys ∨ SqT K H p ys) ∧ ∀ l, H l = none → Q (.ref l) (upd H l (.lst ys))) := by
  subst e
  exact call_list_of
theorem call_tuple_ofK (K : PySem.W.Frag) {X : Cx} (e : X.K = K) : CallR X (.type "tuple") (fun xs H Q => ∃ p ys, xs = [.ref p] ∧ ((SqL K H p ys ∧ ∀ l, H l = none → Q (.ref l) (upd H l (.tup ys))) ∨ (SqT K H p ys ∧ Q (.ref p) H))) := by
  subst e
  exact call_tuple_of
theorem call_len_seqK (K : PySem.W.Frag) {X : Cx} (e : X.K = K) : CallR X (.builtin "len") (fun xs H Q => ∃ p ys, xs = [.ref p] ∧ (SqL K H p ys ∨ SqT K H p ys) ∧ Q (.int ys.length) H) := by
  subst e
  exact call_len_seq
theorem pi_listK (K : PySem.W.Frag) {X : Cx} {tg l : Expr} {tl : TE} (e : X.K = K) (hl : PE X l tl) : PI X tg l (iList K tl) := by
  subst e
  exact pi_list hl
theorem pi_tupK (K : PySem.W.Frag) {X : Cx} {tg l : Expr} {tl : TE} (e : X.K = K) (hl : PE X l tl) : PI X tg l (iTup K tl) := by
  subst e
  exact pi_tup hl
/-! ### t.index(y), flat items, of a tuple whose object is known to have no dict -/
section
open PySem.Spec PyProof.Rows
variable {X : Cx}
def FrT (H : Hp) (a : Addr) (ys : List V) : Prop := ∃ ob : Obj, H a = some (.frz ob (.tup ys)) ∧ ob.cls = .type "tuple" ∧ ob.dict = none
theorem FrT.sq {K : PySem.W.Frag} {H : Hp} {a : Addr} {ys : List V} (h : FrT H a ys) : SqT K H a ys := by
  obtain ⟨ob, h, _⟩ := h
  exact .inl (.inr ⟨ob, h⟩)
theorem FrT.same {H H' : Hp} {a : Addr} {ys : List V} (h : FrT H a ys) (s : ∀ b o, H b = some o → H' b = some o) : FrT H' a ys := by
  obtain ⟨ob, h, c⟩ := h
  exact ⟨ob, s _ _ h, c⟩
def rIndexT (K : PySem.W.Frag) : V → List V → Hp → VK → Prop := fun t args H Q => ∃ (a : Addr) (ys : List V) (y : V) (n : Nat) (z : V), t = V.ref a ∧ args = [y] ∧ SqT K H a ys ∧ flatV y = true ∧ ys.all flatV = true ∧ ys[n]? = some z ∧ eqV z y = true ∧
  (∀ (i : Nat) (o : V), i < n → ys[i]? = some o → eqV o y = false) ∧ Q (.int (n : Nat)) H
theorem item_at {ys : List V} {its : List Value} (r : Vals ys its) {i : Nat} {z : V} (h : ys[i]? = some z) : ∃ hi : i < its.toArray.size, RelV z its.toArray[i] := by
  obtain ⟨u, e, rel⟩ := r.get h
  obtain ⟨hi, e⟩ := List.getElem?_eq_some_iff.mp e
  refine ⟨by rw [List.size_toArray]; exact hi, ?_⟩
  rw [List.getElem_toArray, e]
  exact rel
theorem mt_indexT : MtR X "tuple.index" (rIndexT X.K) := by
  intro pins s σ H t args v us Q I rt ra w
  obtain ⟨a, ys, y, n, z, et, ea, tup, f1, f2, at1, hit, ahead, q⟩ := w
  subst et ea
  cases rt
  obtain ⟨u, eu, r1⟩ := vals1 ra
  subst eu
  obtain ⟨its, r, ⟨⟨c1, d1, dat, slo⟩, got, ec, m, ed⟩, _⟩ := I.tuple tup
  replace ec : c1 = .type "tuple" := ec
  replace ed : dat = .seq its.toArray m := ed
  subst ec ed
  obtain ⟨hn, rn⟩ := item_at r at1
  refine call_meets PySem.F.slot_tuple_index ⟨_, got, rfl⟩ PySem.F.entry_tuple_index (PySem.F.args_tuple_index_2 _ _) (TI.tuple_indexAt a its.toArray m d1 slo u (eqU y) n hn ?_ ?_)
    ⟨got, fun k hk => mem_eqAt r1 f1 r f2 k (by simpa using hk), .int (n : Nat), H, I.tok _, ⟨_, rfl⟩, q⟩
  · exact (eqU_of rn (flat_at f2 at1)).trans hit
  · intro i hi hin
    have hy : i < ys.length := by
      have := r.length
      rw [List.size_toArray] at hi
      omega
    obtain ⟨_, ri⟩ := item_at r (List.getElem?_eq_getElem hy)
    exact (eqU_of ri (flat_at f2 (List.getElem?_eq_getElem hy))).trans (ahead i _ hin (List.getElem?_eq_getElem hy))
def tTI (K : PySem.W.Frag) (to : TE) (t : TA) : TE := fun σ H Q => to σ H fun x H1 => (∃ a ys, x = .ref a ∧ FrT H1 a ys) ∧ t σ H1 fun xs H2 => rIndexT K x xs H2 Q
theorem pe_tindex (K : PySem.W.Frag) (eK : X.K = K) {o e1 : Expr} {es : List Expr} {apos cpos : Pos} {to : TE} {t : TA} (ho : PE X o to) (ha : PA X (e1 :: es) t)
    (hbase : attributeBase o "index" X.env (eval o X.env) = eval o X.env := by rfl)
    (hfew : ((backTo cpos (starEach (e1 :: es) X.env)).all (fun x => !x.1) && (backToKw cpos (keywordEach [] X.env)).all (fun x => x.1.isSome)
      && decide ((e1 :: es).length + ([] : List Keyword).length + (if ([] : List Keyword).isEmpty then 0 else 1) < 30)) = true := by rfl)
    (hline : (apos.endLine == cpos.line) = true := by rfl) (hs : starEach (e1 :: es) X.env = (false, eval e1 X.env) :: starEach es X.env := by rfl) (hplain : (backTo cpos (starEach es X.env)).any (·.1) = false := by rfl) :
    PE X (.Call (.Attribute o "index" apos) (e1 :: es) [] cpos) (tTI K to t) := by
  subst eK
  constructor
  intro pins s σ H Q I h
  refine wpAny_Call_method_late hbase hfew hline rfl (thn (ho.run pins s σ H _ I h) fun v s1 ⟨x, H1, I1, r1, ⟨a, ys, ex, ob, hob, hc, hd⟩, q1⟩ => ?_)
  subst ex
  cases r1
  have hg := (show ObjOk X.prog X.w H1 s1.heap a (.frz ob (.tup ys)) from I1.hok a _ hob).1
  refine ⟨"tuple", "tuple.index", PySem.F.plainAttrs_tuple, PySem.F.slot_tuple_index, PySem.F.type_tuple_index, ⟨ob, hg, hc⟩, fun b eb => ?_, ?_⟩
  · cases eb
    exact ⟨ob, hg, hd⟩
  have run := ha.run cpos pins s1 σ H1 _ I1 q1
  rw [hs] at run ⊢
  have pl : (false || (backTo cpos (starEach es X.env)).any (·.1)) = false := by
    rw [hplain]
    rfl
  refine Calls.callWith_builtin pl (Calls.evalArgs_plain ?_)
  exact thn run fun us s2 ⟨vs, H2, I2, r2, q2⟩ => mt_indexT pins s2 σ H2 _ vs _ us _ I2 (by exact rfl) r2 q2
/-- tuple(list): a new tuple, its object known -/
theorem call_tuple_ofF (K : PySem.W.Frag) (eK : X.K = K) : CallR X (.type "tuple") (fun args H Q => ∃ p ys, args = [.ref p] ∧ SqL K H p ys ∧ ∀ (l : Addr) (ob : Obj), H l = none → ob.cls = .type "tuple" → ob.dict = none → Q (.ref l) (upd H l (.frz ob (.tup ys)))) := by
  subst eK
  intro pins s σ H args us Q I rv w
  obtain ⟨p, ys, ea, lst, q⟩ := w
  subst ea
  obtain ⟨u, eu, ru⟩ := vals1 rv
  subst eu
  cases ru
  obtain ⟨its, r, pl, hz⟩ := I.list lst
  have len := r.length
  refine call_tuple_list pl.isList (fun g kp => ?_) (by rw [List.size_toArray]; omega)
  have I1 : Inv X pins σ H { s with heap := g } := I.kept (t' := s.toks) kp
  have ok : ObjOk X.prog X.w (upd H g.objs.size (.frz { cls := .type "tuple", data := .seq its.toArray } (.tup ys))) (g.push { cls := .type "tuple", data := .seq its.toArray }) g.objs.size (.frz { cls := .type "tuple", data := .seq its.toArray } (.tup ys)) :=
    ⟨Heap.get?_push_size _ rfl, hz, its, r, IsTup.new _ _⟩
  exact ⟨.ref g.objs.size, _, I1.laid (t' := s.toks) (fun b o e => Heap.get?_push_of_some _ e) (Nat.le_refl _) ok, rfl, q _ _ (I1.hok.fresh (Nat.le_refl _)) rfl rfl⟩
theorem pa_starK (K : PySem.W.Frag) (h : X.K = K) {e : Expr} {es : List Expr} {p : Pos} {te : TE} {t : TA} (he : PE X e te) (hr : PA X es t) (hs : starEach (.Starred e p :: es) X.env = (true, eval e X.env) :: starEach es X.env := by rfl) : PA X (.Starred e p :: es) (StX.tStar K te t) := by
  subst h
  exact StX.pa_star he hr hs
theorem walk_zipT {K : PySem.W.Frag} {a b : Addr} {xs ys : List V} {n : Nat} (hn : n = min xs.length ys.length) : Walk (RZ.ItzT K a b) n (fun H => SqT K H a xs ∧ SqT K H b ys) (YPair (fun i => xs[i]?) (fun i => ys[i]?)) := by
  constructor
  · intro i H hi st
    exact ⟨xs, ys, _, _, st.1, st.2, List.getElem?_eq_getElem (by omega), List.getElem?_eq_getElem (by omega)⟩
  · intro H st
    exact ⟨xs, ys, st.1, st.2, by omega⟩
  · intro i H v H' _ st ⟨T, x, y, e1, e2, e3, f, g⟩
    exact ⟨T, x, y, e1, e2, e3, f xs st.1, g ys st.2⟩
end
/-! ### lookups, steps -/
theorem iteE {c : Prop} [Decidable c] {A B : Prop} (h1 : c → A) (h2 : ¬ c → B) : if c then A else B := ite2 h1 h2
theorem fm {x m : Int} (h : 0 < m) : 0 ≤ x.fmod m ∧ x.fmod m < m := ⟨Int.fmod_nonneg_of_pos x h, Int.fmod_lt_of_pos x h⟩
def Keep (b : Addr) (H H' : Hp) : Prop := ∀ a o, H a = some o → a ≠ b → H' a = some o
theorem Keep.refl {b : Addr} (H : Hp) : Keep b H H := fun _ _ h _ => h
theorem Keep.trans {b : Addr} {H H1 H2 : Hp} (a : Keep b H H1) (k : Keep b H1 H2) : Keep b H H2 := fun c o h n => k c o (a c o h n) n
theorem Keep.of {b : Addr} {H H1 : Hp} (a : Same H H1) : Keep b H H1 := fun c o h _ => a c o h
theorem Keep.put {b : Addr} {H H1 : Hp} {o : HO} (a : Keep b H H1) : Keep b H (upd H1 b o) := fun c u h n => by
  rw [upd_ne n]
  exact a c u h n
theorem same_new {H : Hp} {p : Addr} (h : H p = none) (o : HO) : Same H (upd H p o) := fun b u q => by rw [upd_ne (ne_of_none q h)]; exact q
theorem Same.fr {H H' : Hp} (e : Same H H') {l : Addr} (h : H' l = Option.none) : H l = Option.none := e.free h
/-- a box: five ints and the list of the cells -/
structure BoxAt (H : Hp) (b c : Addr) : Prop where
  ne : b ≠ c
  ex : ∃ (cs : List Int) (x0 x1 x2 x3 x4 : Int), 0 ≤ x2 ∧ H b = some (.lst [.int x0, .int x1, .int x2, .int x3, .int x4, .ref c]) ∧ H c = some (.lst (cs.map V.int))
theorem BoxAt.mk1 {H : Hp} {b c : Addr} {cs : List Int} {x0 x1 x2 x3 x4 : Int} (hb : H b = some (.lst [.int x0, .int x1, .int x2, .int x3, .int x4, .ref c])) (hc : H c = some (.lst (cs.map V.int))) (h2 : 0 ≤ x2) (ne : b ≠ c) : BoxAt H b c :=
  ⟨ne, cs, x0, x1, x2, x3, x4, h2, hb, hc⟩
theorem BoxAt.keep {H H' : Hp} {b c d : Addr} (B : BoxAt H b c) (k : Keep d H H') (h1 : b ≠ d) (h2 : c ≠ d) : BoxAt H' b c := by
  obtain ⟨ne, cs, x0, x1, x2, x3, x4, h, hb, hc⟩ := B
  exact ⟨ne, cs, x0, x1, x2, x3, x4, h, k _ _ hb h1, k _ _ hc h2⟩
theorem BoxAt.same {H H' : Hp} {b c : Addr} (B : BoxAt H b c) (k : Same H H') : BoxAt H' b c := by
  obtain ⟨ne, cs, x0, x1, x2, x3, x4, h, hb, hc⟩ := B
  exact ⟨ne, cs, x0, x1, x2, x3, x4, h, k _ _ hb, k _ _ hc⟩
theorem BoxAt.got {H : Hp} {b c : Addr} (B : BoxAt H b c) : ∃ o, H b = some o := by
  obtain ⟨ne, cs, x0, x1, x2, x3, x4, h, hb, hc⟩ := B
  exact ⟨_, hb⟩
/-- nothing is new ahead of what a box's change leaves new -/
theorem Keep.fr {b c : Addr} {H H' : Hp} (k : Keep b H H') (B : BoxAt H' b c) {p : Addr} (h : H' p = Option.none) : H p = Option.none := by
  cases q : H p with
  | none => rfl
  | some o =>
    obtain ⟨u, hu⟩ := B.got
    have n : p ≠ b := by
      intro e
      rw [e, hu] at h
      cases h
    rw [k p o q n] at h
    cases h
theorem atI_cell' {ns : List Int} {i : Int} (h0 : 0 ≤ i) (h : i < ns.length) : ∃ v : Int, atI (ns.map V.int) i = some (.int v) := by
  have hk : i.toNat < ns.length := by omega
  have ei : i = ((i.toNat : Nat) : Int) := by omega
  refine ⟨ns[i.toNat], ?_⟩
  have q : atI (ns.map V.int) ((i.toNat : Nat) : Int) = some (.int ns[i.toNat]) := atI_nat (by rw [List.getElem?_map]; simp [List.getElem?_eq_getElem hk])
  rwa [← ei] at q
theorem atI0 {xs : List V} {i : Nat} {v : V} (h : xs[i]? = some v) : atI xs (0 + (i : Int)) = some v := by
  rw [Int.zero_add]
  exact atI_nat h
local macro_rules | `(tactic| walk_at "lk") => `(tactic| first
  | assumption | exact upd_same
  | (rw [upd_ne (by assumption)]; walk_at "lk")
  | (rw [upd_ne (Ne.symm (by assumption))]; walk_at "lk"))
local macro_rules | `(tactic| walk_at "kp") => `(tactic| first | exact Keep.refl _ | (refine Keep.put ?_; walk_at "kp"))
local macro_rules | `(tactic| walk_at "s") => `(tactic| first
  | refine ⟨_, rfl, ?_⟩
  | refine ⟨_, _, rfl, rfl, ?_⟩
  | refine And.intro rfl ?_
  | refine And.intro (Or.inr ⟨by decide, by decide⟩) ?_
  | refine And.intro (Or.inl ⟨by decide, by decide⟩) ?_
  | refine And.intro (Or.inl ⟨by omega, by omega⟩) ?_
  | refine And.intro ⟨by decide, by decide, by decide⟩ ?_
  | refine And.intro ⟨by omega, by omega⟩ ?_
  | refine And.intro (Nat.le_of_lt (small1000 (by simp only [List.length_cons, List.length_nil]; decide))) ?_
  | refine And.intro (by first | decide | (dsimp only; decide) | omega | (dsimp only; omega)) ?_
  | refine Or.inl ⟨_, rfl, ?_⟩
  | refine ⟨_, _, _, _, rfl, rfl, SqL.of (by walk_at "lk"), by rfl, ?_⟩
  | refine ⟨_, _, _, _, rfl, rfl, SqT.of (by walk_at "lk"), by rfl, ?_⟩
  | refine ⟨_, _, _, _, rfl, rfl, by walk_at "lk", by rfl, ?_⟩
  | refine ⟨_, _, rfl, .inl (SqL.of (by walk_at "lk")), ?_⟩
  | refine ⟨_, _, rfl, .inr (SqT.of (by walk_at "lk")), ?_⟩)
local macro_rules | `(tactic| walk_at "ss") => `(tactic| repeat (walk_at "s"))
local macro_rules | `(tactic| walk_at "s1") => `(tactic| first
  | refine ⟨_, _, _, _, _, rfl, .ty _, .base (by first | exact .int _ | exact .bl _ | exact .non | exact .str _ | exact .tup (by assumption) | exact .lst (by assumption)), kit_ty (r := false) (by decide +kernel), ?_⟩
  | refine ⟨_, _, _, _, _, rfl, .ty _, .base (by first | exact .int _ | exact .bl _ | exact .non | exact .str _ | exact .tup (by assumption) | exact .lst (by assumption)), kit_ty (r := true) (by decide +kernel), ?_⟩
  | walk_at "s")
local macro_rules | `(tactic| walk_at "sa") => `(tactic| repeat (walk_at "s1"))
/-! ### the mathematics: primes and inverses -/
def PL : List Nat := [3, 5, 7, 11, 13, 17, 19, 23, 29, 31, 37, 41, 43, 47, 53, 59, 61, 67, 71, 73, 79, 83, 89, 97, 101, 103, 107, 109, 113, 127]
/-- no divisor up to the root -/
def Pr (n : Nat) : Prop := 2 ≤ n ∧ ∀ d, 2 ≤ d → d * d ≤ n → n % d ≠ 0
theorem pl_range : ∀ q, q ∈ PL → 3 ≤ q ∧ q ≤ 127 := by decide +kernel
theorem pl_gcd0 : ∀ q, q ∈ PL → ∀ r, r < q → 0 < r → Nat.gcd q r = 1 := by decide +kernel
theorem pl_inv : ∀ q, q ∈ PL → ∀ r, r < q → 0 < r → ∃ b, b < q ∧ (r * b) % q = 1 := by decide +kernel
theorem pl_of00 : ∀ n, n < 128 → (3 ≤ n ∧ (List.range 12).all (fun d => !(decide (2 ≤ d ∧ d * d ≤ n ∧ n % d = 0))) = true) → n ∈ PL := by decide +kernel
theorem pl_of0 (n : Nat) (h1 : n < 128) (h2 : 3 ≤ n) (h : ∀ d, d < 12 → 2 ≤ d → d * d ≤ n → n % d ≠ 0) : n ∈ PL := by
  refine pl_of00 n h1 ⟨h2, List.all_eq_true.mpr fun d hd => ?_⟩
  have hd' := List.mem_range.mp hd
  rw [Bool.not_eq_true', decide_eq_false_iff_not]
  rintro ⟨a, b, c⟩
  exact h d hd' a b c
theorem pl_of {n : Nat} (h1 : 3 ≤ n) (h2 : n ≤ 127) (p : Pr n) : n ∈ PL := pl_of0 n (by omega) h1 fun d _ h3 h4 => p.2 d h3 h4
theorem pl_pr0 : ∀ q, q ∈ PL → ∀ d, d < 12 → 2 ≤ d → d * d ≤ q → q % d ≠ 0 := by decide +kernel
theorem sq_lt {d n m : Nat} (h : d * d ≤ n) (hm : n < m * m) : d < m := by
  refine Nat.lt_of_not_le fun c => ?_
  have := Nat.mul_le_mul c c
  omega
theorem pl_pr {q : Nat} (h : q ∈ PL) : Pr q := by
  have r := pl_range q h
  refine ⟨by omega, fun d h2 h3 => ?_⟩
  have hd : d < 12 := sq_lt h3 (by omega)
  exact pl_pr0 q h d hd h2 h3
theorem inv_uniq {q r b c : Nat} (hb : b < q) (hc : c < q) (h1 : (r * b) % q = 1) (h2 : (r * c) % q = 1) : b = c := by
  have e1 : (c * (r * b)) % q = c := by
    rw [Nat.mul_mod, h1, Nat.mul_one, Nat.mod_mod]
    exact Nat.mod_eq_of_lt hc
  have e2 : (b * (r * c)) % q = b := by
    rw [Nat.mul_mod, h2, Nat.mul_one, Nat.mod_mod]
    exact Nat.mod_eq_of_lt hb
  have e3 : c * (r * b) = b * (r * c) := by ac_rfl
  rw [e3, e2] at e1
  exact e1
/-- a product is no prime -/
theorem not_pr_mul {a b : Nat} (ha : 2 ≤ a) (hb : 2 ≤ b) : ¬ Pr (a * b) := by
  rintro ⟨_, h⟩
  rcases Nat.le_total a b with c | c
  · exact h a ha (Nat.mul_le_mul_left a c) (Nat.mul_mod_right a b)
  · exact h b hb (Nat.mul_le_mul_right b c) (Nat.mul_mod_left a b)
/-- trial by odd numbers -/
theorem trial_found {n k : Nat} (hn : n % 2 = 1) (h2 : 2 ≤ n) (hk : 1 ≤ k) (hd : n % (2 * k + 1) = 0) (hno : ∀ j, 1 ≤ j → j < k → n % (2 * j + 1) ≠ 0) : Pr n ↔ n = 2 * k + 1 := by
  constructor
  · rintro ⟨_, h⟩
    obtain ⟨c, hc⟩ : ∃ c, n = (2 * k + 1) * c := ⟨n / (2 * k + 1), (Nat.mul_div_cancel' (Nat.dvd_of_mod_eq_zero hd)).symm⟩
    by_cases c1 : c = 1
    · rw [hc, c1, Nat.mul_one]
    · exfalso
      have c0 : c ≠ 0 := by
        rintro rfl
        omega
      have c2 : 2 ≤ c := by omega
      rcases Nat.le_total (2 * k + 1) c with q | q
      · refine h (2 * k + 1) (by omega) ?_ hd
        rw [hc]
        exact Nat.mul_le_mul_left _ q
      · refine h c c2 ?_ ?_
        · rw [hc]
          exact Nat.mul_le_mul_right _ q
        · rw [hc]
          exact Nat.mul_mod_left _ _
  · intro e
    refine ⟨h2, fun d d2 dd z => ?_⟩
    have dn : d ≤ n := Nat.le_trans (Nat.le_mul_of_pos_left d (by omega)) dd
    have dodd : d % 2 = 1 := by
      have hdv := Nat.dvd_of_mod_eq_zero z
      rcases Nat.mod_two_eq_zero_or_one d with c | c
      · have : 2 ∣ n := Nat.dvd_trans (Nat.dvd_of_mod_eq_zero c) hdv
        omega
      · exact c
    obtain ⟨j, hj⟩ : ∃ j, d = 2 * j + 1 := ⟨d / 2, by omega⟩
    have dlt : d < n := by
      refine Nat.lt_of_le_of_ne dn fun c => ?_
      rw [c] at dd
      have : 2 * n ≤ n * n := Nat.mul_le_mul_right n h2
      omega
    rw [hj] at z
    exact hno j (by omega) (by omega) z
theorem trial_none {n : Nat} (hn : n % 2 = 1) (h2 : 2 ≤ n) (hm : n < 1001 * 1001) (hno : ∀ j, 1 ≤ j → j < 500 → n % (2 * j + 1) ≠ 0) : Pr n := by
  refine ⟨h2, fun d d2 dd z => ?_⟩
  have dodd : d % 2 = 1 := by
    have hdv := Nat.dvd_of_mod_eq_zero z
    rcases Nat.mod_two_eq_zero_or_one d with c | c
    · have : 2 ∣ n := Nat.dvd_trans (Nat.dvd_of_mod_eq_zero c) hdv
      omega
    · exact c
  have hd : d < 1001 := sq_lt dd hm
  obtain ⟨j, hj⟩ : ∃ j, d = 2 * j + 1 := ⟨d / 2, by omega⟩
  rw [hj] at z
  exact hno j (by omega) (by omega) z
theorem pr_even {n : Nat} (h : n % 2 = 0) : Pr n ↔ n = 2 := by
  constructor
  · rintro ⟨h2, p⟩
    by_cases c : n = 2
    · exact c
    · exact absurd h (p 2 (by omega) (by omega))
  · rintro rfl
    exact ⟨by omega, fun d d2 dd => by
      have : 2 * 2 ≤ d * d := Nat.mul_le_mul d2 d2
      omega⟩
/-- Euclid's steps with factors: what stands before each turn -/
structure Eg (q a : Int) (l s lf sf : Int) : Prop where
  s1 : 1 ≤ s
  ls : s < l
  lq : l ≤ q
  g : Int.gcd l s = 1
  hl : (lf * a - l) % q = 0
  hs : (sf * a - s) % q = 0
theorem eg_turn {q a l s lf sf : Int} (h : Eg q a l s lf sf) (hs1 : s ≠ 1) : Eg q a s (l - l / s * s) sf (lf - l / s * sf) := by
  have hs := h.s1
  have hsp : 0 < s := by omega
  have e : l - l / s * s = l % s := by
    have := Int.emod_def l s
    rw [Int.mul_comm s] at this
    omega
  have r0 := Int.emod_nonneg l (show s ≠ 0 by omega)
  have r1 := Int.emod_lt_of_pos l hsp
  have hg : Int.gcd s (l % s) = 1 := by
    have := h.g
    rw [Int.gcd_comm] at this
    rw [← this]
    have e3 : l % s = l - s * (l / s) := Int.emod_def l s
    rw [e3, Int.mul_comm s, Int.gcd_sub_mul_right_right]
  have rne : l % s ≠ 0 := by
    intro z
    rw [z, Int.gcd_zero_right] at hg
    omega
  refine ⟨by omega, by omega, by have := h.lq; have := h.ls; omega, by rw [e]; exact hg, h.hs, ?_⟩
  have e2 : (lf - l / s * sf) * a - (l - l / s * s) = (lf * a - l) - l / s * (sf * a - s) := by
    rw [Int.sub_mul, Int.mul_sub, Int.mul_assoc]
    omega
  rw [e2, Int.sub_emod, h.hl, Int.mul_emod, h.hs]
  simp
/-! ### the mathematics: reduced rows -/
def sumTo : Nat → (Nat → Int) → Int
  | 0, _ => 0
  | n + 1, f => sumTo n f + f n
theorem sum_zero {n : Nat} {f : Nat → Int} (h : ∀ k, k < n → f k = 0) : sumTo n f = 0 := by
  induction n with
  | zero => rfl
  | succ n ih =>
    show sumTo n f + f n = 0
    rw [ih fun k hk => h k (by omega), h n (by omega)]
    rfl
theorem sum_one {n a : Nat} {f : Nat → Int} (ha : a < n) (h : ∀ k, k < n → k ≠ a → f k = 0) : sumTo n f = f a := by
  induction n with
  | zero => omega
  | succ n ih =>
    show sumTo n f + f n = f a
    by_cases c : a = n
    · subst c
      rw [sum_zero fun k hk => h k (by omega) (by omega), Int.zero_add]
    · rw [ih (by omega) fun k hk hn => h k (by omega) hn, h n (by omega) (by omega), Int.add_zero]
theorem sum_two {n a b : Nat} {f : Nat → Int} (ha : a < n) (hb : b < n) (hab : a ≠ b) (h : ∀ k, k < n → k ≠ a → k ≠ b → f k = 0) : sumTo n f = f a + f b := by
  induction n with
  | zero => omega
  | succ n ih =>
    show sumTo n f + f n = f a + f b
    by_cases c : a = n
    · subst c
      rw [sum_one (a := b) (by omega) fun k hk hn => h k (by omega) (by omega) hn, Int.add_comm]
    · by_cases d : b = n
      · subst d
        rw [sum_one (a := a) (by omega) fun k hk hn => h k (by omega) hn (by omega)]
      · rw [ih (by omega) (by omega) fun k hk h1 h2 => h k (by omega) h1 h2, h n (by omega) (by omega) (by omega), Int.add_zero]
abbrev Row := List Int
def gt (r : Row) (k : Nat) : Int := r.getD k 0
def dot (w : Nat) (r : Row) (x : Nat → Int) : Int := sumTo w fun k => gt r k * x k
def Sol (w : Nat) (q : Int) (rows : List Row) (x : Nat → Int) : Prop := ∀ r, r ∈ rows → q ∣ dot w r x
/-- r' is r less t times l, by q -/
theorem dot_lin {w : Nat} {q t : Int} {r' r l : Row} {x : Nat → Int} (h : ∀ k, k < w → q ∣ gt r' k - (gt r k - t * gt l k)) : q ∣ dot w r' x - (dot w r x - t * dot w l x) := by
  induction w with
  | zero => exact ⟨0, by show (0 : Int) - (0 - t * 0) = q * 0; rw [Int.mul_zero, Int.mul_zero]; rfl⟩
  | succ n ih =>
    have h1 := ih fun k hk => h k (by omega)
    have h2 := h n (by omega)
    have h3 : q ∣ (gt r' n - (gt r n - t * gt l n)) * x n := Int.dvd_mul_of_dvd_left h2
    have e : dot (n + 1) r' x - (dot (n + 1) r x - t * dot (n + 1) l x) = (dot n r' x - (dot n r x - t * dot n l x)) + (gt r' n - (gt r n - t * gt l n)) * x n := by
      show (dot n r' x + gt r' n * x n) - ((dot n r x + gt r n * x n) - t * (dot n l x + gt l n * x n)) = _
      rw [Int.mul_add, Int.sub_mul, Int.sub_mul, Int.mul_assoc]
      omega
    rw [e]
    exact Int.dvd_add h1 h3
theorem dvd_emod_sub {q a : Int} : q ∣ a % q - a := by
  have := Int.emod_def a q
  exact ⟨-(a / q), by rw [this, Int.mul_neg]; omega⟩
structure IsR (w : Nat) (q : Int) (R : List Row) (ps : List Nat) : Prop where
  len : R.length = ps.length
  row : ∀ r, r ∈ R → r.length = w
  bnd : ∀ r, r ∈ R → ∀ k, 0 ≤ gt r k ∧ gt r k < q
  inc : ps.Pairwise (· < ·)
  lt : ∀ p, p ∈ ps → p < w
  low : ∀ (i : Nat) r p, R[i]? = some r → ps[i]? = some p → ∀ k, k < p → gt r k = 0
  del : ∀ (i j : Nat) r p, R[i]? = some r → ps[j]? = some p → gt r p = if i = j then 1 else 0
/-- the solution that is 1 in the free column j -/
def nul (R : List Row) (ps : List Nat) (j k : Nat) : Int :=
  if k = j then 1 else match ps.findIdx? (· == k) with
    | some i => - gt (R.getD i []) j
    | none => 0
theorem nul_self (R : List Row) (ps : List Nat) (j : Nat) : nul R ps j j = 1 := if_pos rfl
theorem nul_free {R : List Row} {ps : List Nat} {j k : Nat} (h : k ≠ j) (hk : k ∉ ps) : nul R ps j k = 0 := by
  unfold nul
  rw [if_neg h]
  have : ps.findIdx? (· == k) = none := by
    rw [List.findIdx?_eq_none_iff]
    intro x hx
    exact beq_eq_false_iff_ne.mpr fun e => hk (e ▸ hx)
  rw [this]
theorem idx_of {ps : List Nat} (inc : ps.Pairwise (· < ·)) {i p : Nat} (h : ps[i]? = some p) : ps.findIdx? (· == p) = some i := by
  obtain ⟨hi, e⟩ := List.getElem?_eq_some_iff.mp h
  rw [List.findIdx?_eq_some_iff_getElem]
  refine ⟨hi, by rw [e]; exact beq_self_eq_true _, fun j hj => ?_⟩
  have := List.pairwise_iff_getElem.mp inc j i (by omega) hi hj
  intro z
  have := beq_iff_eq.mp z
  omega
theorem nul_pivot {w : Nat} {q : Int} {R : List Row} {ps : List Nat} (I : IsR w q R ps) {j i p : Nat} {r : Row} (hj : j ∉ ps) (hp : ps[i]? = some p) (hr : R[i]? = some r) : nul R ps j p = - gt r j := by
  have hpm : p ∈ ps := List.mem_of_getElem? hp
  unfold nul
  rw [if_neg (by intro e; exact hj (e ▸ hpm)), idx_of I.inc hp]
  show - gt (R.getD i []) j = - gt r j
  rw [List.getD_eq_getElem?_getD, hr]
  rfl
theorem some_of {α β : Type} {xs : List α} {ys : List β} (h : xs.length = ys.length) {i : Nat} {x : α} (hx : xs[i]? = some x) : ∃ y, ys[i]? = some y := by
  have hi := (List.getElem?_eq_some_iff.mp hx).1
  exact ⟨ys[i]'(by omega), List.getElem?_eq_getElem (by omega)⟩
theorem nul_sol {w : Nat} {q : Int} {R : List Row} {ps : List Nat} (I : IsR w q R ps) {j : Nat} (hjw : j < w) (hj : j ∉ ps) : Sol w q R (nul R ps j) := by
  intro r hr
  obtain ⟨i, hi⟩ := List.mem_iff_getElem?.mp hr
  obtain ⟨p, hp⟩ := some_of I.len hi
  have hpm : p ∈ ps := List.mem_of_getElem? hp
  have hne : j ≠ p := fun e => hj (e ▸ hpm)
  have e : dot w r (nul R ps j) = gt r j * nul R ps j j + gt r p * nul R ps j p := sum_two hjw (I.lt p hpm) hne fun k _ hkj hkp => by
    by_cases c : k ∈ ps
    · obtain ⟨i', hi'⟩ := List.mem_iff_getElem?.mp c
      have ne : i ≠ i' := by
        rintro rfl
        rw [hp] at hi'
        exact hkp (Option.some.inj hi').symm
      rw [I.del i i' r k hi hi', if_neg ne, Int.zero_mul]
    · rw [nul_free hkj c, Int.mul_zero]
  rw [e, nul_self, nul_pivot I hj hp hi, I.del i i r p hi hp, if_pos rfl, Int.mul_one, Int.one_mul]
  exact ⟨0, by omega⟩
theorem free_sub {w : Nat} {q : Int} {R R' : List Row} {ps ps' : List Nat} (hq : 1 < q) (I : IsR w q R ps) (I' : IsR w q R' ps') (h : ∀ x, Sol w q R x → Sol w q R' x) {j : Nat} (hj : j ∈ ps') : j ∈ ps := by
  refine Classical.byContradiction fun hn => ?_
  obtain ⟨i, hi⟩ := List.mem_iff_getElem?.mp hj
  obtain ⟨r, hr⟩ := some_of I'.len.symm hi
  have s := h _ (nul_sol I (I'.lt j hj) hn) r (List.mem_of_getElem? hr)
  have e : dot w r (nul R ps j) = gt r j * nul R ps j j := sum_one (I'.lt j hj) fun k _ hk => by
    rcases Nat.lt_or_gt_of_ne hk with c | c
    · rw [I'.low i r j hr hi k c, Int.zero_mul]
    · by_cases d : k ∈ ps
      · obtain ⟨i', hi'⟩ := List.mem_iff_getElem?.mp d
        obtain ⟨r', hr'⟩ := some_of I.len.symm hi'
        rw [nul_pivot I hn hi' hr', I.low i' r' k hr' hi' j c, Int.neg_zero, Int.mul_zero]
      · rw [nul_free hk d, Int.mul_zero]
  rw [e, nul_self, I'.del i i r j hr hi, if_pos rfl, Int.mul_one] at s
  have := Int.le_of_dvd (by decide) s
  omega
theorem inc_ext : ∀ {ps qs : List Nat}, ps.Pairwise (· < ·) → qs.Pairwise (· < ·) → (∀ x, x ∈ ps ↔ x ∈ qs) → ps = qs
  | [], [], _, _, _ => rfl
  | [], b :: qs, _, _, h => absurd ((h b).mpr List.mem_cons_self) (List.not_mem_nil)
  | a :: ps, [], _, _, h => absurd ((h a).mp List.mem_cons_self) (List.not_mem_nil)
  | a :: ps, b :: qs, hp, hq, h => by
    have hp' := List.pairwise_cons.mp hp
    have hq' := List.pairwise_cons.mp hq
    have e : a = b := by
      rcases List.mem_cons.mp ((h a).mp List.mem_cons_self) with c | c
      · exact c
      · rcases List.mem_cons.mp ((h b).mpr List.mem_cons_self) with d | d
        · exact d.symm
        · have := hp'.1 b d
          have := hq'.1 a c
          omega
    subst e
    congr 1
    refine inc_ext hp'.2 hq'.2 fun x => ⟨fun hx => ?_, fun hx => ?_⟩
    · rcases List.mem_cons.mp ((h x).mp (List.mem_cons_of_mem _ hx)) with c | c
      · have := hp'.1 x hx
        omega
      · exact c
    · rcases List.mem_cons.mp ((h x).mpr (List.mem_cons_of_mem _ hx)) with c | c
      · have := hq'.1 x hx
        omega
      · exact c
theorem eq_of_dvd {q a b : Int} (ha : 0 ≤ a ∧ a < q) (hb : 0 ≤ b ∧ b < q) (h : q ∣ a - b) : a = b := by
  obtain ⟨c, hc⟩ := h
  have q0 : 0 < q := by omega
  have h1 : c < 1 := Int.lt_of_mul_lt_mul_left (a := q) (by omega) (by omega)
  have h2 : -1 < c := Int.lt_of_mul_lt_mul_left (a := q) (by rw [Int.mul_neg, Int.mul_one]; omega) (by omega)
  have : c = 0 := by omega
  subst this
  omega
theorem isr_unique {w : Nat} {q : Int} {R R' : List Row} {ps ps' : List Nat} (hq : 1 < q) (I : IsR w q R ps) (I' : IsR w q R' ps') (h : ∀ x, Sol w q R x ↔ Sol w q R' x) : R = R' := by
  have e : ps = ps' := inc_ext I.inc I'.inc fun x => ⟨fun hx => free_sub hq I' I (fun x => (h x).mpr) hx, fun hx => free_sub hq I I' (fun x => (h x).mp) hx⟩
  subst e
  refine List.ext_getElem? fun i => ?_
  cases hr : R[i]? with
  | none =>
    have : R.length ≤ i := List.getElem?_eq_none_iff.mp hr
    rw [List.getElem?_eq_none_iff.mpr (by have := I.len; have := I'.len; omega)]
  | some r =>
    obtain ⟨r', hr'⟩ := some_of (I.len.trans I'.len.symm) hr
    obtain ⟨p, hp⟩ := some_of I.len hr
    rw [hr']
    congr 1
    have m := List.mem_of_getElem? hr
    have m' := List.mem_of_getElem? hr'
    have hpm : p ∈ ps := List.mem_of_getElem? hp
    have key : ∀ j, j < w → gt r j = gt r' j := fun j hjw => by
      by_cases hj : j ∈ ps
      · obtain ⟨i', hi'⟩ := List.mem_iff_getElem?.mp hj
        rw [I.del i i' r j hr hi', I'.del i i' r' j hr' hi']
      · have s := (h _).mp (nul_sol I hjw hj) r' m'
        have hne : j ≠ p := fun e => hj (e ▸ hpm)
        have e : dot w r' (nul R ps j) = gt r' j * nul R ps j j + gt r' p * nul R ps j p := sum_two hjw (I.lt p hpm) hne fun k _ hkj hkp => by
          by_cases c : k ∈ ps
          · obtain ⟨i', hi'⟩ := List.mem_iff_getElem?.mp c
            have ne : i ≠ i' := by
              rintro rfl
              rw [hp] at hi'
              exact hkp (Option.some.inj hi').symm
            rw [I'.del i i' r' k hr' hi', if_neg ne, Int.zero_mul]
          · rw [nul_free hkj c, Int.mul_zero]
        rw [e, nul_self, nul_pivot I hj hp hr, I'.del i i r' p hr' hp, if_pos rfl, Int.mul_one, Int.one_mul] at s
        refine (eq_of_dvd (I'.bnd r' m' j) (I.bnd r m j) ?_).symm
        have e2 : gt r' j - gt r j = gt r' j + -gt r j := by omega
        rw [e2]
        exact s
    refine List.ext_getElem? fun k => ?_
    by_cases hk : k < w
    · have lr := I.row r m
      have lr' := I'.row r' m'
      have q1 := key k hk
      unfold gt at q1
      rw [List.getD_eq_getElem?_getD, List.getD_eq_getElem?_getD, List.getElem?_eq_getElem (by omega), List.getElem?_eq_getElem (by omega)] at q1
      rw [List.getElem?_eq_getElem (by omega), List.getElem?_eq_getElem (by omega)]
      exact congrArg some q1
    · rw [List.getElem?_eq_none_iff.mpr (by rw [I.row r m]; omega), List.getElem?_eq_none_iff.mpr (by rw [I'.row r' m']; omega)]
/-! ### the steps of the reduction -/
def mkr (w : Nat) (f : Nat → Int) : Row := (List.range w).map f
theorem mk_len (w : Nat) (f : Nat → Int) : (mkr w f).length = w := by
  unfold mkr
  rw [List.length_map, List.length_range]
theorem gt_mk {w : Nat} {f : Nat → Int} {k : Nat} (h : k < w) : gt (mkr w f) k = f k := by
  unfold gt mkr
  rw [List.getD_eq_getElem?_getD, List.getElem?_map, List.getElem?_range h]
  rfl
theorem gt_out {r : Row} {k : Nat} (h : r.length ≤ k) : gt r k = 0 := by
  unfold gt
  rw [List.getD_eq_getElem?_getD, List.getElem?_eq_none_iff.mpr h]
  rfl
theorem row_ext {r r' : Row} (h : r.length = r'.length) (e : ∀ k, k < r.length → gt r k = gt r' k) : r = r' := by
  refine List.ext_getElem h fun k h1 h2 => ?_
  have q := e k h1
  unfold gt at q
  rw [List.getD_eq_getElem?_getD, List.getD_eq_getElem?_getD, List.getElem?_eq_getElem h1, List.getElem?_eq_getElem h2] at q
  exact q
/-- a row of w residues -/
structure Res (w : Nat) (q : Int) (r : Row) : Prop where
  len : r.length = w
  bnd : ∀ k, 0 ≤ gt r k ∧ gt r k < q
theorem Res.of_mk {w : Nat} {q : Int} (hq : 0 < q) (f : Nat → Int) : Res w q (mkr w fun k => f k % q) := by
  refine ⟨mk_len _ _, fun k => ?_⟩
  by_cases h : k < w
  · rw [gt_mk h]
    exact ⟨Int.emod_nonneg _ (by omega), Int.emod_lt_of_pos _ hq⟩
  · rw [gt_out (by rw [mk_len]; omega)]
    exact ⟨Int.le_refl _, hq⟩
def clr (w : Nat) (q : Int) (c : Nat) (ld r : Row) : Row := mkr w fun k => (gt r k - gt r c * gt ld k) % q
def scl (w : Nat) (q s : Int) (r : Row) : Row := mkr w fun k => (gt r k * s) % q
theorem clr_none {w : Nat} {q : Int} {c : Nat} {ld r : Row} (h : Res w q r) (z : gt r c = 0) : clr w q c ld r = r := by
  refine row_ext (by rw [h.len]; exact mk_len _ _) fun k hk => ?_
  have hk' : k < w := by rw [clr, mk_len] at hk; exact hk
  rw [clr, gt_mk hk', z, Int.zero_mul, Int.sub_zero]
  exact Int.emod_eq_of_lt (h.bnd k).1 (h.bnd k).2
/-- where the reduction stands before the column c -/
structure Good (w : Nat) (q : Int) (rows : List Row) (c : Nat) (F : List Row) (ps : List Nat) (L : List Row) : Prop where
  len : F.length = ps.length
  resF : ∀ r, r ∈ F → Res w q r
  resL : ∀ r, r ∈ L → Res w q r
  inc : ps.Pairwise (· < ·)
  lt : ∀ p, p ∈ ps → p < c
  low : ∀ (i : Nat) r p, F[i]? = some r → ps[i]? = some p → ∀ k, k < p → gt r k = 0
  del : ∀ (i j : Nat) r p, F[i]? = some r → ps[j]? = some p → gt r p = if i = j then 1 else 0
  rest : ∀ r, r ∈ L → ∀ k, k < c → gt r k = 0
  sol : ∀ x, Sol w q (F ++ L) x ↔ Sol w q rows x
theorem Good.start {w : Nat} {q : Int} {rows : List Row} (h : ∀ r, r ∈ rows → Res w q r) : Good w q rows 0 [] [] rows where
  len := rfl
  resF := fun r hr => absurd hr List.not_mem_nil
  resL := h
  inc := List.Pairwise.nil
  lt := fun p hp => absurd hp List.not_mem_nil
  low := fun i r p hr => by simp at hr
  del := fun i j r p hr => by simp at hr
  rest := fun r _ k hk => absurd hk (Nat.not_lt_zero k)
  sol := fun x => Iff.rfl
theorem Good.skip {w : Nat} {q : Int} {rows : List Row} {c : Nat} {F : List Row} {ps : List Nat} {L : List Row} (G : Good w q rows c F ps L) (h : ∀ r, r ∈ L → gt r c = 0) : Good w q rows (c + 1) F ps L :=
  { G with
    lt := fun p hp => Nat.lt_succ_of_lt (G.lt p hp)
    rest := fun r hr k hk => by
      by_cases e : k = c
      · rw [e]
        exact h r hr
      · exact G.rest r hr k (by omega) }
theorem Good.done {w : Nat} {q : Int} {rows : List Row} {F : List Row} {ps : List Nat} {L : List Row} (G : Good w q rows w F ps L) : IsR w q F ps ∧ ∀ x, Sol w q F x ↔ Sol w q rows x := by
  refine ⟨⟨G.len, fun r hr => (G.resF r hr).len, fun r hr => (G.resF r hr).bnd, G.inc, G.lt, G.low, G.del⟩, fun x => ⟨fun h => (G.sol x).mp fun r hr => ?_, fun h r hr => (G.sol x).mpr h r (List.mem_append_left _ hr)⟩⟩
  rcases List.mem_append.mp hr with c | c
  · exact h r c
  · have e : dot w r x = 0 := sum_zero fun k hk => by rw [G.rest r c k hk, Int.zero_mul]
    rw [e]
    exact ⟨0, by omega⟩
theorem Good.pivot {w : Nat} {q : Int} {rows : List Row} {c : Nat} {F : List Row} {ps : List Nat} {L L' : List Row} {lead : Row} {s : Int} (G : Good w q rows c F ps L) (hq : 1 < q) (hc : c < w) (hl : lead ∈ L) (hs : (gt lead c * s) % q = 1)
    (h1 : ∀ r', r' ∈ L' → ∃ r, r ∈ L ∧ r' = clr w q c (scl w q s lead) r)
    (h2 : ∀ r, r ∈ L → r = lead ∨ clr w q c (scl w q s lead) r ∈ L' ∨ ∀ k, k < w → gt (clr w q c (scl w q s lead) r) k = 0) :
    Good w q rows (c + 1) (F.map (clr w q c (scl w q s lead)) ++ [scl w q s lead]) (ps ++ [c]) L' := by
  have q0 : 0 < q := by omega
  have RL : Res w q (scl w q s lead) := Res.of_mk q0 _
  have RC : ∀ r, Res w q (clr w q c (scl w q s lead) r) := fun r => Res.of_mk q0 _
  have l1 : gt (scl w q s lead) c = 1 := by rw [scl, gt_mk hc]; exact hs
  have l0 : ∀ k, k < c → gt (scl w q s lead) k = 0 := fun k hk => by rw [scl, gt_mk (by omega), G.rest lead hl k hk, Int.zero_mul, Int.zero_emod]
  have c0 : ∀ r, Res w q r → gt (clr w q c (scl w q s lead) r) c = 0 := fun r _ => by rw [clr, gt_mk hc, l1, Int.mul_one, Int.sub_self, Int.zero_emod]
  have ck : ∀ r, Res w q r → ∀ k, k < c → gt (clr w q c (scl w q s lead) r) k = gt r k := fun r hr k hk => by
    rw [clr, gt_mk (by omega), l0 k hk, Int.mul_zero, Int.sub_zero]
    exact Int.emod_eq_of_lt (hr.bnd k).1 (hr.bnd k).2
  have lin : ∀ (r : Row) (x : Nat → Int), q ∣ dot w (clr w q c (scl w q s lead) r) x - (dot w r x - gt r c * dot w (scl w q s lead) x) := fun r x => dot_lin fun k hk => by
    rw [clr, gt_mk hk]
    exact dvd_emod_sub
  have linL : ∀ x : Nat → Int, q ∣ dot w lead x → q ∣ dot w (scl w q s lead) x := fun x h => by
    have e : q ∣ dot w (scl w q s lead) x - (dot w [] x - (-s) * dot w lead x) := dot_lin fun k hk => by
      rw [scl, gt_mk hk]
      have e2 : gt ([] : Row) k - -s * gt lead k = gt lead k * s := by
        have : gt ([] : Row) k = 0 := rfl
        rw [this, Int.neg_mul, Int.mul_comm s]
        omega
      rw [e2]
      exact dvd_emod_sub
    have z : dot w ([] : Row) x = 0 := sum_zero fun k _ => by show (0 : Int) * x k = 0; rw [Int.zero_mul]
    rw [z] at e
    have := Int.dvd_add e (Int.dvd_mul_of_dvd_right (a := q) (b := s) h)
    have e3 : dot w (scl w q s lead) x - (0 - -s * dot w lead x) + s * dot w lead x = dot w (scl w q s lead) x := by
      rw [Int.neg_mul]
      omega
    rw [e3] at this
    exact this
  have linL' : ∀ x : Nat → Int, q ∣ dot w (scl w q s lead) x → q ∣ dot w lead x := fun x h => by
    have e : q ∣ dot w lead x - (dot w [] x - (- gt lead c) * dot w (scl w q s lead) x) := dot_lin fun k hk => by
      rw [scl, gt_mk hk]
      have z : gt ([] : Row) k = 0 := rfl
      rw [z]
      obtain ⟨u, hu⟩ : q ∣ gt lead k * s % q - gt lead k * s := dvd_emod_sub
      obtain ⟨v, hv⟩ : q ∣ gt lead c * s % q - gt lead c * s := dvd_emod_sub
      rw [hs] at hv
      -- gt lead k - gt lead c * (gt lead k * s % q)
      refine ⟨gt lead k * v - gt lead c * u, ?_⟩
      have e1 : gt lead k * s % q = gt lead k * s + q * u := by omega
      have e2 : gt lead c * s = 1 - q * v := by omega
      rw [e1, Int.mul_add, Int.neg_mul, Int.neg_mul]
      have e4 : gt lead c * (gt lead k * s) = gt lead k * (gt lead c * s) := by rw [← Int.mul_assoc, Int.mul_comm (gt lead c), Int.mul_assoc]
      rw [e4, e2, Int.mul_sub, Int.mul_one, Int.mul_sub]
      have e5 : gt lead k * (q * v) = q * (gt lead k * v) := by rw [← Int.mul_assoc, Int.mul_comm (gt lead k), Int.mul_assoc]
      have e6 : gt lead c * (q * u) = q * (gt lead c * u) := by rw [← Int.mul_assoc, Int.mul_comm (gt lead c), Int.mul_assoc]
      rw [e5, e6]
      omega
    have z : dot w ([] : Row) x = 0 := sum_zero fun k _ => by show (0 : Int) * x k = 0; rw [Int.zero_mul]
    rw [z] at e
    have := Int.dvd_add e (Int.dvd_mul_of_dvd_right (a := q) (b := gt lead c) h)
    have e3 : dot w lead x - (0 - -gt lead c * dot w (scl w q s lead) x) + gt lead c * dot w (scl w q s lead) x = dot w lead x := by
      rw [Int.neg_mul]
      omega
    rw [e3] at this
    exact this
  have fwd : ∀ (r : Row) (x : Nat → Int), q ∣ dot w (scl w q s lead) x → q ∣ dot w r x → q ∣ dot w (clr w q c (scl w q s lead) r) x := fun r x a b => by
    have := Int.dvd_add (lin r x) (Int.dvd_sub b (Int.dvd_mul_of_dvd_right (b := gt r c) a))
    have e3 : dot w (clr w q c (scl w q s lead) r) x - (dot w r x - gt r c * dot w (scl w q s lead) x) + (dot w r x - gt r c * dot w (scl w q s lead) x) = dot w (clr w q c (scl w q s lead) r) x := by omega
    rw [e3] at this
    exact this
  have bwd : ∀ (r : Row) (x : Nat → Int), q ∣ dot w (scl w q s lead) x → q ∣ dot w (clr w q c (scl w q s lead) r) x → q ∣ dot w r x := fun r x a b => by
    have := Int.dvd_add (Int.dvd_sub b (lin r x)) (Int.dvd_mul_of_dvd_right (b := gt r c) a)
    have e3 : dot w (clr w q c (scl w q s lead) r) x - (dot w (clr w q c (scl w q s lead) r) x - (dot w r x - gt r c * dot w (scl w q s lead) x)) + gt r c * dot w (scl w q s lead) x = dot w r x := by omega
    rw [e3] at this
    exact this
  have last : ∀ (i : Nat) r, (F.map (clr w q c (scl w q s lead)) ++ [scl w q s lead])[i]? = some r → (∃ r0, F[i]? = some r0 ∧ r = clr w q c (scl w q s lead) r0) ∨ (i = F.length ∧ r = scl w q s lead) := fun i r h => by
    by_cases hi : i < F.length
    · rw [List.getElem?_append_left (by rw [List.length_map]; exact hi), List.getElem?_map] at h
      cases e : F[i]? with
      | none => rw [e] at h; cases h
      | some r0 => rw [e] at h; exact .inl ⟨r0, rfl, (Option.some.inj h).symm⟩
    · rw [List.getElem?_append_right (by rw [List.length_map]; omega), List.length_map] at h
      have hi2 := (List.getElem?_eq_some_iff.mp h).1
      rw [List.length_singleton] at hi2
      have : i = F.length := by omega
      subst this
      rw [Nat.sub_self] at h
      exact .inr ⟨rfl, (Option.some.inj h).symm⟩
  have lastp : ∀ (i : Nat) p, (ps ++ [c])[i]? = some p → (i < ps.length ∧ ps[i]? = some p) ∨ (i = ps.length ∧ p = c) := fun i p h => by
    by_cases hi : i < ps.length
    · rw [List.getElem?_append_left hi] at h
      exact .inl ⟨hi, h⟩
    · rw [List.getElem?_append_right (by omega)] at h
      have hi2 := (List.getElem?_eq_some_iff.mp h).1
      rw [List.length_singleton] at hi2
      have : i = ps.length := by omega
      subst this
      rw [Nat.sub_self] at h
      exact .inr ⟨rfl, (Option.some.inj h).symm⟩
  refine ⟨by rw [List.length_append, List.length_append, List.length_map, G.len]; rfl, fun r hr => ?_, fun r hr => ?_, ?_, fun p hp => ?_, fun i r p hr hp k hk => ?_, fun i j r p hr hp => ?_, fun r hr k hk => ?_, fun x => ?_⟩
  · rcases List.mem_append.mp hr with d | d
    · obtain ⟨r0, _, rfl⟩ := List.mem_map.mp d
      exact RC r0
    · rw [List.mem_singleton.mp d]
      exact RL
  · obtain ⟨r0, _, rfl⟩ := h1 r hr
    exact RC r0
  · rw [List.pairwise_append]
    exact ⟨G.inc, List.pairwise_singleton _ _, fun a ha b hb => by rw [List.mem_singleton.mp hb]; exact G.lt a ha⟩
  · rcases List.mem_append.mp hp with d | d
    · exact Nat.lt_succ_of_lt (G.lt p d)
    · rw [List.mem_singleton.mp d]
      exact Nat.lt_succ_self c
  · rcases last i r hr with ⟨r0, hr0, rfl⟩ | ⟨hi, rfl⟩
    · rcases lastp i p hp with ⟨_, hp0⟩ | ⟨hi, _⟩
      · have hpc := G.lt p (List.mem_of_getElem? hp0)
        rw [ck r0 (G.resF r0 (List.mem_of_getElem? hr0)) k (by omega)]
        exact G.low i r0 p hr0 hp0 k hk
      · have := (List.getElem?_eq_some_iff.mp hr0).1
        have := G.len
        omega
    · rcases lastp i p hp with ⟨hi2, _⟩ | ⟨_, rfl⟩
      · have := G.len
        omega
      · exact l0 k hk
  · rcases last i r hr with ⟨r0, hr0, rfl⟩ | ⟨hi, rfl⟩
    · have hm := G.resF r0 (List.mem_of_getElem? hr0)
      have hi3 := (List.getElem?_eq_some_iff.mp hr0).1
      rcases lastp j p hp with ⟨_, hp0⟩ | ⟨hj, rfl⟩
      · rw [ck r0 hm p (G.lt p (List.mem_of_getElem? hp0))]
        exact G.del i j r0 p hr0 hp0
      · rw [c0 r0 hm, if_neg (by have := G.len; omega)]
    · rcases lastp j p hp with ⟨hj, hp0⟩ | ⟨hj, rfl⟩
      · rw [l0 p (G.lt p (List.mem_of_getElem? hp0)), if_neg (by have := G.len; omega)]
      · rw [l1, if_pos (by have := G.len; omega)]
  · obtain ⟨r0, hr0, rfl⟩ := h1 r hr
    by_cases e : k = c
    · rw [e]
      exact c0 r0 (G.resL r0 hr0)
    · rw [ck r0 (G.resL r0 hr0) k (by omega)]
      exact G.rest r0 hr0 k (by omega)
  · rw [← G.sol x]
    constructor
    · intro h
      have hL : q ∣ dot w (scl w q s lead) x := h _ (List.mem_append_left _ (List.mem_append_right _ List.mem_cons_self))
      intro r hr
      rcases List.mem_append.mp hr with d | d
      · exact bwd r x hL (h _ (List.mem_append_left _ (List.mem_append_left _ (List.mem_map_of_mem d))))
      · rcases h2 r d with rfl | e | e
        · exact linL' x hL
        · exact bwd r x hL (h _ (List.mem_append_right _ e))
        · refine bwd r x hL ?_
          have z : dot w (clr w q c (scl w q s lead) r) x = 0 := sum_zero fun k hk => by rw [e k hk, Int.zero_mul]
          rw [z]
          exact ⟨0, by omega⟩
    · intro h
      have hL : q ∣ dot w (scl w q s lead) x := linL x (h lead (List.mem_append_right _ hl))
      intro r hr
      rcases List.mem_append.mp hr with d | d
      · rcases List.mem_append.mp d with e | e
        · obtain ⟨r0, hr0, rfl⟩ := List.mem_map.mp e
          exact fwd r0 x hL (h r0 (List.mem_append_left _ hr0))
        · rw [List.mem_singleton.mp e]
          exact hL
      · obtain ⟨r0, hr0, rfl⟩ := h1 r d
        exact fwd r0 x hL (h r0 (List.mem_append_right _ hr0))
/-! ### kernels and solutions -/
theorem mkr_set {w p : Nat} {f : Nat → Int} {v : Int} : (mkr w f).set p v = mkr w fun k => if k = p then v else f k := by
  refine List.ext_getElem? fun k => ?_
  unfold mkr
  rw [List.getElem?_set, List.getElem?_map, List.getElem?_map, List.length_map, List.length_range]
  by_cases e : p = k
  · subst e
    rw [if_pos rfl]
    by_cases h : p < w
    · rw [if_pos h, List.getElem?_range h]
      show some v = some (if p = p then v else f p)
      rw [if_pos rfl]
    · rw [if_neg h, List.getElem?_eq_none_iff.mpr (by rw [List.length_range]; omega)]
      rfl
  · rw [if_neg e]
    by_cases h : k < w
    · rw [List.getElem?_range h]
      show some (f k) = some (if k = p then v else f k)
      rw [if_neg fun z => e z.symm]
    · rw [List.getElem?_eq_none_iff.mpr (by rw [List.length_range]; omega)]
      rfl
theorem mkr_ext {w : Nat} {f g : Nat → Int} (h : ∀ k, k < w → f k = g k) : mkr w f = mkr w g := by
  unfold mkr
  exact List.map_congr_left fun k hk => h k (List.mem_range.mp hk)
/-- the kernel's row of the free column j, what stands of it when i leads are done -/
def kst (q : Int) (R : List Row) (ps : List Nat) (j i k : Nat) : Int := if k = j then 1 else if k ∈ ps.take i then nul R ps j k % q else 0
def kr (w : Nat) (q : Int) (R : List Row) (ps : List Nat) (j : Nat) : Row := mkr w fun k => nul R ps j k % q
def frees (w : Nat) (ps : List Nat) : List Nat := (List.range w).filter fun k => decide (k ∉ ps)
theorem mem_take_succ {ps : List Nat} {i p k : Nat} (hp : ps[i]? = some p) : k ∈ ps.take (i + 1) ↔ k ∈ ps.take i ∨ k = p := by
  rw [List.take_add_one, hp, List.mem_append]
  show _ ∨ k ∈ [p] ↔ _
  rw [List.mem_singleton]
theorem kst_start {q : Int} {R : List Row} {ps : List Nat} {w j : Nat} : (mkr w fun k => if k = j then (1 : Int) else 0) = mkr w (kst q R ps j 0) :=
  mkr_ext fun k _ => by
    unfold kst
    rw [List.take_zero, if_neg List.not_mem_nil]
theorem kst_step {w : Nat} {q : Int} {R : List Row} {ps : List Nat} (I : IsR w q R ps) {j i p : Nat} {r : Row} (hj : j ∉ ps) (hp : ps[i]? = some p) (hr : R[i]? = some r) :
    (mkr w (kst q R ps j i)).set p ((-gt r j) % q) = mkr w (kst q R ps j (i + 1)) := by
  have hpm : p ∈ ps := List.mem_of_getElem? hp
  have hne : p ≠ j := fun e => hj (e ▸ hpm)
  rw [mkr_set]
  refine mkr_ext fun k _ => ?_
  unfold kst
  by_cases e : k = p
  · subst e
    rw [if_pos rfl, if_neg hne, if_pos ((mem_take_succ hp).mpr (.inr rfl)), nul_pivot I hj hp hr]
  · rw [if_neg e]
    by_cases e2 : k = j
    · rw [if_pos e2, if_pos e2]
    · rw [if_neg e2, if_neg e2]
      by_cases m : k ∈ ps.take i
      · rw [if_pos m, if_pos ((mem_take_succ hp).mpr (.inl m))]
      · rw [if_neg m, if_neg fun z => ((mem_take_succ hp).mp z).elim m e]
theorem kst_end {w : Nat} {q : Int} {R : List Row} {ps : List Nat} (hq : 1 < q) {j : Nat} {n : Nat} (hn : ps.length ≤ n) : mkr w (kst q R ps j n) = kr w q R ps j := by
  refine mkr_ext fun k _ => ?_
  unfold kst
  rw [List.take_of_length_le hn]
  by_cases e : k = j
  · subst e
    rw [if_pos rfl, nul_self]
    exact (Int.emod_eq_of_lt (by decide) hq).symm
  · rw [if_neg e]
    by_cases m : k ∈ ps
    · rw [if_pos m]
    · rw [if_neg m, nul_free e m, Int.zero_emod]
theorem isr_unique2 {w : Nat} {q : Int} {R R' : List Row} {ps ps' : List Nat} (hq : 1 < q) (I : IsR w q R ps) (I' : IsR w q R' ps') (h : ∀ x, Sol w q R x ↔ Sol w q R' x) : ps = ps' :=
  inc_ext I.inc I'.inc fun x => ⟨fun hx => free_sub hq I' I (fun x => (h x).mpr) hx, fun hx => free_sub hq I I' (fun x => (h x).mp) hx⟩
theorem IsR.at_row {w : Nat} {q : Int} {R : List Row} {ps : List Nat} (I : IsR w q R ps) {i : Nat} {r : Row} (hr : R[i]? = some r) : ∃ p, ps[i]? = some p ∧ p < w ∧ gt r p = 1 ∧ ∀ k, k < p → gt r k = 0 := by
  obtain ⟨p, hp⟩ := some_of I.len hr
  refine ⟨p, hp, I.lt p (List.mem_of_getElem? hp), ?_, I.low i r p hr hp⟩
  rw [I.del i i r p hr hp, if_pos rfl]
/-- what is no lead and what is one, together all columns -/
theorem frees_len {w : Nat} {q : Int} {R : List Row} {ps : List Nat} (I : IsR w q R ps) : (frees w ps).length + R.length = w := by
  have e : ps = (List.range w).filter fun k => decide (k ∈ ps) := inc_ext I.inc (List.pairwise_lt_range.filter _) fun x => by
    rw [List.mem_filter, List.mem_range]
    exact ⟨fun h => ⟨I.lt x h, decide_eq_true h⟩, fun h => of_decide_eq_true h.2⟩
  have l := List.length_eq_countP_add_countP (fun k => decide (k ∈ ps)) (l := List.range w)
  rw [List.length_range, List.countP_eq_length_filter, List.countP_eq_length_filter, ← e] at l
  have e2 : (List.range w).filter (fun a => decide ¬ (decide (a ∈ ps)) = true) = frees w ps := by
    unfold frees
    congr 1
    funext k
    by_cases c : k ∈ ps
    · simp [c]
    · simp [c]
  rw [e2, ← I.len] at l
  omega
/-- the entry of the solution at k -/
def sv (w : Nat) (R : List Row) (ps : List Nat) (k : Nat) : Int := match ps.findIdx? (· == k) with
  | some i => gt (R.getD i []) w
  | none => 0
def sst (w : Nat) (R : List Row) (ps : List Nat) (i k : Nat) : Int := if k ∈ ps.take i then sv w R ps k else 0
def sr (w : Nat) (R : List Row) (ps : List Nat) : Row := mkr w (sv w R ps)
theorem sv_none {w : Nat} {R : List Row} {ps : List Nat} {k : Nat} (hk : k ∉ ps) : sv w R ps k = 0 := by
  unfold sv
  have : ps.findIdx? (· == k) = none := by
    rw [List.findIdx?_eq_none_iff]
    intro x hx
    exact beq_eq_false_iff_ne.mpr fun e => hk (e ▸ hx)
  rw [this]
theorem sv_at {w : Nat} {R : List Row} {ps : List Nat} (inc : ps.Pairwise (· < ·)) {i p : Nat} {r : Row} (hp : ps[i]? = some p) (hr : R[i]? = some r) : sv w R ps p = gt r w := by
  unfold sv
  rw [idx_of inc hp]
  show gt (R.getD i []) w = gt r w
  rw [List.getD_eq_getElem?_getD, hr]
  rfl
theorem sst_start {w : Nat} {R : List Row} {ps : List Nat} {n : Nat} : (mkr n fun _ => (0 : Int)) = mkr n (sst w R ps 0) :=
  mkr_ext fun k _ => by
    unfold sst
    rw [List.take_zero, if_neg List.not_mem_nil]
theorem sst_step {w n : Nat} {R : List Row} {ps : List Nat} (inc : ps.Pairwise (· < ·)) {i p : Nat} {r : Row} (hp : ps[i]? = some p) (hr : R[i]? = some r) :
    (mkr n (sst w R ps i)).set p (gt r w) = mkr n (sst w R ps (i + 1)) := by
  rw [mkr_set]
  refine mkr_ext fun k _ => ?_
  unfold sst
  by_cases e : k = p
  · subst e
    rw [if_pos rfl, if_pos ((mem_take_succ hp).mpr (.inr rfl)), sv_at inc hp hr]
  · rw [if_neg e]
    by_cases m : k ∈ ps.take i
    · rw [if_pos m, if_pos ((mem_take_succ hp).mpr (.inl m))]
    · rw [if_neg m, if_neg fun z => ((mem_take_succ hp).mp z).elim m e]
theorem sst_end {w : Nat} {R : List Row} {ps : List Nat} {n : Nat} (hn : ps.length ≤ n) : mkr w (sst w R ps n) = sr w R ps := by
  refine mkr_ext fun k _ => ?_
  unfold sst
  rw [List.take_of_length_le hn]
  by_cases m : k ∈ ps
  · rw [if_pos m]
  · rw [if_neg m, sv_none m]
def ext (g : List Row) (ts : Row) : List Row := List.zipWith (fun r x => r ++ [x]) g ts
theorem ext_len {g : List Row} {ts : Row} (h : ts.length = g.length) : (ext g ts).length = g.length := by
  unfold ext
  rw [List.length_zipWith, h, Nat.min_self]
theorem ext_at {g : List Row} {ts : Row} {i : Nat} {r : Row} (h : ts.length = g.length) (hr : g[i]? = some r) : (ext g ts)[i]? = some (r ++ [gt ts i]) := by
  have hi := (List.getElem?_eq_some_iff.mp hr).1
  unfold ext
  rw [List.getElem?_zipWith, hr, List.getElem?_eq_getElem (show i < ts.length by omega)]
  unfold gt
  rw [List.getD_eq_getElem?_getD, List.getElem?_eq_getElem (show i < ts.length by omega)]
  rfl
theorem ext_snoc {g : List Row} {ts : Row} {i : Nat} {r : Row} (h : ts.length = g.length) (hr : g[i]? = some r) : (ext g ts).take (i + 1) = (ext g ts).take i ++ [r ++ [gt ts i]] := by
  rw [List.take_add_one, ext_at h hr]
  rfl
/-! ### all solutions -/
theorem sum_congr {n : Nat} {f g : Nat → Int} (h : ∀ k, k < n → f k = g k) : sumTo n f = sumTo n g := by
  induction n with
  | zero => rfl
  | succ n ih =>
    show sumTo n f + f n = sumTo n g + g n
    rw [ih fun k hk => h k (by omega), h n (by omega)]
theorem sum_add {n : Nat} {f g : Nat → Int} : sumTo n (fun k => f k + g k) = sumTo n f + sumTo n g := by
  induction n with
  | zero => rfl
  | succ n ih =>
    show sumTo n (fun k => f k + g k) + (f n + g n) = (sumTo n f + f n) + (sumTo n g + g n)
    rw [ih]
    omega
theorem sum_dvd {n : Nat} {q : Int} {f g : Nat → Int} (h : ∀ k, k < n → q ∣ f k - g k) : q ∣ sumTo n f - sumTo n g := by
  induction n with
  | zero => exact ⟨0, by show (0 : Int) - 0 = q * 0; omega⟩
  | succ n ih =>
    have h1 := Int.dvd_add (ih fun k hk => h k (by omega)) (h n (by omega))
    have e : sumTo (n + 1) f - sumTo (n + 1) g = sumTo n f - sumTo n g + (f n - g n) := by
      show (sumTo n f + f n) - (sumTo n g + g n) = _
      omega
    rw [e]
    exact h1
theorem frees_succ' (i : Nat) (ps : List Nat) : frees (i + 1) ps = frees i ps ++ (if i ∈ ps then [] else [i]) := by
  unfold frees
  rw [List.range_succ, List.filter_append]
  congr 1
  by_cases c : i ∈ ps <;> simp [c]
theorem sum_frees (w : Nat) (ps : List Nat) (F : Nat → Int) : sumTo (frees w ps).length (fun i => F ((frees w ps).getD i 0)) = sumTo w fun k => if k ∈ ps then 0 else F k := by
  induction w with
  | zero => rfl
  | succ w ih =>
    show _ = sumTo w (fun k => if k ∈ ps then 0 else F k) + (if w ∈ ps then 0 else F w)
    rw [← ih, frees_succ']
    by_cases c : w ∈ ps
    · rw [if_pos c, if_pos c, List.append_nil]
      omega
    · rw [if_neg c, if_neg c, List.length_append]
      show sumTo (frees w ps).length _ + F (((frees w ps) ++ [w]).getD (frees w ps).length 0) = _
      have e1 : ((frees w ps) ++ [w]).getD (frees w ps).length 0 = w := by
        rw [List.getD_eq_getElem?_getD, List.getElem?_append_right (Nat.le_refl _), Nat.sub_self]
        rfl
      rw [e1]
      congr 1
      refine sum_congr fun k hk => ?_
      rw [List.getD_eq_getElem?_getD, List.getD_eq_getElem?_getD, List.getElem?_append_left hk]
theorem dot_split {w : Nat} {q : Int} {R : List Row} {ps : List Nat} (I : IsR w q R ps) {i p : Nat} {r : Row} (hp : ps[i]? = some p) (hr : R[i]? = some r) (x : Nat → Int) :
    dot w r x = x p + sumTo w fun k => if k ∈ ps then 0 else gt r k * x k := by
  have e : dot w r x = sumTo w fun k => (if k ∈ ps then gt r k * x k else 0) + (if k ∈ ps then 0 else gt r k * x k) := sum_congr fun k _ => by
    by_cases c : k ∈ ps
    · rw [if_pos c, if_pos c]; omega
    · rw [if_neg c, if_neg c]; omega
  rw [e, sum_add]
  congr 1
  have hpm := List.mem_of_getElem? hp
  rw [sum_one (a := p) (I.lt p hpm) fun k _ hk => ?_, if_pos hpm, I.del i i r p hr hp, if_pos rfl, Int.one_mul]
  by_cases c : k ∈ ps
  · obtain ⟨j, hj⟩ := List.mem_iff_getElem?.mp c
    have ne : i ≠ j := by
      rintro rfl
      rw [hp] at hj
      exact hk (Option.some.inj hj).symm
    rw [if_pos c, I.del i j r k hr hj, if_neg ne, Int.zero_mul]
  · rw [if_neg c]
theorem dot_congr {w : Nat} {r r' : Row} {x y : Nat → Int} (h : ∀ k, k < w → gt r k * x k = gt r' k * y k) : dot w r x = dot w r' y := sum_congr h
theorem gt_snoc {r : Row} {t : Int} {k : Nat} (h : k < r.length) : gt (r ++ [t]) k = gt r k := by
  unfold gt
  rw [List.getD_eq_getElem?_getD, List.getD_eq_getElem?_getD, List.getElem?_append_left h]
theorem gt_last {r : Row} {t : Int} : gt (r ++ [t]) r.length = t := by
  unfold gt
  rw [List.getD_eq_getElem?_getD, List.getElem?_append_right (Nat.le_refl _), Nat.sub_self]
  rfl
theorem gt_take {r : Row} {w k : Nat} (h : k < w) : gt (r.take w) k = gt r k := by
  unfold gt
  rw [List.getD_eq_getElem?_getD, List.getD_eq_getElem?_getD, List.getElem?_take, if_pos h]
theorem dot_snoc {w : Nat} {r : Row} {t : Int} {x : Nat → Int} (h : r.length = w) : dot (w + 1) (r ++ [t]) x = dot w r x + t * x w := by
  show sumTo w (fun k => gt (r ++ [t]) k * x k) + gt (r ++ [t]) w * x w = _
  have e : gt (r ++ [t]) w = t := by rw [← h]; exact gt_last
  rw [e]
  congr 1
  exact sum_congr fun k hk => by rw [gt_snoc (by omega)]
theorem dot_take {w : Nat} {r : Row} {x : Nat → Int} : dot (w + 1) r x = dot w (r.take w) x + gt r w * x w := by
  show sumTo w (fun k => gt r k * x k) + gt r w * x w = _
  congr 1
  exact sum_congr fun k hk => by rw [gt_take hk]
/-- x with v at w -/
def wth (w : Nat) (v : Int) (x : Nat → Int) (k : Nat) : Int := if k = w then v else x k
theorem dot_wth {w : Nat} {v : Int} {r : Row} {x : Nat → Int} : dot w r (wth w v x) = dot w r x := dot_congr fun k hk => by
  unfold wth
  rw [if_neg (by omega)]
theorem wth_at {w : Nat} {v : Int} {x : Nat → Int} : wth w v x w = v := if_pos rfl
theorem sol_ext {w : Nat} {q v : Int} {g : List Row} {ts : Row} {x : Nat → Int} (hg : ∀ r, r ∈ g → r.length = w) (ht : ts.length = g.length) :
    Sol (w + 1) q (ext g ts) (wth w v x) ↔ ∀ (i : Nat) r, g[i]? = some r → q ∣ dot w r x + gt ts i * v := by
  constructor
  · intro h i r hr
    have := h _ (List.mem_of_getElem? (ext_at ht hr))
    rw [dot_snoc (hg r (List.mem_of_getElem? hr)), dot_wth, wth_at] at this
    exact this
  · intro h r hr
    obtain ⟨i, hi⟩ := List.mem_iff_getElem?.mp hr
    have hil := (List.getElem?_eq_some_iff.mp hi).1
    rw [ext_len ht] at hil
    have hr0 : g[i]? = some (g[i]'hil) := List.getElem?_eq_getElem hil
    rw [ext_at ht hr0] at hi
    cases hi
    rw [dot_snoc (hg _ (List.getElem_mem hil)), dot_wth, wth_at]
    exact h i _ hr0
theorem trunc_isr {w : Nat} {q : Int} {R : List Row} {ps : List Nat} (I : IsR (w + 1) q R ps) (hw : w ∉ ps) : IsR w q (R.map (List.take w)) ps := by
  have lt : ∀ p, p ∈ ps → p < w := fun p hp => by
    have h1 := I.lt p hp
    have h2 : p ≠ w := fun e => hw (e ▸ hp)
    omega
  have at' : ∀ (i : Nat) r, (R.map (List.take w))[i]? = some r → ∃ r0, R[i]? = some r0 ∧ r = r0.take w := fun i r h => by
    rw [List.getElem?_map] at h
    cases e : R[i]? with
    | none => rw [e] at h; cases h
    | some r0 => rw [e] at h; exact ⟨r0, rfl, (Option.some.inj h).symm⟩
  refine ⟨by rw [List.length_map]; exact I.len, fun r hr => ?_, fun r hr k => ?_, I.inc, lt, fun i r p hr hp k hk => ?_, fun i j r p hr hp => ?_⟩
  · obtain ⟨r0, h0, rfl⟩ := List.mem_map.mp hr
    rw [List.length_take, I.row r0 h0]
    omega
  · obtain ⟨r0, h0, rfl⟩ := List.mem_map.mp hr
    by_cases c : k < w
    · rw [gt_take c]
      exact I.bnd r0 h0 k
    · rw [gt_out (by rw [List.length_take]; omega)]
      have := I.bnd r0 h0 0
      exact ⟨Int.le_refl _, by omega⟩
  · obtain ⟨r0, h0, rfl⟩ := at' i r hr
    have := lt p (List.mem_of_getElem? hp)
    rw [gt_take (by omega)]
    exact I.low i r0 p h0 hp k hk
  · obtain ⟨r0, h0, rfl⟩ := at' i r hr
    rw [gt_take (lt p (List.mem_of_getElem? hp))]
    exact I.del i j r0 p h0 hp
theorem trunc_sol {w : Nat} {q : Int} {R g : List Row} {ts : Row} (hg : ∀ r, r ∈ g → r.length = w) (ht : ts.length = g.length) (h : ∀ x, Sol (w + 1) q R x ↔ Sol (w + 1) q (ext g ts) x) (x : Nat → Int) :
    Sol w q (R.map (List.take w)) x ↔ Sol w q g x := by
  have e : Sol w q (R.map (List.take w)) x ↔ Sol (w + 1) q R (wth w 0 x) := by
    constructor
    · intro s r hr
      have := s _ (List.mem_map_of_mem hr)
      rw [dot_take, dot_wth, wth_at, Int.mul_zero, Int.add_zero]
      exact this
    · intro s r hr
      obtain ⟨r0, h0, rfl⟩ := List.mem_map.mp hr
      have := s r0 h0
      rw [dot_take, dot_wth, wth_at, Int.mul_zero, Int.add_zero] at this
      exact this
  rw [e, h, sol_ext hg ht]
  constructor
  · intro s r hr
    obtain ⟨i, hi⟩ := List.mem_iff_getElem?.mp hr
    have := s i r hi
    rw [Int.mul_zero, Int.add_zero] at this
    exact this
  · intro s i r hi
    rw [Int.mul_zero, Int.add_zero]
    exact s r (List.mem_of_getElem? hi)
def Solves (w : Nat) (q : Int) (g : List Row) (ts x : Row) : Prop := ∀ (i : Nat) r, g[i]? = some r → dot w r (gt x) % q = gt ts i
def yj (w : Nat) (q : Int) (R0 : List Row) (ps0 : List Nat) (R1 : List Row) (ps1 : List Nat) (x : Row) (j : Nat) : Row :=
  mkr w fun k => (sv w R1 ps1 k + sumTo j fun i => gt x ((frees w ps0).getD i 0) * gt (kr w q R0 ps0 ((frees w ps0).getD i 0)) k) % q
theorem yj_start {w : Nat} {q : Int} {R0 R1 : List Row} {ps0 ps1 : List Nat} {x : Row} (I1 : IsR (w + 1) q R1 ps1) : yj w q R0 ps0 R1 ps1 x 0 = sr w R1 ps1 :=
  mkr_ext fun k _ => by
    show (sv w R1 ps1 k + 0) % q = sv w R1 ps1 k
    rw [Int.add_zero]
    by_cases c : k ∈ ps1
    · obtain ⟨i, hi⟩ := List.mem_iff_getElem?.mp c
      obtain ⟨r, hr⟩ := some_of I1.len.symm hi
      rw [sv_at I1.inc hi hr]
      have := I1.bnd r (List.mem_of_getElem? hr) w
      exact Int.emod_eq_of_lt this.1 this.2
    · rw [sv_none c, Int.zero_emod]
theorem yj_step {w : Nat} {q : Int} {R0 R1 : List Row} {ps0 ps1 : List Nat} {x : Row} {j : Nat} :
    (mkr w fun k => (gt (yj w q R0 ps0 R1 ps1 x j) k + gt x ((frees w ps0).getD j 0) * gt (kr w q R0 ps0 ((frees w ps0).getD j 0)) k) % q) = yj w q R0 ps0 R1 ps1 x (j + 1) :=
  mkr_ext fun k hk => by
    unfold yj
    rw [gt_mk hk, Int.emod_add_emod]
    congr 1
    exact Int.add_assoc _ _ _
theorem solves_iff {w : Nat} {q : Int} {g : List Row} {ts x : Row} (hq : 0 < q) (hg : ∀ r, r ∈ g → r.length = w) (ht : Res g.length q ts) : Solves w q g ts x ↔ Sol (w + 1) q (ext g ts) (wth w (-1) (gt x)) := by
  rw [sol_ext hg ht.len]
  constructor
  · intro h i r hr
    have e := h i r hr
    obtain ⟨c, hc⟩ : q ∣ dot w r (gt x) % q - dot w r (gt x) := dvd_emod_sub
    rw [e] at hc
    exact ⟨-c, by rw [Int.mul_neg, Int.mul_neg]; omega⟩
  · intro h i r hr
    have e := h i r hr
    refine eq_of_dvd ⟨Int.emod_nonneg _ (by omega), Int.emod_lt_of_pos _ hq⟩ (ht.bnd i) ?_
    have := Int.dvd_add (dvd_emod_sub (q := q) (a := dot w r (gt x))) e
    have e2 : dot w r (gt x) % q - dot w r (gt x) + (dot w r (gt x) + gt ts i * -1) = dot w r (gt x) % q - gt ts i := by omega
    rwa [e2] at this
theorem all_A {w : Nat} {q : Int} {g R1 : List Row} {ts x : Row} {ps1 : List Nat} (hq : 1 < q) (I1 : IsR (w + 1) q R1 ps1) (h1 : ∀ x, Sol (w + 1) q R1 x ↔ Sol (w + 1) q (ext g ts) x) (hg : ∀ r, r ∈ g → r.length = w) (ht : Res g.length q ts) (hw : w ∈ ps1) : ¬ Solves w q g ts x := by
  intro s
  rw [solves_iff (by omega) hg ht, ← h1] at s
  obtain ⟨i, hi⟩ := List.mem_iff_getElem?.mp hw
  obtain ⟨r, hr⟩ := some_of I1.len.symm hi
  have d := s r (List.mem_of_getElem? hr)
  have e : dot (w + 1) r (wth w (-1) (gt x)) = -1 := by
    show sumTo w _ + gt r w * wth w (-1) (gt x) w = -1
    rw [sum_zero fun k hk => by rw [I1.low i r w hr hi k hk, Int.zero_mul], wth_at, I1.del i i r w hr hi, if_pos rfl]
    rfl
  rw [e] at d
  have := Int.le_of_dvd (by decide) (Int.dvd_neg.mp d)
  omega
theorem all_B {w : Nat} {q : Int} {g R0 R1 : List Row} {ts x : Row} {ps0 ps1 : List Nat} (hq : 1 < q) (I0 : IsR w q R0 ps0) (h0 : ∀ x, Sol w q R0 x ↔ Sol w q g x) (I1 : IsR (w + 1) q R1 ps1) (h1 : ∀ x, Sol (w + 1) q R1 x ↔ Sol (w + 1) q (ext g ts) x)
    (hg : ∀ r, r ∈ g → r.length = w) (ht : Res g.length q ts) (hx : Res w q x) (hw : w ∉ ps1) : Solves w q g ts x ↔ yj w q R0 ps0 R1 ps1 x (frees w ps0).length = x := by
  have IT := trunc_isr I1 hw
  have hS : ∀ x, Sol w q (R1.map (List.take w)) x ↔ Sol w q R0 x := fun x => (trunc_sol hg ht.len h1 x).trans (h0 x).symm
  have eR := isr_unique hq IT I0 hS
  have ep := isr_unique2 hq IT I0 hS
  subst ep
  rw [solves_iff (by omega) hg ht, ← h1]
  -- the entries
  have ent : ∀ k, k < w → gt (yj w q R0 ps1 R1 ps1 x (frees w ps1).length) k = (sv w R1 ps1 k + sumTo w fun j => if j ∈ ps1 then 0 else gt x j * gt (kr w q R0 ps1 j) k) % q := fun k hk => by
    unfold yj
    rw [gt_mk hk, sum_frees w ps1 fun j => gt x j * gt (kr w q R0 ps1 j) k]
  have free : ∀ k, k < w → k ∉ ps1 → gt (yj w q R0 ps1 R1 ps1 x (frees w ps1).length) k = gt x k := fun k hk hn => by
    rw [ent k hk, sv_none hn, Int.zero_add, sum_one (a := k) hk fun j _ hj => ?_, if_neg hn]
    · unfold kr
      rw [gt_mk hk, nul_self, Int.emod_eq_of_lt (a := 1) (by decide) hq, Int.mul_one]
      exact Int.emod_eq_of_lt (hx.bnd k).1 (hx.bnd k).2
    · by_cases c : j ∈ ps1
      · rw [if_pos c]
      · rw [if_neg c]
        unfold kr
        rw [gt_mk hk, nul_free (fun e => hj e.symm) hn, Int.zero_emod, Int.mul_zero]
  have piv : ∀ (i p : Nat) r, ps1[i]? = some p → R1[i]? = some r → (gt (yj w q R0 ps1 R1 ps1 x (frees w ps1).length) p = gt x p ↔ q ∣ dot (w + 1) r (wth w (-1) (gt x))) := fun i p r hp hr => by
    have hpm := List.mem_of_getElem? hp
    have hpw : p < w := IT.lt p hpm
    have hr0 : R0[i]? = some (r.take w) := by rw [← eR, List.getElem?_map, hr]; rfl
    rw [ent p hpw, sv_at I1.inc hp hr, dot_take, dot_wth, wth_at, dot_split I0 hp hr0 (gt x)]
    have d : q ∣ (sumTo w fun j => (if j ∈ ps1 then 0 else gt x j * gt (kr w q R0 ps1 j) p) + (if j ∈ ps1 then 0 else gt (r.take w) j * gt x j)) - sumTo w (fun _ => 0) := sum_dvd fun j _ => by
      by_cases c : j ∈ ps1
      · rw [if_pos c, if_pos c]
        exact ⟨0, by omega⟩
      · rw [if_neg c, if_neg c]
        unfold kr
        rw [gt_mk hpw, nul_pivot I0 c hp hr0]
        obtain ⟨u, hu⟩ : q ∣ (-gt (r.take w) j) % q - -gt (r.take w) j := dvd_emod_sub
        refine ⟨gt x j * u, ?_⟩
        have e1 : (-gt (r.take w) j) % q = -gt (r.take w) j + q * u := by omega
        rw [e1, Int.mul_add, Int.mul_neg, Int.mul_comm (gt x j) (gt (r.take w) j), ← Int.mul_assoc, Int.mul_comm (gt x j) q, Int.mul_assoc]
        omega
    rw [sum_add, sum_zero (f := fun _ => (0 : Int)) fun _ _ => rfl, Int.sub_zero] at d
    generalize sumTo w (fun j => if j ∈ ps1 then 0 else gt x j * gt (kr w q R0 ps1 j) p) = A at d ⊢
    generalize sumTo w (fun j => if j ∈ ps1 then 0 else gt (r.take w) j * gt x j) = S at d ⊢
    have bp := hx.bnd p
    constructor
    · intro e
      have h2 : q ∣ gt r w + A - gt x p := by
        have := Int.dvd_neg.mpr (dvd_emod_sub (q := q) (a := gt r w + A))
        rw [e] at this
        have e3 : -(gt x p - (gt r w + A)) = gt r w + A - gt x p := by omega
        rwa [e3] at this
      have := Int.dvd_sub d h2
      have e4 : A + S - (gt r w + A - gt x p) = gt x p + S + gt r w * -1 := by omega
      rwa [e4] at this
    · intro e
      refine eq_of_dvd ⟨Int.emod_nonneg _ (by omega), Int.emod_lt_of_pos _ (by omega)⟩ bp ?_
      have := Int.dvd_add (dvd_emod_sub (q := q) (a := gt r w + A)) (Int.dvd_sub d e)
      have e4 : (gt r w + A) % q - (gt r w + A) + (A + S - (gt x p + S + gt r w * -1)) = (gt r w + A) % q - gt x p := by omega
      rwa [e4] at this
  constructor
  · intro s
    refine row_ext (by rw [hx.len]; exact mk_len _ _) fun k hk => ?_
    have hk' : k < w := by unfold yj at hk; rw [mk_len] at hk; exact hk
    by_cases c : k ∈ ps1
    · obtain ⟨i, hi⟩ := List.mem_iff_getElem?.mp c
      obtain ⟨r, hr⟩ := some_of I1.len.symm hi
      exact (piv i k r hi hr).mpr (s r (List.mem_of_getElem? hr))
    · exact free k hk' c
  · intro e r hr
    obtain ⟨i, hi⟩ := List.mem_iff_getElem?.mp hr
    obtain ⟨p, hp⟩ := some_of I1.len hi
    exact (piv i p r hp hi).mp (by rw [e])
/-! ### all vectors, each once; how often each value comes -/
theorem len_sub {α : Type} : ∀ {l m : List α}, l.Nodup → (∀ x, x ∈ l → x ∈ m) → l.length ≤ m.length
  | [], _, _, _ => Nat.zero_le _
  | a :: l, m, hn, h => by
    have hn' := List.nodup_cons.mp hn
    obtain ⟨s, t, e⟩ := List.append_of_mem (h a List.mem_cons_self)
    have ih := len_sub (l := l) (m := s ++ t) hn'.2 fun x hx => by
      have := h x (List.mem_cons_of_mem _ hx)
      rw [e] at this
      rcases List.mem_append.mp this with c | c
      · exact List.mem_append_left _ c
      · rcases List.mem_cons.mp c with d | d
        · exact absurd (d ▸ hx) hn'.1
        · exact List.mem_append_right _ d
    rw [e, List.length_append, List.length_cons]
    rw [List.length_append] at ih
    rw [List.length_cons]
    omega
theorem inc_nodup {ps : List Nat} (h : ps.Pairwise (· < ·)) : ps.Nodup := h.imp fun h => Nat.ne_of_lt h
theorem inc_sub {ps qs : List Nat} (hp : ps.Pairwise (· < ·)) (hq : qs.Pairwise (· < ·)) (h : ∀ x, x ∈ ps → x ∈ qs) (hl : ps.length = qs.length) : ps = qs := by
  refine inc_ext hp hq fun x => ⟨h x, fun hx => Classical.byContradiction fun n => ?_⟩
  have := len_sub (l := x :: ps) (m := qs) (List.nodup_cons.mpr ⟨n, inc_nodup hp⟩) fun y hy => by
    rcases List.mem_cons.mp hy with e | e
    · rw [e]; exact hx
    · exact h y e
  rw [List.length_cons] at this
  omega
theorem isr_len {w : Nat} {q : Int} {R R' : List Row} {ps ps' : List Nat} (hq : 1 < q) (I : IsR w q R ps) (I' : IsR w q R' ps') (h : ∀ x, Sol w q R x → Sol w q R' x) (hl : R.length = R'.length) : R = R' := by
  have e : ps' = ps := inc_sub I'.inc I.inc (fun x hx => free_sub hq I I' h hx) (by rw [← I.len, ← I'.len, hl])
  subst e
  refine List.ext_getElem? fun i => ?_
  cases hr : R[i]? with
  | none =>
    have : R.length ≤ i := List.getElem?_eq_none_iff.mp hr
    rw [List.getElem?_eq_none_iff.mpr (by omega)]
  | some r =>
    obtain ⟨r', hr'⟩ := some_of (I.len.trans I'.len.symm) hr
    obtain ⟨p, hp⟩ := some_of I.len hr
    rw [hr']
    congr 1
    have m := List.mem_of_getElem? hr
    have m' := List.mem_of_getElem? hr'
    have hpm : p ∈ ps' := List.mem_of_getElem? hp
    have key : ∀ j, j < w → gt r j = gt r' j := fun j hjw => by
      by_cases hj : j ∈ ps'
      · obtain ⟨i', hi'⟩ := List.mem_iff_getElem?.mp hj
        rw [I.del i i' r j hr hi', I'.del i i' r' j hr' hi']
      · have s := h _ (nul_sol I hjw hj) r' m'
        have hne : j ≠ p := fun e => hj (e ▸ hpm)
        have e : dot w r' (nul R ps' j) = gt r' j * nul R ps' j j + gt r' p * nul R ps' j p := sum_two hjw (I.lt p hpm) hne fun k _ hkj hkp => by
          by_cases c : k ∈ ps'
          · obtain ⟨i', hi'⟩ := List.mem_iff_getElem?.mp c
            have ne : i ≠ i' := by
              rintro rfl
              rw [hp] at hi'
              exact hkp (Option.some.inj hi').symm
            rw [I'.del i i' r' k hr' hi', if_neg ne, Int.zero_mul]
          · rw [nul_free hkj c, Int.mul_zero]
        rw [e, nul_self, nul_pivot I hj hp hr, I'.del i i r' p hr' hp, if_pos rfl, Int.mul_one, Int.one_mul] at s
        refine (eq_of_dvd (I'.bnd r' m' j) (I.bnd r m j) ?_).symm
        have e2 : gt r' j - gt r j = gt r' j + -gt r j := by omega
        rw [e2]
        exact s
    exact row_ext (by rw [I.row r m, I'.row r' m']) fun k hk => key k (by rw [I.row r m] at hk; exact hk)
/-- the form has one value for all solutions -/
def Fixed (w : Nat) (q : Int) (g : List Row) (fm : Row) : Prop := ∀ x, Sol w q g x → q ∣ dot w fm x
theorem sol_snoc {w : Nat} {q : Int} {g : List Row} {fm : Row} {x : Nat → Int} : Sol w q (g ++ [fm]) x ↔ Sol w q g x ∧ q ∣ dot w fm x := by
  constructor
  · intro h
    exact ⟨fun r hr => h r (List.mem_append_left _ hr), h fm (List.mem_append_right _ List.mem_cons_self)⟩
  · rintro ⟨h, h1⟩ r hr
    rcases List.mem_append.mp hr with c | c
    · exact h r c
    · rw [List.mem_singleton.mp c]
      exact h1
theorem fixed_iff {w : Nat} {q : Int} {g R0 R1 : List Row} {fm : Row} {ps0 ps1 : List Nat} (hq : 1 < q) (I0 : IsR w q R0 ps0) (h0 : ∀ x, Sol w q R0 x ↔ Sol w q g x) (I1 : IsR w q R1 ps1) (h1 : ∀ x, Sol w q R1 x ↔ Sol w q (g ++ [fm]) x) :
    R0.length = R1.length ↔ Fixed w q g fm := by
  constructor
  · intro hl x hx
    have e := isr_len hq I1 I0 (fun x hx => (h0 x).mpr (sol_snoc.mp ((h1 x).mp hx)).1) hl.symm
    exact (sol_snoc.mp ((h1 x).mp (by rw [e]; exact (h0 x).mpr hx))).2
  · intro hf
    rw [isr_unique hq I0 I1 fun x => ⟨fun hx => (h1 x).mpr (sol_snoc.mpr ⟨(h0 x).mp hx, hf x ((h0 x).mp hx)⟩), fun hx => (h0 x).mpr (sol_snoc.mp ((h1 x).mp hx)).1⟩]
def stepv (q : Nat) (r : Row) : List Row := (List.range q).map fun a : Nat => r ++ [(a : Int)]
def vecs (q : Nat) : Nat → List Row
  | 0 => [[]]
  | n + 1 => (vecs q n).flatMap (stepv q)
theorem snoc_inj {r s : Row} {a b : Int} (h : r ++ [a] = s ++ [b]) : r = s ∧ a = b := by
  have := List.append_inj' h rfl
  exact ⟨this.1, by have := this.2; injection this⟩
theorem gt_mem {r : Row} {k : Nat} (h : k < r.length) : gt r k ∈ r := by
  unfold gt
  rw [List.getD_eq_getElem?_getD, List.getElem?_eq_getElem h]
  exact List.getElem_mem h
theorem res_mem {w : Nat} {q : Int} {r : Row} (h : Res w q r) {x : Int} (hx : x ∈ r) : 0 ≤ x ∧ x < q := by
  obtain ⟨k, hk, rfl⟩ := List.mem_iff_getElem.mp hx
  have := h.bnd k
  unfold gt at this
  rw [List.getD_eq_getElem?_getD, List.getElem?_eq_getElem hk] at this
  exact this
theorem mem_vecs {q : Nat} (hq : 0 < q) : ∀ {n : Nat} {x : Row}, x ∈ vecs q n ↔ Res n q x
  | 0, x => by
    constructor
    · intro h
      rw [List.mem_singleton.mp h]
      exact ⟨rfl, fun k => ⟨Int.le_refl _, by show (0 : Int) < q; omega⟩⟩
    · intro h
      rw [List.length_eq_zero_iff.mp h.len]
      exact List.mem_cons_self
  | n + 1, x => by
    constructor
    · intro h
      obtain ⟨r, hr, hx⟩ := List.mem_flatMap.mp h
      obtain ⟨a, ha, rfl⟩ := List.mem_map.mp hx
      have ha' := List.mem_range.mp ha
      have R := (mem_vecs hq).mp hr
      refine ⟨by rw [List.length_append, R.len]; rfl, fun k => ?_⟩
      by_cases c : k < n
      · rw [gt_snoc (by rw [R.len]; exact c)]
        exact R.bnd k
      · by_cases d : k = n
        · rw [d, ← R.len, gt_last]
          omega
        · rw [gt_out (by rw [List.length_append, R.len]; show n + 1 ≤ k; omega)]
          omega
    · intro R
      have hl := R.len
      have e : x = x.take n ++ [gt x n] := by
        refine row_ext (by rw [List.length_append, List.length_take, hl, List.length_singleton]; omega) fun k hk => ?_
        by_cases c : k < n
        · rw [gt_snoc (by rw [List.length_take]; omega), gt_take c]
        · have d : k = (x.take n).length := by rw [List.length_take]; omega
          rw [d, gt_last, List.length_take, Nat.min_eq_left (by omega)]
      have b := R.bnd n
      refine List.mem_flatMap.mpr ⟨x.take n, (mem_vecs hq).mpr ⟨by rw [List.length_take]; omega, fun k => ?_⟩, List.mem_map.mpr ⟨(gt x n).toNat, List.mem_range.mpr (by omega), ?_⟩⟩
      · by_cases c : k < n
        · rw [gt_take c]
          exact R.bnd k
        · rw [gt_out (by rw [List.length_take]; omega)]
          omega
      · rw [Int.toNat_of_nonneg b.1]
        exact e.symm
theorem nodup_flat {α β : Type} {f : α → List β} : ∀ {l : List α}, l.Nodup → (∀ a, a ∈ l → (f a).Nodup) → (∀ a b x, a ∈ l → b ∈ l → x ∈ f a → x ∈ f b → a = b) → (l.flatMap f).Nodup
  | [], _, _, _ => List.nodup_nil
  | a :: l, hn, h1, h2 => by
    have hn' := List.nodup_cons.mp hn
    rw [List.flatMap_cons]
    refine List.nodup_append.mpr ⟨h1 a List.mem_cons_self, nodup_flat hn'.2 (fun b hb => h1 b (List.mem_cons_of_mem _ hb)) (fun b c x hb hc => h2 b c x (List.mem_cons_of_mem _ hb) (List.mem_cons_of_mem _ hc)), fun x hx y hy e => ?_⟩
    obtain ⟨b, hb, hxb⟩ := List.mem_flatMap.mp hy
    rw [← e] at hxb
    exact hn'.1 (h2 a b x List.mem_cons_self (List.mem_cons_of_mem _ hb) hx hxb ▸ hb)
theorem nodup_mapI {α β : Type} {f : α → β} : ∀ {l : List α}, l.Nodup → (∀ a b, a ∈ l → b ∈ l → f a = f b → a = b) → (l.map f).Nodup
  | [], _, _ => List.nodup_nil
  | a :: l, hn, h => by
    have hn' := List.nodup_cons.mp hn
    rw [List.map_cons]
    refine List.nodup_cons.mpr ⟨fun hm => ?_, nodup_mapI hn'.2 fun b c hb hc => h b c (List.mem_cons_of_mem _ hb) (List.mem_cons_of_mem _ hc)⟩
    obtain ⟨b, hb, e⟩ := List.mem_map.mp hm
    exact hn'.1 (h b a (List.mem_cons_of_mem _ hb) List.mem_cons_self e ▸ hb)
theorem nodup_vecs (q : Nat) : ∀ n : Nat, (vecs q n).Nodup
  | 0 => List.nodup_cons.mpr ⟨List.not_mem_nil, List.nodup_nil⟩
  | n + 1 => nodup_flat (nodup_vecs q n) (fun r _ => nodup_mapI List.nodup_range fun a b _ _ e => by have := (snoc_inj e).2; omega) fun r s x _ _ hx hy => by
    obtain ⟨a, _, e1⟩ := List.mem_map.mp hx
    obtain ⟨b, _, e2⟩ := List.mem_map.mp hy
    exact (snoc_inj (e1.trans e2.symm)).1
def vl (w : Nat) (q : Int) (g : List Row) (x : Row) : Row := g.map fun r => dot w r (gt x) % q
def fat (w : Nat) (q : Int) (fm x : Row) : Int := dot w fm (gt x) % q
def cntp (w : Nat) (q : Int) (g : List Row) (fm v : Row) (a : Int) (x : Row) : Bool := decide (vl w q g x = v) && decide (fat w q fm x = a)
def cnt (w : Nat) (q : Int) (g : List Row) (fm : Row) (l : List Row) (v : Row) (a : Int) : Nat := (l.filter (cntp w q g fm v a)).length
def cl (w q : Nat) (g : List Row) (fm : Row) (l : List Row) (v : Row) : Row := mkr q fun a => (cnt w q g fm l v a : Int)
/-- a vector moved by another -/
def shf (w : Nat) (q : Int) (k : Nat → Int) (x : Row) : Row := mkr w fun i => (gt x i + k i) % q
theorem dot_shf {w : Nat} {q : Int} {k : Nat → Int} {x r : Row} : q ∣ dot w r (gt (shf w q k x)) - (dot w r (gt x) + dot w r k) := by
  have e : dot w r (gt x) + dot w r k = sumTo w fun i => gt r i * (gt x i + k i) := by
    unfold dot
    rw [← sum_add]
    exact sum_congr fun i _ => (Int.mul_add _ _ _).symm
  rw [e]
  refine sum_dvd fun i hi => ?_
  rw [← Int.mul_sub]
  refine Int.dvd_mul_of_dvd_right ?_
  unfold shf
  rw [gt_mk hi]
  exact dvd_emod_sub
theorem emod_of_dvd {q a b : Int} (h : q ∣ a - b) : a % q = b % q := Int.emod_eq_emod_iff_emod_sub_eq_zero.mpr (Int.emod_eq_zero_of_dvd h)
theorem vl_shf {w : Nat} {q : Int} {g : List Row} {k : Nat → Int} (hk : Sol w q g k) (x : Row) : vl w q g (shf w q k x) = vl w q g x := by
  refine List.map_congr_left fun r hr => emod_of_dvd ?_
  have h1 := dot_shf (w := w) (q := q) (k := k) (x := x) (r := r)
  have h2 := Int.dvd_add h1 (hk r hr)
  have e : dot w r (gt (shf w q k x)) - (dot w r (gt x) + dot w r k) + dot w r k = dot w r (gt (shf w q k x)) - dot w r (gt x) := by omega
  rw [e] at h2
  exact h2
theorem fat_shf {w : Nat} {q : Int} {fm : Row} {k : Nat → Int} (x : Row) : fat w q fm (shf w q k x) = (fat w q fm x + dot w fm k) % q := by
  have h1 := emod_of_dvd (dot_shf (w := w) (q := q) (k := k) (x := x) (r := fm))
  unfold fat
  rw [h1, Int.emod_add_emod]
theorem shf_inj {w : Nat} {q : Int} {k : Nat → Int} {x y : Row} (hx : Res w q x) (hy : Res w q y) (e : shf w q k x = shf w q k y) : x = y := by
  refine row_ext (by rw [hx.len, hy.len]) fun i hi => ?_
  rw [hx.len] at hi
  have h : gt (shf w q k x) i = gt (shf w q k y) i := by rw [e]
  unfold shf at h
  rw [gt_mk hi, gt_mk hi] at h
  refine eq_of_dvd (hx.bnd i) (hy.bnd i) ?_
  have := Int.dvd_of_emod_eq_zero (Int.emod_eq_emod_iff_emod_sub_eq_zero.mp h)
  have e2 : gt x i + k i - (gt y i + k i) = gt x i - gt y i := by omega
  rw [e2] at this
  exact this
theorem cnt_le {w q : Nat} {g : List Row} {fm v : Row} {k : Nat → Int} (hq : 0 < q) (hk : Sol w q g k) (a : Int) : cnt w q g fm (vecs q w) v a ≤ cnt w q g fm (vecs q w) v ((a + dot w fm k) % (q : Int)) := by
  have hn : (((vecs q w).filter (cntp w q g fm v a)).map (shf w q k)).Nodup := nodup_mapI ((nodup_vecs q w).filter _) fun x y hx hy e => shf_inj ((mem_vecs hq).mp (List.mem_filter.mp hx).1) ((mem_vecs hq).mp (List.mem_filter.mp hy).1) e
  have := len_sub hn (m := (vecs q w).filter (cntp w q g fm v ((a + dot w fm k) % (q : Int)))) fun y hy => by
    obtain ⟨x, hx, rfl⟩ := List.mem_map.mp hy
    obtain ⟨hm, hp⟩ := List.mem_filter.mp hx
    unfold cntp at hp
    rw [Bool.and_eq_true, decide_eq_true_eq, decide_eq_true_eq] at hp
    refine List.mem_filter.mpr ⟨(mem_vecs hq).mpr (Res.of_mk (by omega) _), ?_⟩
    unfold cntp
    rw [Bool.and_eq_true, decide_eq_true_eq, decide_eq_true_eq]
    exact ⟨(vl_shf hk x).trans hp.1, by rw [fat_shf, hp.2]⟩
  rw [List.length_map] at this
  exact this
theorem dot_smul {w : Nat} {r : Row} {c : Int} {x : Nat → Int} : dot w r (fun i => c * x i) = c * dot w r x := by
  unfold dot
  induction w with
  | zero => exact (Int.mul_zero c).symm
  | succ n ih =>
    show sumTo n (fun i => gt r i * (c * x i)) + gt r n * (c * x n) = c * (sumTo n (fun i => gt r i * x i) + gt r n * x n)
    rw [ih, Int.mul_add, Int.mul_left_comm]
theorem sol_smul {w : Nat} {q : Int} {g : List Row} {c : Int} {x : Nat → Int} (h : Sol w q g x) : Sol w q g fun i => c * x i := fun r hr => by
  rw [dot_smul]
  exact Int.dvd_mul_of_dvd_right (h r hr)
theorem not_fixed {w q : Nat} {g : List Row} {fm : Row} (hq : q ∈ PL) (h : ¬ Fixed w q g fm) (c : Int) (c0 : 0 ≤ c) (c1 : c < q) : ∃ k, Sol w q g k ∧ dot w fm k % (q : Int) = c := by
  have q0 := pl_range q hq
  obtain ⟨x, hx⟩ := Classical.not_forall.mp h
  obtain ⟨hs, hd⟩ := Classical.not_imp.mp hx
  have d0 : dot w fm x % (q : Int) ≠ 0 := fun e => hd (Int.dvd_of_emod_eq_zero e)
  have b0 := Int.emod_nonneg (dot w fm x) (show (q : Int) ≠ 0 by omega)
  have b1 := Int.emod_lt_of_pos (dot w fm x) (show (0 : Int) < q by omega)
  obtain ⟨b, _, hb⟩ := pl_inv q hq (dot w fm x % (q : Int)).toNat (by omega) (by omega)
  have hb2 : (dot w fm x % (q : Int)) * (b : Int) % (q : Int) = 1 := by
    have : (((dot w fm x % (q : Int)).toNat * b % q : Nat) : Int) = 1 := by rw [hb]; rfl
    rw [Int.natCast_emod, Int.natCast_mul, Int.toNat_of_nonneg b0] at this
    exact this
  refine ⟨fun i => (c * b) * x i, sol_smul hs, ?_⟩
  rw [dot_smul]
  have e : c * (b : Int) * dot w fm x % (q : Int) = c * ((dot w fm x % (q : Int)) * (b : Int) % (q : Int)) % (q : Int) := by
    have e1 : (dot w fm x % (q : Int)) * (b : Int) % (q : Int) = dot w fm x * b % (q : Int) := by rw [Int.mul_emod, Int.emod_emod_of_dvd _ (Int.dvd_refl _), ← Int.mul_emod]
    have e2 : c * (dot w fm x * b % (q : Int)) % (q : Int) = c * (dot w fm x * b) % (q : Int) := by rw [Int.mul_emod, Int.emod_emod_of_dvd _ (Int.dvd_refl _), ← Int.mul_emod]
    rw [e1, e2, Int.mul_assoc, Int.mul_comm (b : Int)]
  rw [e, hb2, Int.mul_one, Int.emod_eq_of_lt c0 c1]
theorem cnt_even {w q : Nat} {g : List Row} {fm v : Row} (hq : q ∈ PL) (h : ¬ Fixed w q g fm) {a : Int} (a0 : 0 ≤ a) (a1 : a < q) : cnt w q g fm (vecs q w) v a = cnt w q g fm (vecs q w) v 0 := by
  have q0 := pl_range q hq
  refine Nat.le_antisymm ?_ ?_
  · obtain ⟨k, hk, ek⟩ := not_fixed hq h ((-a) % (q : Int)) (Int.emod_nonneg _ (by omega)) (Int.emod_lt_of_pos _ (by omega))
    have := cnt_le (fm := fm) (v := v) (by omega) hk a
    have e : (a + dot w fm k) % (q : Int) = 0 := by
      rw [← Int.add_emod_emod, ek, Int.add_emod_emod]
      have : a + -a = 0 := by omega
      rw [this]
      rfl
    rw [e] at this
    exact this
  · obtain ⟨k, hk, ek⟩ := not_fixed hq h a a0 a1
    have := cnt_le (fm := fm) (v := v) (by omega) hk 0
    have e : (0 + dot w fm k) % (q : Int) = a := by
      rw [Int.zero_add, ek]
    rw [e] at this
    exact this
theorem fixed_same {w : Nat} {q : Int} {g : List Row} {fm x y : Row} (h : Fixed w q g fm) (e : vl w q g x = vl w q g y) : fat w q fm x = fat w q fm y := by
  have lin : ∀ r : Row, dot w r (fun i => gt x i - gt y i) = dot w r (gt x) - dot w r (gt y) := fun r => by
    have e1 : dot w r (gt x) = dot w r (fun i => gt x i - gt y i) + dot w r (gt y) := by
      unfold dot
      rw [← sum_add]
      exact sum_congr fun i _ => by
        show gt r i * gt x i = gt r i * (gt x i - gt y i) + gt r i * gt y i
        rw [← Int.mul_add]
        congr 1
        omega
    omega
  have hs : Sol w q g fun i => gt x i - gt y i := fun r hr => by
    rw [lin]
    have := List.map_inj_left.mp e r hr
    exact Int.dvd_of_emod_eq_zero (Int.emod_eq_emod_iff_emod_sub_eq_zero.mp this)
  have := h _ hs
  rw [lin] at this
  exact emod_of_dvd this
theorem cntp_iff {w : Nat} {q : Int} {g : List Row} {fm v x : Row} {a : Int} : cntp w q g fm v a x = true ↔ vl w q g x = v ∧ fat w q fm x = a := by
  unfold cntp
  rw [Bool.and_eq_true, decide_eq_true_eq, decide_eq_true_eq]
theorem cnt_snoc {w : Nat} {q : Int} {g : List Row} {fm v x : Row} {l : List Row} {a : Int} : cnt w q g fm (l ++ [x]) v a = cnt w q g fm l v a + if vl w q g x = v ∧ fat w q fm x = a then 1 else 0 := by
  unfold cnt
  rw [List.filter_append, List.length_append]
  congr 1
  by_cases c : vl w q g x = v ∧ fat w q fm x = a
  · rw [if_pos c, List.filter_cons_of_pos (cntp_iff.mpr c)]
    rfl
  · rw [if_neg c, List.filter_cons_of_neg (fun h => c (cntp_iff.mp h))]
    rfl
theorem fat_rng {w q : Nat} {fm x : Row} (hq : 0 < q) : 0 ≤ fat w q fm x ∧ fat w q fm x < q := ⟨Int.emod_nonneg _ (by omega), Int.emod_lt_of_pos _ (by omega)⟩
theorem cl_ne {w q : Nat} {g : List Row} {fm v x : Row} {l : List Row} (h : vl w q g x ≠ v) : cl w q g fm (l ++ [x]) v = cl w q g fm l v :=
  mkr_ext fun k _ => by rw [cnt_snoc, if_neg fun c => h c.1]; rfl
theorem cl_eq {w q : Nat} {g : List Row} {fm x : Row} {l : List Row} (hq : 0 < q) : cl w q g fm (l ++ [x]) (vl w q g x) = (cl w q g fm l (vl w q g x)).set (fat w q fm x).toNat (gt (cl w q g fm l (vl w q g x)) (fat w q fm x).toNat + 1) := by
  have b := fat_rng (w := w) (fm := fm) (x := x) hq
  unfold cl
  rw [mkr_set]
  refine mkr_ext fun k hk => ?_
  rw [cnt_snoc, gt_mk (by omega)]
  by_cases c : k = (fat w q fm x).toNat
  · rw [if_pos c, if_pos ⟨rfl, by omega⟩, c]
    rfl
  · rw [if_neg c, if_neg fun z => c (by have := z.2; omega)]
    rfl
theorem cl_none {w q : Nat} {g : List Row} {fm v : Row} {l : List Row} (h : ∀ x, x ∈ l → vl w q g x ≠ v) : cl w q g fm l v = mkr q fun _ => (0 : Int) :=
  mkr_ext fun k _ => by
    have : cnt w q g fm l v k = 0 := by
      unfold cnt
      rw [List.length_eq_zero_iff, List.filter_eq_nil_iff]
      exact fun x hx c => h x hx (cntp_iff.mp c).1
    rw [this]
    rfl
theorem cl_len {w q : Nat} {g : List Row} {fm v : Row} {l : List Row} : (cl w q g fm l v).length = q := mk_len _ _
theorem cut_set {r : Row} {k : Nat} {z : Int} (h : k < r.length) : r.set k z = r.take k ++ (z :: r.drop (k + 1)) := List.set_eq_take_append_cons_drop.trans (if_pos h)
theorem cnt_pos {w : Nat} {q : Int} {g : List Row} {fm v : Row} {l : List Row} {a : Int} : 0 < cnt w q g fm l v a ↔ ∃ x, x ∈ l ∧ vl w q g x = v ∧ fat w q fm x = a := by
  unfold cnt
  rw [List.length_pos_iff_exists_mem]
  exact ⟨fun ⟨x, hx⟩ => ⟨x, (List.mem_filter.mp hx).1, cntp_iff.mp (List.mem_filter.mp hx).2⟩, fun ⟨x, hx, h⟩ => ⟨x, List.mem_filter.mpr ⟨hx, cntp_iff.mpr h⟩⟩⟩
theorem mkr_filter {q : Nat} {F : Nat → Int} {p : Int → Bool} : ((mkr q F).filter p).length = ((List.range q).filter fun a => p (F a)).length := by
  unfold mkr
  rw [List.filter_map, List.length_map]
  rfl
def posn (r : Row) : Nat := (r.filter fun z => decide (0 < z)).length
def evn (r : Row) : Nat := (r.filter fun z => decide (z ≠ gt r 0)).length
theorem pos_fixed {w q : Nat} {g : List Row} {fm x : Row} (hq : q ∈ PL) (h : Fixed w q g fm) (hx : x ∈ vecs q w) : posn (cl w q g fm (vecs q w) (vl w q g x)) = 1 := by
  have q0 := pl_range q hq
  have b := fat_rng (w := w) (fm := fm) (x := x) (show 0 < q by omega)
  unfold posn cl
  rw [mkr_filter]
  have m : ∀ a : Nat, a ∈ (List.range q).filter (fun a : Nat => decide ((0 : Int) < (cnt w q g fm (vecs q w) (vl w q g x) (a : Int) : Int))) ↔ a = (fat w q fm x).toNat := fun a => by
    rw [List.mem_filter, List.mem_range, decide_eq_true_eq]
    constructor
    · rintro ⟨ha, hc⟩
      obtain ⟨y, hy, e1, e2⟩ := cnt_pos.mp (show 0 < cnt w q g fm (vecs q w) (vl w q g x) (a : Int) by omega)
      have := fixed_same h e1
      omega
    · rintro rfl
      refine ⟨by omega, ?_⟩
      have := (cnt_pos (g := g)).mpr ⟨x, hx, rfl, (show fat w q fm x = (((fat w q fm x).toNat : Nat) : Int) by omega)⟩
      omega
  refine Nat.le_antisymm (len_sub (m := [(fat w q fm x).toNat]) (List.nodup_range.filter _) fun a ha => List.mem_singleton.mpr ((m a).mp ha)) (len_sub (l := [(fat w q fm x).toNat]) (List.nodup_cons.mpr ⟨List.not_mem_nil, List.nodup_nil⟩) fun a ha => (m a).mpr (List.mem_singleton.mp ha))
theorem cl_even {w q : Nat} {g : List Row} {fm v : Row} (hq : q ∈ PL) (h : ¬ Fixed w q g fm) : cl w q g fm (vecs q w) v = mkr q fun _ => (cnt w q g fm (vecs q w) v 0 : Int) :=
  mkr_ext fun k hk => by rw [cnt_even hq h (by omega) (by omega)]
theorem evn_not {w q : Nat} {g : List Row} {fm v : Row} (hq : q ∈ PL) (h : ¬ Fixed w q g fm) : evn (cl w q g fm (vecs q w) v) = 0 := by
  have q0 := pl_range q hq
  unfold evn
  rw [cl_even hq h, mkr_filter, List.length_eq_zero_iff, List.filter_eq_nil_iff]
  intro a _ c
  rw [gt_mk (by omega)] at c
  exact of_decide_eq_true c rfl
theorem pos_not {w q : Nat} {g : List Row} {fm x : Row} (hq : q ∈ PL) (h : ¬ Fixed w q g fm) (hx : x ∈ vecs q w) : posn (cl w q g fm (vecs q w) (vl w q g x)) ≠ 1 := by
  have q0 := pl_range q hq
  have b := fat_rng (w := w) (fm := fm) (x := x) (show 0 < q by omega)
  have p : 0 < cnt w q g fm (vecs q w) (vl w q g x) 0 := by
    rw [← cnt_even hq h b.1 b.2]
    exact cnt_pos.mpr ⟨x, hx, rfl, rfl⟩
  unfold posn
  rw [cl_even hq h, mkr_filter, List.filter_eq_self.mpr fun a _ => decide_eq_true (by omega), List.length_range]
  omega
theorem vecs_some {q w : Nat} (hq : 0 < q) : ∃ x, x ∈ vecs q w := ⟨mkr w fun k => (0 : Int) % q, (mem_vecs hq).mpr (Res.of_mk (by omega) _)⟩
theorem vecs_len (q : Nat) : ∀ w, (vecs q w).length = q ^ w
  | 0 => rfl
  | w + 1 => by
    have : ∀ l : List Row, (l.flatMap (stepv q)).length = l.length * q := fun l => by
      induction l with
      | nil => exact (Nat.zero_mul q).symm
      | cons a l ih =>
        rw [List.flatMap_cons, List.length_append, ih, List.length_cons, Nat.add_mul, Nat.one_mul]
        unfold stepv
        rw [List.length_map, List.length_range]
        omega
    show ((vecs q w).flatMap (stepv q)).length = q ^ w * q
    rw [this, vecs_len q w]
theorem vl_len {w : Nat} {q : Int} {g : List Row} {x : Row} : (vl w q g x).length = g.length := List.length_map ..
/-! ### the law's pool of draws -/
theorem kne {a b : Str} (h : ¬ a = b) : ¬ (Sum.inr a : Key) = Sum.inr b := fun e => h (Sum.inr.inj e)
structure PK (kvs : List (Key × V)) (c : Addr) (a r l : Int) (sm : Bool) (sd tn : Int) : Prop where
  n : kvs.length = 7
  c : valV kvs (Sum.inr "cells" : Key) = some (.ref c)
  a : valV kvs (Sum.inr "at" : Key) = some (.int a)
  r : valV kvs (Sum.inr "rest" : Key) = some (.int r)
  l : valV kvs (Sum.inr "left" : Key) = some (.int l)
  sm : valV kvs (Sum.inr "small" : Key) = some (.bl sm)
  sd : valV kvs (Sum.inr "seed" : Key) = some (.int sd)
  tn : valV kvs (Sum.inr "turn" : Key) = some (.int tn)
theorem put_len {kvs : List (Key × V)} {k : Key} {v y : V} (h : valV kvs k = some y) : (putK kvs k v).length = kvs.length := by
  unfold putK
  rw [valV_any, h, if_pos (show (some y).isSome = true from rfl), List.length_map]
theorem put_ne {kvs : List (Key × V)} {j k : Str} {v : V} (h : ¬ j = k) : valV (putK kvs (Sum.inr k : Key) v) (Sum.inr j : Key) = valV kvs (Sum.inr j : Key) := by
  rw [valV_put, if_neg (kne h)]
theorem put_eq {kvs : List (Key × V)} {k : Key} {v : V} : valV (putK kvs k v) k = some v := by
  rw [valV_put, if_pos rfl]
section
variable {kvs : List (Key × V)} {c : Addr} {a r l sd tn : Int} {sm : Bool}
theorem PK.put_a (P : PK kvs c a r l sm sd tn) (x : Int) : PK (putK kvs (Sum.inr "at" : Key) (.int x)) c x r l sm sd tn :=
  ⟨by rw [put_len P.a, P.n], by rw [put_ne (by decide +kernel)]; exact P.c, put_eq, by rw [put_ne (by decide +kernel)]; exact P.r, by rw [put_ne (by decide +kernel)]; exact P.l, by rw [put_ne (by decide +kernel)]; exact P.sm, by rw [put_ne (by decide +kernel)]; exact P.sd, by rw [put_ne (by decide +kernel)]; exact P.tn⟩
theorem PK.put_r (P : PK kvs c a r l sm sd tn) (x : Int) : PK (putK kvs (Sum.inr "rest" : Key) (.int x)) c a x l sm sd tn :=
  ⟨by rw [put_len P.r, P.n], by rw [put_ne (by decide +kernel)]; exact P.c, by rw [put_ne (by decide +kernel)]; exact P.a, put_eq, by rw [put_ne (by decide +kernel)]; exact P.l, by rw [put_ne (by decide +kernel)]; exact P.sm, by rw [put_ne (by decide +kernel)]; exact P.sd, by rw [put_ne (by decide +kernel)]; exact P.tn⟩
theorem PK.put_l (P : PK kvs c a r l sm sd tn) (x : Int) : PK (putK kvs (Sum.inr "left" : Key) (.int x)) c a r x sm sd tn :=
  ⟨by rw [put_len P.l, P.n], by rw [put_ne (by decide +kernel)]; exact P.c, by rw [put_ne (by decide +kernel)]; exact P.a, by rw [put_ne (by decide +kernel)]; exact P.r, put_eq, by rw [put_ne (by decide +kernel)]; exact P.sm, by rw [put_ne (by decide +kernel)]; exact P.sd, by rw [put_ne (by decide +kernel)]; exact P.tn⟩
theorem PK.put_s (P : PK kvs c a r l sm sd tn) (x : Bool) : PK (putK kvs (Sum.inr "small" : Key) (.bl x)) c a r l x sd tn :=
  ⟨by rw [put_len P.sm, P.n], by rw [put_ne (by decide +kernel)]; exact P.c, by rw [put_ne (by decide +kernel)]; exact P.a, by rw [put_ne (by decide +kernel)]; exact P.r, by rw [put_ne (by decide +kernel)]; exact P.l, put_eq, by rw [put_ne (by decide +kernel)]; exact P.sd, by rw [put_ne (by decide +kernel)]; exact P.tn⟩
theorem PK.put_t (P : PK kvs c a r l sm sd tn) (x : Int) : PK (putK kvs (Sum.inr "turn" : Key) (.int x)) c a r l sm sd x :=
  ⟨by rw [put_len P.tn, P.n], by rw [put_ne (by decide +kernel)]; exact P.c, by rw [put_ne (by decide +kernel)]; exact P.a, by rw [put_ne (by decide +kernel)]; exact P.r, by rw [put_ne (by decide +kernel)]; exact P.l, by rw [put_ne (by decide +kernel)]; exact P.sm, by rw [put_ne (by decide +kernel)]; exact P.sd, put_eq⟩
end
/-- a pool stands at p, its cells at c -/
structure PoolAt (H : Hp) (p c : Addr) : Prop where
  ex : ∃ (kvs : List (Key × V)) (cs : List Int) (a r l sd tn : Int) (sm : Bool), H p = some (.dK kvs) ∧ PK kvs c a r l sm sd tn ∧ 0 ≤ a ∧ H c = some (.lst (cs.map V.int))
theorem PoolAt.mk1 {H : Hp} {p c : Addr} {kvs : List (Key × V)} {cs : List Int} {a r l sd tn : Int} {sm : Bool} (hp : H p = some (.dK kvs)) (k : PK kvs c a r l sm sd tn) (h0 : 0 ≤ a) (hc : H c = some (.lst (cs.map V.int))) : PoolAt H p c := ⟨kvs, cs, a, r, l, sd, tn, sm, hp, k, h0, hc⟩
theorem PoolAt.got {H : Hp} {p c : Addr} (P : PoolAt H p c) : ∃ o, H p = some o := by
  obtain ⟨kvs, cs, a, r, l, sd, tn, sm, hp, _⟩ := P
  exact ⟨_, hp⟩
theorem PoolAt.same {H H' : Hp} {p c : Addr} (P : PoolAt H p c) (s : Same H H') : PoolAt H' p c := by
  obtain ⟨kvs, cs, a, r, l, sd, tn, sm, hp, k, h0, hc⟩ := P
  exact ⟨kvs, cs, a, r, l, sd, tn, sm, s _ _ hp, k, h0, s _ _ hc⟩
theorem PoolAt.ne_new {H : Hp} {b c p : Addr} (B : PoolAt H b c) (h : H p = none) : p ≠ b := by
  obtain ⟨o, ho⟩ := B.got
  exact (ne_of_none ho h).symm
theorem PoolAt.ne_tup {H : Hp} {b c a : Addr} {xs : List V} (B : PoolAt H b c) (h : H a = some (.tup xs)) : a ≠ b := by
  obtain ⟨kvs, cs, a', r, l, sd, tn, sm, hp, _⟩ := B
  exact ne_of h hp (by intro z; cases z)
theorem PoolAt.ne_lst {H : Hp} {b c a : Addr} {xs : List V} (B : PoolAt H b c) (h : H a = some (.lst xs)) : a ≠ b := by
  obtain ⟨kvs, cs, a', r, l, sd, tn, sm, hp, _⟩ := B
  exact ne_of h hp (by intro z; cases z)
theorem Keep.dput {b : Addr} {H H1 : Hp} {o : HO} (a : Keep b H H1) : Keep b H (upd H1 b o) := a.put
def spMixed : Sp := fun vs H Q _ => ∃ n t m : Int, vs = [.int n, .int t, .int m] ∧ 0 < m ∧ m < 1073741824 ∧ ∀ r : Int, 0 ≤ r → r < m → Q (.int r) H
def spTake : Sp := fun vs H Q _ => ∃ (b c : Addr) (m : Int), vs = [.ref b, .int m] ∧ PoolAt H b c ∧ 0 < m ∧ m < 1073741824 ∧ ∀ (r : Int) (H' : Hp), 0 ≤ r → r < m → PoolAt H' b c → Keep b H H' → Q (.int r) H'
section
variable {P : Program} {w : World} {K : PySem.W.Frag} {mg : Str → Option Value} {base : Heap}
theorem ok_mixed (T : Top K mg) : FnOk P w K mg base CX0 1 T.f__law_mixed T.d__law_mixed ["number", "turn", "many"] spMixed := by
  refine T.F__law_mixed.ok scLmixed (fun vs H Q E h => ?_) (fun cdv A outer s H vs Q E hr h => ?_)
  · obtain ⟨_, _, _, rfl, _⟩ := h
    rfl
  obtain ⟨n, t, m, rfl, hm, hm2, q⟩ := h
  refine ⟨_, (pss_cons (ps_set (i := 3) scLmixed.nd rfl (Or.inl rfl) pe_int)
      (pss_cons (ps_set (i := 4) scLmixed.nd rfl (Or.inl rfl) (pe_op op_modN (pe_callTy call_int1 (by rfl) T.z_int (by decide +kernel) (pa_cons (pe_op op_add (pe_op op_add (pe_op op_mul (pv 0) pe_int) (pe_op op_mul (pv 1) pe_int)) pe_int) pa_nil)) (pv 3)))
      (pss_cons (ps_set (i := 5) scLmixed.nd rfl (Or.inl rfl) (pe_op op_modN (pe_op op_mul (pe_callTy call_int1 (by rfl) T.z_int (by decide +kernel) (pa_cons (pe_op op_add (pe_op op_mul (pv 4) (pv 4)) (pv 1)) pa_nil)) pe_int) (pv 3)))
      (pss_one (ps_ret (pe_op op_modN (pe_op op_fdivN (pv 5) pe_int) (pv 2))))))), ?_⟩
  walk_at "ss"
  have h1 := fm (x := n * 48271 + t * 1000000000039 + 12345678910111213) (m := 2305843009213693951) (by decide)
  refine And.intro (.inl ⟨Int.lt_of_lt_of_le (by decide) h1.1, Int.lt_trans h1.2 (by decide)⟩) ?_
  walk_at "ss"
  exact q _ (fm hm).1 (fm hm).2
theorem dget {H : Hp} {b : Addr} {kvs : List (Key × V)} {k : Key} {v : V} (hp : H b = some (.dK kvs)) (hv : valV kvs k = some v) : DGet H b (kV k) (some v) := by
  rw [← hv]
  exact DGet.k hp
theorem dput {H : Hp} {b : Addr} {kvs : List (Key × V)} {k : Key} {v : V} (hp : H b = some (.dK kvs)) (n : kvs.length = 7) : DPut H b (kV k) v (upd H b (.dK (putK kvs k v))) := DPut.k hp (small1000 (by rw [n]; decide))
set_option hygiene false in
local macro_rules | `(tactic| walk_at "p2") => `(tactic| (
  refine ⟨b, _, rfl, dget hp k.l, ?_⟩
  walk_at "ss"
  refine ite2 (fun _ => ?_) (fun _ => ?_)
  · walk_at "ss"
    refine ⟨b, _, rfl, dget hp k.sd, ?_⟩
    walk_at "ss"
    refine ⟨b, _, rfl, dget hp k.tn, ?_⟩
    walk_at "ss"
    refine ⟨_, _, _, rfl, hm, hm2, fun d d0 d1 => ?_⟩
    exact q d _ d0 d1 (PoolAt.mk1 hp k h0 hc) KK
  · walk_at "ss"
    refine ⟨b, _, rfl, dget hp k.l, ?_⟩
    walk_at "ss"
    refine ⟨b, _, rfl, dput (k := Sum.inr "left") hp k.n, ?_⟩
    have k := k.put_l (lx - 1)
    have hc : upd Hx b (.dK (putK kx (Sum.inr "left" : Key) (.int (lx - 1)))) c = some (.lst (cs.map V.int)) := by rw [upd_ne cb]; exact hc
    have hp : upd Hx b (.dK (putK kx (Sum.inr "left" : Key) (.int (lx - 1)))) b = _ := upd_same
    have KK := KK.put (o := .dK (putK kx (Sum.inr "left" : Key) (.int (lx - 1))))
    generalize putK kx (Sum.inr "left" : Key) (.int (lx - 1)) = kx at *
    generalize upd Hx b (.dK kx) = Hx at *
    walk_at "ss"
    refine ⟨b, _, rfl, dget hp k.sm, ?_⟩
    cases sx with
    | true =>
      walk_at "ss"
      refine ⟨b, _, rfl, dget hp k.r, ?_⟩
      walk_at "ss"
      refine ⟨b, _, rfl, dget hp k.tn, ?_⟩
      walk_at "ss"
      refine ⟨_, _, _, rfl, hm, hm2, fun d d0 d1 => ?_⟩
      exact q d _ d0 d1 (PoolAt.mk1 hp k h0 hc) KK
    | false =>
      walk_at "ss"
      refine ⟨b, _, rfl, dget hp k.r, ?_⟩
      walk_at "ss"
      refine ⟨b, _, rfl, dget hp k.r, ?_⟩
      walk_at "ss"
      refine ⟨b, _, rfl, dput (k := Sum.inr "rest") hp k.n, ?_⟩
      have k := k.put_r (rx.fdiv m)
      have hc : upd Hx b (.dK (putK kx (Sum.inr "rest" : Key) (.int (rx.fdiv m)))) c = some (.lst (cs.map V.int)) := by rw [upd_ne cb]; exact hc
      have hp : upd Hx b (.dK (putK kx (Sum.inr "rest" : Key) (.int (rx.fdiv m)))) b = _ := upd_same
      have KK := KK.put (o := .dK (putK kx (Sum.inr "rest" : Key) (.int (rx.fdiv m))))
      generalize putK kx (Sum.inr "rest" : Key) (.int (rx.fdiv m)) = kx at *
      generalize upd Hx b (.dK kx) = Hx at *
      walk_at "ss"
      refine ⟨b, _, rfl, dget hp k.r, ?_⟩
      walk_at "ss"
      refine ite2 (fun _ => ?_) (fun _ => ?_)
      · walk_at "ss"
        refine ⟨b, _, rfl, dput (k := Sum.inr "left") hp k.n, ?_⟩
        have k := k.put_l 0
        have hc : upd Hx b (.dK (putK kx (Sum.inr "left" : Key) (.int 0))) c = some (.lst (cs.map V.int)) := by rw [upd_ne cb]; exact hc
        have hp : upd Hx b (.dK (putK kx (Sum.inr "left" : Key) (.int 0))) b = _ := upd_same
        have KK := KK.put (o := .dK (putK kx (Sum.inr "left" : Key) (.int 0)))
        generalize putK kx (Sum.inr "left" : Key) (.int 0) = kx at *
        generalize upd Hx b (.dK kx) = Hx at *
        walk_at "ss"
        exact q _ _ (fm hm).1 (fm hm).2 (PoolAt.mk1 hp k h0 hc) KK
      · walk_at "ss"
        exact q _ _ (fm hm).1 (fm hm).2 (PoolAt.mk1 hp k h0 hc) KK))
theorem ok_take (T : Top K mg) : FnOk P w K mg base CX0 2 T.f__law_take T.d__law_take ["pool", "many"] spTake := by
  have G__law_mixed := ok_mixed (P := P) (w := w) (base := base) T
  refine T.F__law_take.ok scLtake (fun vs H Q E h => ?_) (fun cdv A outer s H vs Q E hr h => ?_)
  · obtain ⟨_, _, _, rfl, _⟩ := h
    rfl
  obtain ⟨b, c, m, rfl, B, hm, hm2, q⟩ := h
  refine ⟨_, (pss_cons (ps_dput (hu_of hr) (pv 0) pe_str (pe_op op_add (pe_dget (hu_of hr) (pv 0) pe_str (fun _ _ => rfl)) pe_int) rfl)
      (pss_cons (ps_if (PW.pt (pw_and (pt_cmpR op_eq (pe_dget (hu_of hr) (pv 0) pe_str (fun _ _ => rfl)) pe_int (nomark _)) (pw_and1 (pt_cmpR op_lt (pe_dget (hu_of hr) (pv 0) pe_str (fun _ _ => rfl)) (pe_callB call_len_seq (by rfl) T.z_len PySem.boot_len (pa_cons (pe_dget (hu_of hr) (pv 0) pe_str (fun _ _ => rfl)) pa_nil)) (nomark _))))) (pss_cons (ps_dput (hu_of hr) (pv 0) pe_str (pe_ix ix_list (pe_dget (hu_of hr) (pv 0) pe_str (fun _ _ => rfl)) (pe_dget (hu_of hr) (pv 0) pe_str (fun _ _ => rfl)) (fun _ _ => rfl)) rfl)
      (pss_cons (ps_dput (hu_of hr) (pv 0) pe_str (pe_op op_add (pe_dget (hu_of hr) (pv 0) pe_str (fun _ _ => rfl)) pe_int) rfl)
      (pss_cons (ps_dput (hu_of hr) (pv 0) pe_str (pe_cmpR op_lt (pe_dget (hu_of hr) (pv 0) pe_str (fun _ _ => rfl)) (pe_op op_pow pe_int pe_int) (nomark _)) rfl)
      (pss_one (ps_dput (hu_of hr) (pv 0) pe_str (pe_ix ix_list (pe_lst (pa_cons pe_int (pa_cons pe_int pa_nil))) (pe_callTy call_int1 (by rfl) T.z_int (by decide +kernel) (pa_cons (pe_dget (hu_of hr) (pv 0) pe_str (fun _ _ => rfl)) pa_nil)) (fun _ _ => rfl)) rfl))))) pss_nil)
      (pss_cons (ps_if (pt_cmpR op_eq (pe_dget (hu_of hr) (pv 0) pe_str (fun _ _ => rfl)) pe_int (nomark _)) (pss_one (ps_ret (pe_call G__law_mixed (hr.mono (by decide)) rfl T.m__law_mixed T.F__law_mixed.kp T.b__law_mixed .nil pass0 (pa_cons (pe_dget (hu_of hr) (pv 0) pe_str (fun _ _ => rfl)) (pa_cons (pe_dget (hu_of hr) (pv 0) pe_str (fun _ _ => rfl)) (pa_cons (pv 1) pa_nil)))))) pss_nil)
      (pss_cons (ps_dput (hu_of hr) (pv 0) pe_str (pe_op op_sub (pe_dget (hu_of hr) (pv 0) pe_str (fun _ _ => rfl)) pe_int) rfl)
      (pss_cons (ps_if (pt_val (pe_dget (hu_of hr) (pv 0) pe_str (fun _ _ => rfl))) (pss_one (ps_ret (pe_call G__law_mixed (hr.mono (by decide)) rfl T.m__law_mixed T.F__law_mixed.kp T.b__law_mixed .nil pass0 (pa_cons (pe_dget (hu_of hr) (pv 0) pe_str (fun _ _ => rfl)) (pa_cons (pe_dget (hu_of hr) (pv 0) pe_str (fun _ _ => rfl)) (pa_cons (pv 1) pa_nil)))))) pss_nil)
      (pss_cons (ps_set (i := 2) scLtake.nd rfl (Or.inl rfl) (pe_op op_modN (pe_callTy call_int1 (by rfl) T.z_int (by decide +kernel) (pa_cons (pe_dget (hu_of hr) (pv 0) pe_str (fun _ _ => rfl)) pa_nil)) (pv 1)))
      (pss_cons (ps_dput (hu_of hr) (pv 0) pe_str (pe_op op_fdivN (pe_dget (hu_of hr) (pv 0) pe_str (fun _ _ => rfl)) (pv 1)) rfl)
      (pss_cons (ps_if (pt_cmpR op_eq (pe_dget (hu_of hr) (pv 0) pe_str (fun _ _ => rfl)) pe_int (nomark _)) (pss_one (ps_dput (hu_of hr) (pv 0) pe_str pe_int rfl)) pss_nil)
      (pss_one (ps_ret (pv 2))))))))))), ?_⟩
  obtain ⟨kvs, cs, a, r, l, sd, tn, sm, hp, k, h0, hc⟩ := B
  have cb : c ≠ b := ne_of hc hp (by intro z; cases z)
  walk_at "ss"
  refine ⟨b, _, rfl, dget hp k.tn, ?_⟩
  walk_at "ss"
  refine ⟨b, _, rfl, dput (k := Sum.inr "turn") hp k.n, ?_⟩
  have KK : Keep b H (upd H b (.dK (putK kvs (Sum.inr "turn" : Key) (.int (tn + 1))))) := (Keep.refl H).put
  have hc : upd H b (.dK (putK kvs (Sum.inr "turn" : Key) (.int (tn + 1)))) c = some (.lst (cs.map V.int)) := by rw [upd_ne cb]; exact hc
  have hp : upd H b (.dK (putK kvs (Sum.inr "turn" : Key) (.int (tn + 1)))) b = _ := upd_same
  have k := k.put_t (tn + 1)
  generalize putK kvs (Sum.inr "turn" : Key) (.int (tn + 1)) = kx at *
  generalize upd H b (.dK kx) = Hx at *
  walk_at "ss"
  refine ⟨b, _, rfl, dget hp k.l, ?_⟩
  walk_at "ss"
  refine ite2 (fun c1 => ?_) (fun c1 => ?_)
  · walk_at "ss"
    refine ⟨b, _, rfl, dget hp k.a, ?_⟩
    walk_at "ss"
    refine ⟨b, _, rfl, dget hp k.c, ?_⟩
    walk_at "ss"
    refine ite2 (fun c2 => ?_) (fun c2 => ?_)
    · have c2' := of_decide_eq_true c2
      rw [List.length_map] at c2'
      obtain ⟨v, hv⟩ := atI_cell' h0 c2'
      walk_at "ss"
      refine ⟨b, _, rfl, dget hp k.c, ?_⟩
      walk_at "ss"
      refine ⟨b, _, rfl, dget hp k.a, ?_⟩
      refine ⟨_, _, _, _, rfl, rfl, SqL.of hc, hv, ?_⟩
      walk_at "ss"
      refine ⟨b, _, rfl, dput (k := Sum.inr "rest") hp k.n, ?_⟩
      have k := k.put_r v
      have hc : upd Hx b (.dK (putK kx (Sum.inr "rest" : Key) (.int v))) c = some (.lst (cs.map V.int)) := by rw [upd_ne cb]; exact hc
      have hp : upd Hx b (.dK (putK kx (Sum.inr "rest" : Key) (.int v))) b = _ := upd_same
      have KK := KK.put (o := .dK (putK kx (Sum.inr "rest" : Key) (.int v)))
      generalize putK kx (Sum.inr "rest" : Key) (.int v) = kx at *
      generalize upd Hx b (.dK kx) = Hx at *
      walk_at "ss"
      refine ⟨b, _, rfl, dget hp k.a, ?_⟩
      walk_at "ss"
      refine ⟨b, _, rfl, dput (k := Sum.inr "at") hp k.n, ?_⟩
      have k := k.put_a (a + 1)
      have hc : upd Hx b (.dK (putK kx (Sum.inr "at" : Key) (.int (a + 1)))) c = some (.lst (cs.map V.int)) := by rw [upd_ne cb]; exact hc
      have hp : upd Hx b (.dK (putK kx (Sum.inr "at" : Key) (.int (a + 1)))) b = _ := upd_same
      have KK := KK.put (o := .dK (putK kx (Sum.inr "at" : Key) (.int (a + 1))))
      generalize putK kx (Sum.inr "at" : Key) (.int (a + 1)) = kx at *
      generalize upd Hx b (.dK kx) = Hx at *
      have h0 : 0 ≤ a + 1 := by omega
      walk_at "ss"
      refine ⟨b, _, rfl, dget hp k.r, ?_⟩
      walk_at "ss"
      refine ⟨b, _, rfl, dput (k := Sum.inr "small") hp k.n, ?_⟩
      have k := k.put_s (decide (v < 10 ^ Int.toNat 18))
      have hc : upd Hx b (.dK (putK kx (Sum.inr "small" : Key) (.bl (decide (v < 10 ^ Int.toNat 18))))) c = some (.lst (cs.map V.int)) := by rw [upd_ne cb]; exact hc
      have hp : upd Hx b (.dK (putK kx (Sum.inr "small" : Key) (.bl (decide (v < 10 ^ Int.toNat 18))))) b = _ := upd_same
      have KK := KK.put (o := .dK (putK kx (Sum.inr "small" : Key) (.bl (decide (v < 10 ^ Int.toNat 18)))))
      generalize putK kx (Sum.inr "small" : Key) (.bl (decide (v < 10 ^ Int.toNat 18))) = kx at *
      generalize upd Hx b (.dK kx) = Hx at *
      obtain ⟨sx, hsx⟩ : ∃ sx, decide (v < 10 ^ Int.toNat 18) = sx := ⟨_, rfl⟩
      rw [hsx] at k
      walk_at "ss"
      intro p hp'
      have pb : p ≠ b := (ne_of_none hp hp').symm
      have pc : p ≠ c := (ne_of_none hc hp').symm
      have hl : upd Hx p (.lst [.int 60, .int 2]) p = some (.lst [.int 60, .int 2]) := upd_same
      have hp : upd Hx p (.lst [.int 60, .int 2]) b = some (.dK kx) := by rw [upd_ne pb.symm]; exact hp
      have hc : upd Hx p (.lst [.int 60, .int 2]) c = some (.lst (cs.map V.int)) := by rw [upd_ne pc.symm]; exact hc
      have KK := KK.trans (Keep.of (same_new hp' (.lst [.int 60, .int 2])))
      generalize upd Hx p (.lst [.int 60, .int 2]) = Hx at *
      clear hp'
      cases sx with
      | true =>
        walk_at "ss"
        refine ⟨b, _, rfl, dget hp k.sm, ?_⟩
        walk_at "ss"
        refine .inr ⟨_, rfl, ?_⟩
        refine ⟨_, _, _, _, rfl, rfl, SqL.of hl, by rfl, ?_⟩
        walk_at "ss"
        refine ⟨b, _, rfl, dput (k := Sum.inr "left") hp k.n, ?_⟩
        have k := k.put_l 2
        have hc : upd Hx b (.dK (putK kx (Sum.inr "left" : Key) (.int 2))) c = some (.lst (cs.map V.int)) := by rw [upd_ne cb]; exact hc
        have hp : upd Hx b (.dK (putK kx (Sum.inr "left" : Key) (.int 2))) b = _ := upd_same
        have KK := KK.put (o := .dK (putK kx (Sum.inr "left" : Key) (.int 2)))
        generalize putK kx (Sum.inr "left" : Key) (.int 2) = kx at *
        generalize upd Hx b (.dK kx) = Hx at *
        obtain ⟨lx, rx, sx, elx, erx, esx⟩ : ∃ (lx rx : Int) (sx : Bool), lx = 2 ∧ rx = v ∧ sx = true := ⟨_, _, _, rfl, rfl, rfl⟩
        rw [← elx, ← erx, ← esx] at k
        clear elx erx esx
        walk_at "ss"
        walk_at "p2"
      | false =>
        walk_at "ss"
        refine ⟨b, _, rfl, dget hp k.sm, ?_⟩
        walk_at "ss"
        refine .inr ⟨_, rfl, ?_⟩
        refine ⟨_, _, _, _, rfl, rfl, SqL.of hl, by rfl, ?_⟩
        walk_at "ss"
        refine ⟨b, _, rfl, dput (k := Sum.inr "left") hp k.n, ?_⟩
        have k := k.put_l 60
        have hc : upd Hx b (.dK (putK kx (Sum.inr "left" : Key) (.int 60))) c = some (.lst (cs.map V.int)) := by rw [upd_ne cb]; exact hc
        have hp : upd Hx b (.dK (putK kx (Sum.inr "left" : Key) (.int 60))) b = _ := upd_same
        have KK := KK.put (o := .dK (putK kx (Sum.inr "left" : Key) (.int 60)))
        generalize putK kx (Sum.inr "left" : Key) (.int 60) = kx at *
        generalize upd Hx b (.dK kx) = Hx at *
        obtain ⟨lx, rx, sx, elx, erx, esx⟩ : ∃ (lx rx : Int) (sx : Bool), lx = 60 ∧ rx = v ∧ sx = false := ⟨_, _, _, rfl, rfl, rfl⟩
        rw [← elx, ← erx, ← esx] at k
        clear elx erx esx
        walk_at "ss"
        walk_at "p2"
    · have c2' := c2
      obtain ⟨lx, rx, sx, elx, erx, esx⟩ : ∃ lx rx sx, lx = l ∧ rx = r ∧ sx = sm := ⟨_, _, _, rfl, rfl, rfl⟩
      subst elx erx esx
      walk_at "ss"
      walk_at "p2"
  · obtain ⟨lx, rx, sx, elx, erx, esx⟩ : ∃ lx rx sx, lx = l ∧ rx = r ∧ sx = sm := ⟨_, _, _, rfl, rfl, rfl⟩
    subst elx erx esx
    walk_at "ss"
    walk_at "p2"
end
def spPool (K : PySem.W.Frag) : Sp := fun vs H Q _ => ∃ (a : Addr) (ns : List Int), vs = [.ref a] ∧ SqL K H a (ns.map V.int) ∧ ns.length ≤ 63 ∧ ∀ (p c : Addr) (H' : Hp), Same H H' → PoolAt H' p c → Q (.ref p) H'
section
variable {P : Program} {w : World} {K : PySem.W.Frag} {mg : Str → Option Value} {base : Heap}
theorem int_at {ns : List Int} {i : Nat} {y : V} (hi : (ns.map V.int)[i]? = some y) : ∃ z, y = V.int z ∧ ns[i]? = some z := by
  rw [List.getElem?_map] at hi
  cases e : ns[i]? with
  | none => rw [e] at hi; cases hi
  | some z => rw [e] at hi; exact ⟨z, (Option.some.inj hi).symm, rfl⟩
theorem ok_pool (T : Top K mg) : FnOk P w K mg base CX0 1 T.f__law_pool T.d__law_pool ["script"] (spPool K) := by
  refine T.F__law_pool.ok scLpool (fun vs H Q E h => ?_) (fun cdv A outer s H vs Q E hr h => ?_)
  · obtain ⟨_, _, rfl, _⟩ := h
    rfl
  obtain ⟨a, ns, rfl, hS, h63, q⟩ := h
  refine ⟨_, (pss_cons (ps_set (i := 1) scLpool.nd rfl (Or.inl rfl) pe_int)
      (pss_cons (ps_for PassesOwn.never rfl (pi_list (pv 0)) (pg_name (i := 2) scLpool.nd rfl (Or.inl rfl)) (pss_one (ps_set (i := 1) scLpool.nd rfl (Or.inl rfl) (pe_op op_modN (pe_callTy call_int1 (by rfl) T.z_int (by decide +kernel) (pa_cons (pe_op op_add (pe_op op_mul (pv 1) pe_int) (pv 2)) pa_nil)) pe_int))))
      (pss_cons (ps_set (i := 3) scLpool.nd rfl (Or.inl rfl) (pe_callTy call_list_of (by rfl) T.z_list (by decide +kernel) (pa_cons (pv 0) pa_nil)))
      (pss_cons (ps_if (PW.pt (pw_and (pt_cmpR op_gt (pe_callB call_len_seq (by rfl) T.z_len PySem.boot_len (pa_cons (pv 3) pa_nil)) pe_int (nomark _)) (pw_and1 (pt_cmpR op_eq (pe_op op_modN (pe_callTy call_int1 (by rfl) T.z_int (by decide +kernel) (pa_cons (pe_ix ix_list (pv 3) pe_int (fun _ _ => rfl)) pa_nil)) pe_int) pe_int (nomark _))))) (pss_one (ps_set (i := 3) scLpool.nd rfl (Or.inl rfl) (pe_lst pa_nil))) pss_nil)
      (pss_cons (ps_if (pt_cmpR op_gt (pe_callB call_len_seq (by rfl) T.z_len PySem.boot_len (pa_cons (pv 3) pa_nil)) pe_int (nomark _)) (pss_one (ps_asg (pe_op op_fdivN (pe_ix ix_list (pv 3) pe_int (fun _ _ => rfl)) pe_int) (pg_sub (pv 3) pe_int set_list))) pss_nil)
      (pss_one (ps_ret (pe_disp (pps_cons pe_str (pv 3) (pps_cons pe_str pe_int (pps_cons pe_str pe_int (pps_cons pe_str pe_int (pps_cons pe_str pe_bl (pps_cons pe_str (pv 1) (pps_cons pe_str pe_int pps_nil))))))) (by rfl) (by rfl) (fun z => by cases z) (by decide))))))))), ?_⟩
  walk_at "ss"
  refine ⟨⟨_, hS⟩, for_list (K := K) (a := a) (xs := ns.map V.int) (fun i σ H2 => ∃ (sd : Int) (v : Option V), σ = [some (.ref a), some (.int sd), v, none] ∧ H2 = H) ⟨7, none, rfl, rfl⟩ (fun i σ H2 _ ⟨_, _, _, e⟩ => by rw [e]; exact hS) ?_ ?_⟩
  · rintro i y σ H2 hi ⟨sd, v, rfl, rfl⟩
    obtain ⟨z, rfl, _⟩ := int_at hi
    walk_at "ss"
    exact ⟨_, _, rfl, rfl⟩
  · rintro σ H2 ⟨sd, v, rfl, rfl⟩
    have fin : ∀ (c : Addr) (cs : List Int) (H3 : Hp) (p : Addr) (hc : H3 c = some (.lst (cs.map V.int))) (hs : Same H2 H3) (hp : H3 p = none), Q (.ref p) (upd H3 p (.dK (mergeK [] [(Sum.inr "cells", .ref c), (Sum.inr "at", .int 0), (Sum.inr "rest", .int 0), (Sum.inr "left", .int 0), (Sum.inr "small", .bl true), (Sum.inr "seed", .int sd), (Sum.inr "turn", .int 0)]))) := fun c cs H3 p hc hs hp => by
      refine q p c _ (hs.trans (same_new hp _)) (PoolAt.mk1 (kvs := mergeK [] [(Sum.inr "cells", .ref c), (Sum.inr "at", .int 0), (Sum.inr "rest", .int 0), (Sum.inr "left", .int 0), (Sum.inr "small", .bl true), (Sum.inr "seed", .int sd), (Sum.inr "turn", .int 0)]) (cs := cs) (a := 0) (r := 0) (l := 0) (sd := sd) (tn := 0) (sm := true) upd_same ?_ (Int.le_refl 0) (same_new hp _ _ _ hc))
      have e : mergeK [] [((Sum.inr "cells" : Key), V.ref c), (Sum.inr "at", .int 0), (Sum.inr "rest", .int 0), (Sum.inr "left", .int 0), (Sum.inr "small", .bl true), (Sum.inr "seed", .int sd), (Sum.inr "turn", .int 0)] = [((Sum.inr "cells" : Key), V.ref c), (Sum.inr "at", .int 0), (Sum.inr "rest", .int 0), (Sum.inr "left", .int 0), (Sum.inr "small", .bl true), (Sum.inr "seed", .int sd), (Sum.inr "turn", .int 0)] := by
        rfl
      rw [e]
      exact ⟨rfl, rfl, rfl, rfl, rfl, rfl, rfl, rfl⟩
    walk_at "ss"
    refine ⟨_, _, rfl, .inl hS, fun c hc => ?_⟩
    have sc := same_new hc (.lst (ns.map V.int))
    have hl : upd H2 c (.lst (ns.map V.int)) c = some (.lst (ns.map V.int)) := upd_same
    cases ns with
    | nil =>
      walk_at "ss"
      intro p hp
      walk_at "ss"
      refine ⟨upd_same, [(Sum.inr "cells", .ref c), (Sum.inr "at", .int 0), (Sum.inr "rest", .int 0), (Sum.inr "left", .int 0), (Sum.inr "small", .bl true), (Sum.inr "seed", .int sd), (Sum.inr "turn", .int 0)], rfl, by simp, ?_⟩
      rw [upd_upd]
      exact fin c [] _ p hl sc hp
    | cons x r =>
      have len0 : (0 : Int) < (((x :: r).map V.int).length : Nat) := by
        rw [List.length_map, List.length_cons]
        omega
      walk_at "ss"
      refine ite2 (fun _ => ?_) (fun z => (z (decide_eq_true len0)).elim)
      walk_at "ss"
      refine ⟨_, _, _, _, rfl, rfl, SqL.of hl, atI_nat (j := 0) rfl, ?_⟩
      have ix0 : ixN ((x :: r).map V.int).length 0 = some 0 := by
        unfold ixN
        rw [if_pos (by decide), if_pos len0]
        rfl
      walk_at "ss"
      refine ite2 (fun _ => ?_) (fun _ => ?_)
      · walk_at "ss"
        intro c2 hc2
        have s2 := same_new hc2 (.lst [])
        have hl2 : upd (upd H2 c (.lst ((x :: r).map V.int))) c2 (.lst []) c2 = some (.lst (([] : List Int).map V.int)) := upd_same
        have sc2 := sc.trans s2
        walk_at "ss"
        intro p hp
        walk_at "ss"
        refine ⟨upd_same, [(Sum.inr "cells", .ref c2), (Sum.inr "at", .int 0), (Sum.inr "rest", .int 0), (Sum.inr "left", .int 0), (Sum.inr "small", .bl true), (Sum.inr "seed", .int sd), (Sum.inr "turn", .int 0)], rfl, by simp, ?_⟩
        rw [upd_upd]
        exact fin c2 [] _ p hl2 sc2 hp
      · walk_at "ss"
        refine ite2 (fun _ => ?_) (fun z => (z (decide_eq_true len0)).elim)
        walk_at "ss"
        refine ⟨_, _, _, _, rfl, rfl, SqL.of hl, atI_nat (j := 0) rfl, ?_⟩
        walk_at "ss"
        refine ⟨_, _, _, _, rfl, rfl, hl, ix0, ?_⟩
        have hl2 : upd (upd H2 c (.lst ((x :: r).map V.int))) c (.lst ((x.fdiv 2 :: r).map V.int)) c = some (.lst ((x.fdiv 2 :: r).map V.int)) := upd_same
        have sc2 : Same H2 (upd (upd H2 c (.lst ((x :: r).map V.int))) c (.lst ((x.fdiv 2 :: r).map V.int))) := by
          rw [upd_upd]
          exact same_new hc _
        walk_at "ss"
        intro p hp
        walk_at "ss"
        refine ⟨upd_same, [(Sum.inr "cells", .ref c), (Sum.inr "at", .int 0), (Sum.inr "rest", .int 0), (Sum.inr "left", .int 0), (Sum.inr "small", .bl true), (Sum.inr "seed", .int sd), (Sum.inr "turn", .int 0)], rfl, by simp, ?_⟩
        rw [upd_upd]
        exact fin c (x.fdiv 2 :: r) _ p hl2 sc2 hp
end
section
variable {P : Program} {w : World} {K : PySem.W.Frag} {mg : Str → Option Value} {base : Heap}
/-- b tells whether n is a prime -/
def Tells (b : Bool) (n : Int) : Prop := b = true ↔ (2 ≤ n ∧ Pr n.toNat)
theorem fmod_eq {x m : Int} (h : 0 < m) : x.fmod m = x % m := Int.fmod_eq_emod_of_nonneg _ (by omega)
def spPrime (m : Int) : Sp := fun vs H Q _ => ∃ n : Int, vs = [.int n] ∧ n < m ∧ ∀ b, Tells b n → Q (.bl b) H
theorem ok_lis (T : Top K mg) : FnOk P w K mg base CX0 1 T.f__law_is_prime T.d__law_is_prime ["n"] (spPrime 1024) := by
  refine T.F__law_is_prime.ok scLis_prime (fun vs H Q E h => ?_) (fun cdv A outer s H vs Q E hr h => ?_)
  · obtain ⟨_, rfl, _⟩ := h
    rfl
  obtain ⟨n, rfl, hm, q⟩ := h
  refine ⟨_, (pss_cons (ps_for PassesOwn.never rfl (pi_range2 (by rfl) T.z_range (pa_cons pe_int (pa_cons pe_int pa_nil))) (pg_name (i := 1) scLis_prime.nd rfl (Or.inl rfl)) (pss_cons (ps_if (pt_cmpR op_gt (pe_op op_mul (pv 1) (pv 1)) (pv 0) (nomark _)) (pss_one ps_break) pss_nil)
      (pss_one (ps_if (pt_cmpR op_eq (pe_op op_modN (pe_callTy call_int1 (by rfl) T.z_int (by decide +kernel) (pa_cons (pv 0) pa_nil)) (pv 1)) pe_int (nomark _)) (pss_one (ps_ret pe_bl)) pss_nil))))
      (pss_one (ps_ret (pe_cmpR op_gt (pv 0) pe_int (nomark _))))), ?_⟩
  walk_at "ss"
  refine ⟨_, _, rfl, ⟨by decide, by decide, by decide, by decide⟩, ?_⟩
  have fin : (∀ e : Nat, 2 ≤ e → e * e ≤ n.toNat → n.toNat % e ≠ 0) → Tells (decide (1 < n)) n := fun h => by
    constructor
    · intro z
      have := of_decide_eq_true z
      exact ⟨by omega, by omega, h⟩
    · rintro ⟨z, _⟩
      exact decide_eq_true (by omega)
  refine for_range (n := 30) (fun i σ H2 => ∃ v, σ = [some (.int n), v] ∧ H2 = H ∧ ∀ e : Nat, 2 ≤ e → e < 2 + i → e * e ≤ n.toNat → n.toNat % e ≠ 0) ⟨none, rfl, rfl, fun e h1 h2 => by omega⟩ ?_ ?_
  · rintro i σ H2 hi ⟨v, rfl, rfl, h3⟩
    walk_at "ss"
    have ek : (2 : Int) + (i : Int) = ((2 + i : Nat) : Int) := by omega
    refine ite2 (fun c2 => ?_) (fun c2 => ?_)
    · have c3 := of_decide_eq_true c2
      walk_at "ss"
      refine q _ (fin fun e e1 e2 => h3 e e1 (sq_lt e2 ?_) e2)
      have c4 : n < ((2 + i : Nat) : Int) * ((2 + i : Nat) : Int) := by rw [← ek]; exact c3
      rw [← Int.natCast_mul] at c4
      have : 0 < (2 + i) * (2 + i) := Nat.mul_pos (by omega) (by omega)
      omega
    · have c3 : ¬ n < (2 + (i : Int)) * (2 + (i : Int)) := fun h => c2 (decide_eq_true h)
      walk_at "ss"
      refine ite2 (fun c4 => ?_) (fun c4 => ?_)
      · have c5 : n.fmod (2 + (i : Int)) = 0 := by
          have := of_decide_eq_true c4
          injection this
        rw [fmod_eq (by omega), ek] at c5
        rw [ek, ← Int.natCast_mul] at c3
        have pos : 0 < (2 + i) * (2 + i) := Nat.mul_pos (by omega) (by omega)
        refine q false ⟨fun h => (by cases h), fun h => ?_⟩
        exfalso
        refine h.2.2 (2 + i) (by omega) (by omega) ?_
        have : ((n.toNat % (2 + i) : Nat) : Int) = 0 := by
          rw [Int.natCast_emod, Int.toNat_of_nonneg (by omega)]
          exact c5
        omega
      · refine ⟨_, rfl, rfl, fun e e1 e2 e3 => ?_⟩
        by_cases ed : e = 2 + i
        · intro z
          have n0 : 0 ≤ n := by
            rw [ek, ← Int.natCast_mul] at c3
            omega
          apply c4
          show decide (V.int (n.fmod (2 + (i : Int))) = V.int 0) = true
          have : ((n.toNat % e : Nat) : Int) = 0 := by rw [z]; rfl
          rw [Int.natCast_emod, Int.toNat_of_nonneg n0, ed, ← ek, ← fmod_eq (by omega)] at this
          rw [this]
          rfl
        · exact h3 e e1 (by omega) e3
  · rintro σ H2 ⟨v, rfl, rfl, h3⟩
    walk_at "ss"
    refine q _ (fin fun e e1 e2 => h3 e e1 (sq_lt (m := 32) e2 (by omega)) e2)
def spOrder : Sp := fun vs H Q _ => ∃ (b c : Addr), vs = [.ref b, .int 127] ∧ PoolAt H b c ∧ ∀ (q : Nat) (H' : Hp), q ∈ PL → PoolAt H' b c → Keep b H H' → Q (.int q) H'
def natsV (acc : List Nat) : List V := acc.map fun x : Nat => V.int (x : Int)
theorem natsV_at {acc : List Nat} {r : Int} (h0 : 0 ≤ r) (h1 : r < acc.length) : ∃ x : Nat, x ∈ acc ∧ atI (natsV acc) r = some (.int (x : Int)) := by
  have hk : r.toNat < acc.length := by omega
  refine ⟨acc[r.toNat], List.getElem_mem hk, ?_⟩
  have e : r = ((r.toNat : Nat) : Int) := by omega
  have q : atI (natsV acc) ((r.toNat : Nat) : Int) = some (.int (acc[r.toNat] : Int)) := atI_nat (by unfold natsV; rw [List.getElem?_map, List.getElem?_eq_getElem hk]; rfl)
  rw [← e] at q
  exact q
theorem ok_order (T : Top K mg) : FnOk P w K mg base CX0 3 T.f__law_order T.d__law_order ["pool", "most"] spOrder := by
  have G__law_take := ok_take (P := P) (w := w) (base := base) T
  have G__law_is_prime := ok_lis (P := P) (w := w) (base := base) T
  refine T.F__law_order.ok scLorder (fun vs H Q E h => ?_) (fun cdv A outer s H vs Q E hr h => ?_)
  · obtain ⟨_, _, rfl, _⟩ := h
    rfl
  obtain ⟨b, c, rfl, B, q⟩ := h
  refine ⟨_, (pss_cons (ps_setLc (i := 2) (own := [("n", 3)]) (g := gName 3)  rfl scLorder.nd rfl rfl (sw_true rfl rfl rfl (by decide +kernel)) (pi_range2 (by rfl) T.z_range (pa_cons pe_int (pa_cons (pe_op op_add (pv 1) pe_int) pa_nil))) (blkOk_by (own := [("n", 3)]) (N := ["pool", "most", "odd", "n"]) (sc := defScope s_Lorder) (by decide +kernel)) (fun _ _ _ _ _ => (pg_name (i := 3) scLorder.nd rfl (Or.inl rfl))) (fun _ _ _ _ _ => (pts_one (pt_val (pe_call G__law_is_prime (hr.mono (by decide)) rfl T.m__law_is_prime T.F__law_is_prime.kp T.b__law_is_prime .nil pass0 (pa_cons (pv 3) pa_nil))))) (fun _ _ _ _ _ => (pv 3)))
      (pss_one (ps_ret (pe_ix ix_list (pe_lst (pa_cons pe_int (pa_cons pe_int (pa_cons pe_int (pa_cons (pe_ix ix_list (pv 2) (pe_call G__law_take (hr.mono (by decide)) rfl T.m__law_take T.F__law_take.kp T.b__law_take .nil pass0 (pa_cons (pv 0) (pa_cons (pe_callB call_len_seq (by rfl) T.z_len PySem.boot_len (pa_cons (pv 2) pa_nil)) pa_nil))) (fun _ _ => rfl)) (pa_cons (pe_ix ix_list (pv 2) (pe_call G__law_take (hr.mono (by decide)) rfl T.m__law_take T.F__law_take.kp T.b__law_take .nil pass0 (pa_cons (pv 0) (pa_cons (pe_callB call_len_seq (by rfl) T.z_len PySem.boot_len (pa_cons (pv 2) pa_nil)) pa_nil))) (fun _ _ => rfl)) pa_nil)))))) (pe_call G__law_take (hr.mono (by decide)) rfl T.m__law_take T.F__law_take.kp T.b__law_take .nil pass0 (pa_cons (pv 0) (pa_cons pe_int pa_nil))) (fun _ _ => rfl))))), ?_⟩
  walk_at "ss"
  refine ⟨_, _, rfl, ⟨by decide, by decide, by decide, by decide⟩, fun D hD => ?_⟩
  refine lc_range (lo := 3) (n := 125) (fun i H2 => Same H H2 ∧ ∃ acc : List Nat, H2 D = some (.lst (natsV acc)) ∧ (∀ x, x ∈ acc → x ∈ PL) ∧ (0 < i → acc ≠ []) ∧ acc.length ≤ i) ⟨same_new hD _, [], upd_same, fun x hx => absurd hx List.not_mem_nil, fun h => absurd h (by omega), Nat.le_refl _⟩ ?_ ?_
  · rintro i H2 hi ⟨s2, acc, hd, hall, hne, hlen⟩
    refine ⟨rfl, ?_⟩
    walk_at "ss"
    intro b1 t1
    cases b1 with
    | true =>
      have p := t1.mp rfl
      have e3 : (3 : Int) + (i : Int) = ((3 + i : Nat) : Int) := by omega
      walk_at "ss"
      refine ⟨_, hd, by unfold natsV; rw [List.length_map]; exact small1000 (by omega), fun b o e => ?_, acc ++ [3 + i], by rw [upd_same, natsV, natsV, List.map_append, e3]; rfl, fun x hx => ?_, fun _ h => by simp at h, by rw [List.length_append, List.length_singleton]; omega⟩
      · rw [upd_ne (ne_of_none e hD)]
        exact s2 b o e
      · rcases List.mem_append.mp hx with h | h
        · exact hall x h
        · rw [List.mem_singleton.mp h]
          have q2 := p.2
          rw [e3, Int.toNat_natCast] at q2
          exact pl_of (by omega) (by omega) q2
    | false =>
      refine ⟨_, rfl, s2, acc, hd, hall, fun _ => ?_, by omega⟩
      by_cases i0 : i = 0
      · subst i0
        have := t1.mpr ⟨by decide, pl_pr (q := 3) (by decide)⟩
        cases this
      · exact hne (by omega)
  · rintro H2 ⟨s2, acc, hd, hall, hne, hlen⟩
    have B2 := B.same s2
    have l0 : 0 < acc.length := List.length_pos_iff.mpr (hne (by decide))
    have nl : (natsV acc).length = acc.length := by unfold natsV; rw [List.length_map]
    walk_at "ss"
    rw [nl]
    refine ⟨b, c, _, rfl, B2, by omega, by omega, fun r1 H3 r1a r1b B3 k3 => ?_⟩
    have hd3 := k3 _ _ hd (B2.ne_lst hd)
    obtain ⟨x1, hx1, ha1⟩ := natsV_at r1a r1b
    refine ⟨_, _, _, _, rfl, rfl, SqL.of hd3, ha1, ?_⟩
    walk_at "ss"
    rw [nl]
    refine ⟨b, c, _, rfl, B3, by omega, by omega, fun r2 H4 r2a r2b B4 k4 => ?_⟩
    have hd4 := k4 _ _ hd3 (B3.ne_lst hd3)
    obtain ⟨x2, hx2, ha2⟩ := natsV_at r2a r2b
    refine ⟨_, _, _, _, rfl, rfl, SqL.of hd4, ha2, ?_⟩
    walk_at "ss"
    intro p hp
    have pb := B4.ne_new hp
    walk_at "ss"
    refine ⟨b, c, _, rfl, B4.same (same_new hp _), by decide, by decide, fun r3 H5 r3a r3b B5 k5 => ?_⟩
    obtain ⟨z, hz, hza⟩ : ∃ z : Nat, z ∈ PL ∧ atI [V.int 3, V.int 5, V.int 7, V.int (x1 : Int), V.int (x2 : Int)] r3 = some (.int (z : Int)) := by
      have : r3 = 0 ∨ r3 = 1 ∨ r3 = 2 ∨ r3 = 3 ∨ r3 = 4 := by omega
      rcases this with rfl | rfl | rfl | rfl | rfl
      · exact ⟨3, by decide, rfl⟩
      · exact ⟨5, by decide, rfl⟩
      · exact ⟨7, by decide, rfl⟩
      · exact ⟨x1, hall x1 hx1, rfl⟩
      · exact ⟨x2, hall x2 hx2, rfl⟩
    refine ⟨_, _, _, _, rfl, rfl, SqL.of (k5 _ _ upd_same pb), hza, ?_⟩
    exact q z H5 hz B5 ((Keep.of s2).trans (k3.trans (k4.trans ((Keep.of (same_new hp _)).trans k5))))
def spEntry : Sp := fun vs H Q _ => ∃ (b c : Addr) (q : Nat), vs = [.ref b, .int q] ∧ PoolAt H b c ∧ q ∈ PL ∧ ∀ (r : Int) (H' : Hp), 0 ≤ r → r < q → PoolAt H' b c → Keep b H H' → Q (.int r) H'
theorem ok_entry (T : Top K mg) : FnOk P w K mg base CX0 3 T.f__law_entry T.d__law_entry ["pool", "q"] spEntry := by
  have G__law_take := ok_take (P := P) (w := w) (base := base) T
  refine T.F__law_entry.ok scLentry (fun vs H Q E h => ?_) (fun cdv A outer s H vs Q E hr h => ?_)
  · obtain ⟨_, _, _, rfl, _⟩ := h
    rfl
  obtain ⟨b, c, q, rfl, B, hq, k⟩ := h
  have qr := pl_range q hq
  refine ⟨_, (pss_one (ps_ret (pe_ix ix_list (pe_lst (pa_cons pe_int (pa_cons (pe_call G__law_take (hr.mono (by decide)) rfl T.m__law_take T.F__law_take.kp T.b__law_take .nil pass0 (pa_cons (pv 0) (pa_cons (pv 1) pa_nil))) (pa_cons (pe_call G__law_take (hr.mono (by decide)) rfl T.m__law_take T.F__law_take.kp T.b__law_take .nil pass0 (pa_cons (pv 0) (pa_cons (pv 1) pa_nil))) (pa_cons pe_int (pa_cons (pe_op op_sub (pv 1) pe_int) pa_nil)))))) (pe_call G__law_take (hr.mono (by decide)) rfl T.m__law_take T.F__law_take.kp T.b__law_take .nil pass0 (pa_cons (pv 0) (pa_cons pe_int pa_nil))) (fun _ _ => rfl)))), ?_⟩
  walk_at "ss"
  refine ⟨b, c, _, rfl, B, by omega, by omega, fun r1 H1 r1a r1b B1 k1 => ?_⟩
  walk_at "ss"
  refine ⟨b, c, _, rfl, B1, by omega, by omega, fun r2 H2 r2a r2b B2 k2 => ?_⟩
  walk_at "ss"
  intro p hp
  have pb := B2.ne_new hp
  walk_at "ss"
  refine ⟨b, c, _, rfl, B2.same (same_new hp _), by decide, by decide, fun r3 H3 r3a r3b B3 k3 => ?_⟩
  obtain ⟨z, z0, z1, hza⟩ : ∃ z : Int, 0 ≤ z ∧ z < q ∧ atI [V.int 0, V.int r1, V.int r2, V.int 1, V.int ((q : Int) - 1)] r3 = some (.int z) := by
    have : r3 = 0 ∨ r3 = 1 ∨ r3 = 2 ∨ r3 = 3 ∨ r3 = 4 := by omega
    rcases this with rfl | rfl | rfl | rfl | rfl
    · exact ⟨0, by omega, by omega, rfl⟩
    · exact ⟨r1, r1a, r1b, rfl⟩
    · exact ⟨r2, r2a, r2b, rfl⟩
    · exact ⟨1, by omega, by omega, rfl⟩
    · exact ⟨(q : Int) - 1, by omega, by omega, rfl⟩
  refine ⟨_, _, _, _, rfl, rfl, SqL.of (k3 _ _ upd_same pb), hza, ?_⟩
  exact k z H3 z0 z1 B3 (k1.trans (k2.trans ((Keep.of (same_new hp _)).trans k3)))
end
/-! ### rows as the heap has them -/
def RowL (H : Hp) (v : V) (r : Row) : Prop := ∃ a, v = .ref a ∧ H a = some (.lst (r.map V.int))
def RowT (H : Hp) (v : V) (r : Row) : Prop := ∃ a, v = .ref a ∧ H a = some (.tup (r.map V.int))
theorem RowT.same {H H' : Hp} (s : Same H H') {v : V} {r : Row} (h : RowT H v r) : RowT H' v r := by
  obtain ⟨a, e, h⟩ := h
  exact ⟨a, e, s _ _ h⟩
theorem RowL.same {H H' : Hp} (s : Same H H') {v : V} {r : Row} (h : RowL H v r) : RowL H' v r := by
  obtain ⟨a, e, h⟩ := h
  exact ⟨a, e, s _ _ h⟩
theorem RowT.put {H : Hp} {D : Addr} {xs ys : List V} (hd : H D = some (.lst xs)) {v : V} {r : Row} (h : RowT H v r) : RowT (upd H D (.lst ys)) v r := by
  obtain ⟨a, e, h⟩ := h
  refine ⟨a, e, ?_⟩
  rw [upd_ne (ne_of h hd (by intro z; cases z))]
  exact h
def Rows (R : V → Row → Prop) (vs : List V) (g : List Row) : Prop := vs.length = g.length ∧ ∀ (i : Nat) v r, vs[i]? = some v → g[i]? = some r → R v r
theorem Rows.nil {R : V → Row → Prop} : Rows R [] [] := ⟨rfl, fun i v r h => by simp at h⟩
theorem Rows.mono {R R' : V → Row → Prop} {vs : List V} {g : List Row} (h : Rows R vs g) (m : ∀ v r, R v r → R' v r) : Rows R' vs g := ⟨h.1, fun i v r a b => m v r (h.2 i v r a b)⟩
theorem Rows.append {R : V → Row → Prop} {vs vs' : List V} {g g' : List Row} (h : Rows R vs g) (h' : Rows R vs' g') : Rows R (vs ++ vs') (g ++ g') := by
  refine ⟨by rw [List.length_append, List.length_append, h.1, h'.1], fun i v r a b => ?_⟩
  by_cases c : i < vs.length
  · rw [List.getElem?_append_left c] at a
    rw [List.getElem?_append_left (by rw [← h.1]; exact c)] at b
    exact h.2 i v r a b
  · rw [List.getElem?_append_right (by omega)] at a
    rw [List.getElem?_append_right (by rw [← h.1]; omega), ← h.1] at b
    exact h'.2 _ v r a b
theorem Rows.one {R : V → Row → Prop} {v : V} {r : Row} (h : R v r) : Rows R [v] [r] := ⟨rfl, fun i a b ha hb => by
  match i, ha, hb with
  | 0, ha, hb => cases ha; cases hb; exact h
  | i + 1, ha, hb => simp at ha⟩
theorem Rows.take {R : V → Row → Prop} {vs : List V} {g : List Row} (n : Nat) (h : Rows R vs g) : Rows R (vs.take n) (g.take n) := by
  refine ⟨by rw [List.length_take, List.length_take, h.1], fun i v r a b => ?_⟩
  rw [List.getElem?_take] at a b
  by_cases c : i < n
  · rw [if_pos c] at a b
    exact h.2 i v r a b
  · rw [if_neg c] at a
    cases a
theorem Rows.drop {R : V → Row → Prop} {vs : List V} {g : List Row} (n : Nat) (h : Rows R vs g) : Rows R (vs.drop n) (g.drop n) := by
  refine ⟨by rw [List.length_drop, List.length_drop, h.1], fun i v r a b => ?_⟩
  rw [List.getElem?_drop] at a b
  exact h.2 _ v r a b
theorem Rows.get {R : V → Row → Prop} {vs : List V} {g : List Row} (h : Rows R vs g) {i : Nat} {v : V} (hv : vs[i]? = some v) : ∃ r, g[i]? = some r ∧ R v r := by
  obtain ⟨r, hr⟩ := some_of h.1 hv
  exact ⟨r, hr, h.2 i v r hv hr⟩
theorem Rows.at {R : V → Row → Prop} {vs : List V} {g : List Row} (h : Rows R vs g) {i : Int} (h0 : 0 ≤ i) (h1 : i < g.length) : ∃ v r, atI vs i = some v ∧ g[i.toNat]? = some r ∧ R v r := by
  have hk : i.toNat < vs.length := by have := h.1; omega
  obtain ⟨r, hr, hR⟩ := h.get (List.getElem?_eq_getElem hk)
  have e : i = ((i.toNat : Nat) : Int) := by omega
  have q : atI vs ((i.toNat : Nat) : Int) = some vs[i.toNat] := atI_nat (List.getElem?_eq_getElem hk)
  rw [← e] at q
  exact ⟨_, r, q, hr, hR⟩
/-- a tuple, a list of rows -/
def TT (H : Hp) (p : Addr) (g : List Row) : Prop := ∃ vs, H p = some (.tup vs) ∧ Rows (RowT H) vs g
def LT (H : Hp) (p : Addr) (g : List Row) : Prop := ∃ vs, H p = some (.lst vs) ∧ Rows (RowT H) vs g
def LL (H : Hp) (p : Addr) (g : List Row) : Prop := ∃ vs, H p = some (.lst vs) ∧ Rows (RowL H) vs g
theorem TT.same {H H' : Hp} {p : Addr} {g : List Row} (h : TT H p g) (s : Same H H') : TT H' p g := by
  obtain ⟨vs, h1, h2⟩ := h
  exact ⟨vs, s _ _ h1, h2.mono fun v r => RowT.same s⟩
theorem LL.same {H H' : Hp} {p : Addr} {g : List Row} (h : LL H p g) (s : Same H H') : LL H' p g := by
  obtain ⟨vs, h1, h2⟩ := h
  exact ⟨vs, s _ _ h1, h2.mono fun v r => RowL.same s⟩
theorem RowT.keep {H H' : Hp} {b c : Addr} (k : Keep b H H') (B : PoolAt H b c) {v : V} {r : Row} (h : RowT H v r) : RowT H' v r := by
  obtain ⟨a, e, h⟩ := h
  exact ⟨a, e, k _ _ h (B.ne_tup h)⟩
theorem TT.keep {H H' : Hp} {b c p : Addr} {g : List Row} (h : TT H p g) (k : Keep b H H') (B : PoolAt H b c) : TT H' p g := by
  obtain ⟨vs, h1, h2⟩ := h
  exact ⟨vs, k _ _ h1 (B.ne_tup h1), h2.mono fun v r => RowT.keep k B⟩
theorem Keep.new {b D : Addr} {H H1 : Hp} {o : HO} (k : Keep b H H1) (h : H D = none) : Keep b H (upd H1 D o) := fun a u e n => by
  rw [upd_ne (ne_of_none e h)]
  exact k a u e n
theorem atI_int {r : Row} {k : Nat} (h : k < r.length) : atI (r.map V.int) (0 + (k : Int)) = some (.int (gt r k)) := by
  refine atI0 ?_
  rw [List.getElem?_map, List.getElem?_eq_getElem h]
  unfold gt
  rw [List.getD_eq_getElem?_getD, List.getElem?_eq_getElem h]
  rfl
theorem atI_intN {r : Row} {k : Nat} (h : k < r.length) : atI (r.map V.int) (k : Int) = some (.int (gt r k)) := by
  have := atI_int h
  rwa [Int.zero_add] at this
theorem Res.of_bnd {w : Nat} {q : Int} {r : Row} (hq : 0 < q) (hl : r.length = w) (h : ∀ x, x ∈ r → 0 ≤ x ∧ x < q) : Res w q r := by
  refine ⟨hl, fun k => ?_⟩
  by_cases c : k < r.length
  · unfold gt
    rw [List.getD_eq_getElem?_getD, List.getElem?_eq_getElem c]
    exact h _ (List.getElem_mem c)
  · rw [gt_out (by omega)]
    exact ⟨Int.le_refl _, hq⟩
theorem PoolAt.put {H : Hp} {b c D : Addr} {xs ys : List V} (B : PoolAt H b c) (hd : H D = some (.lst xs)) (n : c ≠ D) : PoolAt (upd H D (.lst ys)) b c := by
  have nb := (B.ne_lst hd).symm
  obtain ⟨kvs, cs, a, rr, l, sd, tn, sm, e1, e2, e3, e4⟩ := B.ex
  exact PoolAt.mk1 (by rw [upd_ne nb]; exact e1) e2 e3 (by rw [upd_ne n]; exact e4)
theorem PoolAt.cell_ne {H : Hp} {b c D : Addr} (B : PoolAt H b c) (h : H D = none) : c ≠ D := by
  obtain ⟨kvs, cs, a, rr, l, sd, tn, sm, e1, e2, e3, e4⟩ := B.ex
  exact ne_of_none e4 h
def spRows : Sp := fun vs H Q _ => ∃ (b c : Addr) (q w m : Nat), vs = [.ref b, .int q, .int w, .int m] ∧ PoolAt H b c ∧ q ∈ PL ∧ w ≤ 12 ∧ m ≤ 9 ∧
  ∀ (p : Addr) (g : List Row) (H' : Hp), TT H' p g → (∀ r, r ∈ g → Res w q r) → g.length = m → PoolAt H' b c → Keep b H H' → Q (.ref p) H'
section
variable {P : Program} {w : World} {K : PySem.W.Frag} {mg : Str → Option Value} {base : Heap}
theorem ok_rows (T : Top K mg) : FnOk P w K mg base CX0 4 T.f__law_rows T.d__law_rows ["pool", "q", "width", "many"] spRows := by
  have G__law_take := ok_take (P := P) (w := w) (base := base) T
  have G__law_entry := ok_entry (P := P) (w := w) (base := base) T
  refine T.F__law_rows.ok scLrows (fun vs H Q E h => ?_) (fun cdv A outer s H vs Q E hr h => ?_)
  · obtain ⟨_, _, _, _, _, rfl, _⟩ := h
    rfl
  obtain ⟨b, c, q, w, m, rfl, B, hq, hw, hm, k⟩ := h
  have qr := pl_range q hq
  have q0 : (0 : Int) < q := by omega
  refine ⟨_, (pss_cons (ps_set (i := 4) scLrows.nd rfl (Or.inl rfl) (pe_lst pa_nil))
      (pss_cons (ps_for PassesOwn.never rfl (pi_range1 (by rfl) T.z_range (pa_cons (pv 3) pa_nil)) (pg_name (i := 5) scLrows.nd rfl (Or.inl rfl)) (pss_cons (ps_setLc (i := 6) (own := [("j", 7)]) (g := gName 7) (tt := tYes) rfl scLrows.nd rfl rfl (sw_true rfl rfl rfl (by decide +kernel)) (pi_range1 (by rfl) T.z_range (pa_cons (pv 2) pa_nil)) (blkOk_by (own := [("j", 7)]) (N := ["pool", "q", "width", "many", "rows", "k", "row", "j", "other", "again", "times"]) (sc := defScope s_Lrows) (by decide +kernel)) (fun _ _ _ _ _ => (pg_name (i := 7) scLrows.nd rfl (Or.inl rfl))) (fun _ _ _ _ _ => pts_nil) (fun _ _ _ _ _ => (pe_call G__law_entry (hr.mono (by decide)) rfl T.m__law_entry T.F__law_entry.kp T.b__law_entry .nil pass0 (pa_cons (pv 0) (pa_cons (pv 1) pa_nil)))))
      (pss_cons (ps_if (PW.pt (pw_and (pt_cmpR op_gt (pv 5) pe_int (nomark _)) (pw_and1 (pt_cmpR op_eq (pe_call G__law_take (hr.mono (by decide)) rfl T.m__law_take T.F__law_take.kp T.b__law_take .nil pass0 (pa_cons (pv 0) (pa_cons pe_int pa_nil))) pe_int (nomark _))))) (pss_cons (ps_set (i := 8) scLrows.nd rfl (Or.inr rfl) (pe_ix ix_list (pv 4) (pe_call G__law_take (hr.mono (by decide)) rfl T.m__law_take T.F__law_take.kp T.b__law_take .nil pass0 (pa_cons (pv 0) (pa_cons (pv 5) pa_nil))) (fun _ _ => rfl)))
      (pss_cons (ps_set (i := 9) scLrows.nd rfl (Or.inr rfl) (pe_ix ix_list (pv 4) (pe_call G__law_take (hr.mono (by decide)) rfl T.m__law_take T.F__law_take.kp T.b__law_take .nil pass0 (pa_cons (pv 0) (pa_cons (pv 5) pa_nil))) (fun _ _ => rfl)))
      (pss_cons (ps_set (i := 10) scLrows.nd rfl (Or.inr rfl) (pe_call G__law_take (hr.mono (by decide)) rfl T.m__law_take T.F__law_take.kp T.b__law_take .nil pass0 (pa_cons (pv 0) (pa_cons (pv 1) pa_nil))))
      (pss_one (ps_setLc (i := 6) (own := [("j", 7)]) (g := gName 7) (tt := tYes) rfl scLrows.nd rfl rfl (sw_true rfl rfl rfl (by decide +kernel)) (pi_range1 (by rfl) T.z_range (pa_cons (pv 2) pa_nil)) (blkOk_by (own := [("j", 7)]) (N := ["pool", "q", "width", "many", "rows", "k", "row", "j", "other", "again", "times"]) (sc := defScope s_Lrows) (by decide +kernel)) (fun _ _ _ _ _ => (pg_name (i := 7) scLrows.nd rfl (Or.inl rfl))) (fun _ _ _ _ _ => pts_nil) (fun _ _ _ _ _ => (pe_op op_modN (pe_callTy call_int1 (by rfl) T.z_int (by decide +kernel) (pa_cons (pe_op op_add (pe_op op_mul (pe_ix (show IxR _ (rIxT K) from ix_tup) (pv 8) (pv 7) (fun _ _ => rfl)) (pv 10)) (pe_ix (show IxR _ (rIxT K) from ix_tup) (pv 9) (pv 7) (fun _ _ => rfl))) pa_nil)) (pv 1)))))))) pss_nil)
      (pss_one (ps_expr (pe_bm PySem.F.plainAttrs_list PySem.F.slot_list_append PySem.F.type_list_append mt_append (pv 4) (pa_cons (pe_callTy call_tuple_of (by rfl) T.z_tuple (by decide +kernel) (pa_cons (pv 6) pa_nil)) pa_nil)))))))
      (pss_one (ps_ret (pe_callTy call_tuple_of (by rfl) T.z_tuple (by decide +kernel) (pa_cons (pv 4) pa_nil)))))), ?_⟩
  walk_at "ss"
  intro L hLn
  have ne_cells : c ≠ L := by
    obtain ⟨kvs, cs, a, rr, l, sd, tn, sm, e1, e2, e3, e4⟩ := B.ex
    exact ne_of_none e4 hLn
  walk_at "ss"
  refine for_range (n := m) (fun i σ H2 => ∃ (v5 v6 v7 v8 v9 v10 : Option V) (d : Unit) (vs : List V) (g : List Row), σ = [some (.ref b), some (.int q), some (.int w), some (.int m), some (.ref L), v5, v6, v7, v8, v9, v10] ∧ H2 L = some (.lst vs) ∧ Rows (RowT H2) vs g ∧ (∀ r, r ∈ g → Res w q r) ∧ g.length = i ∧ PoolAt H2 b c ∧ Keep b H H2)
    ⟨_, _, _, _, _, _, (), [], [], rfl, upd_same, Rows.nil, fun r hr => absurd hr List.not_mem_nil, rfl, B.same (same_new hLn _), Keep.of (same_new hLn _)⟩ ?_ ?_
  · rintro i σ H2 hi ⟨v5, v6, v7, v8, v9, v10, d, vs, g, rfl, hL, hrs, hres, hg, B2, KK⟩
    walk_at "ss"
    refine fun D hD => ?_
    have cD := B2.cell_ne hD
    refine lc_range (lo := 0) (n := w) (fun j H3 => PoolAt H3 b c ∧ Keep b H2 H3 ∧ ∃ acc : Row, acc.length = j ∧ (∀ x, x ∈ acc → 0 ≤ x ∧ x < (q : Int)) ∧ H3 D = some (.lst (acc.map V.int)))
      ⟨B2.same (same_new hD _), Keep.of (same_new hD _), [], rfl, fun x hx => absurd hx List.not_mem_nil, upd_same⟩ ?_ ?_
    · rintro j H3 hj ⟨B3, k3, acc, hacc, hb, hd⟩
      refine ⟨rfl, ?_⟩
      walk_at "ss"
      refine ⟨b, c, q, rfl, B3, hq, fun r H4 r0 r1 B4 k4 => ?_⟩
      have hd4 := k4 _ _ hd (B3.ne_lst hd)
      refine ⟨_, hd4, by rw [List.length_map]; exact small1000 (by omega), B4.put hd4 cD, (k3.trans k4).new hD, acc ++ [r], by rw [List.length_append, hacc]; rfl, fun x hx => ?_, by rw [upd_same, List.map_append]; rfl⟩
      rcases List.mem_append.mp hx with h | h
      · exact hb x h
      · rw [List.mem_singleton.mp h]
        exact ⟨r0, r1⟩
    · rintro H3 ⟨B3, k3, row, hacc, hb, hR⟩
      have hrow : Res w q row := Res.of_bnd q0 hacc hb
      have hL := k3 _ _ hL (B2.ne_lst hL)
      have hrs := hrs.mono fun v r h => RowT.keep k3 B2 h
      have KK := KK.trans k3
      clear hb hacc hD cD
      walk_at "ss"
      refine ite2 (fun c1 => ?_) (fun c1 => ?_)
      · have i0 : 0 < i := by
          have := of_decide_eq_true c1
          omega
        walk_at "ss"
        refine ⟨b, c, _, rfl, B3, by decide, by decide, fun u H4 u0 u1 B4 k4 => ?_⟩
        have hL4 := k4 _ _ hL (B3.ne_lst hL)
        have hR4 := k4 _ _ hR (B3.ne_lst hR)
        have hrs4 := hrs.mono fun v r h => RowT.keep k4 B3 h
        walk_at "ss"
        refine ite2 (fun c2 => ?_) (fun c2 => ?_)
        · walk_at "ss"
          refine ⟨b, c, _, rfl, B4, by omega, by omega, fun x H5 x0 x1 B5 k5 => ?_⟩
          have hL5 := k5 _ _ hL4 (B4.ne_lst hL4)
          have hrs5 := hrs4.mono fun v r h => RowT.keep k5 B4 h
          obtain ⟨vo, ro, hvo, hro, ao, rfl, hao⟩ := hrs5.at x0 (by omega)
          refine ⟨_, _, _, _, rfl, rfl, SqL.of hL5, hvo, ?_⟩
          walk_at "ss"
          refine ⟨b, c, _, rfl, B5, by omega, by omega, fun y H6 y0 y1 B6 k6 => ?_⟩
          have hL6 := k6 _ _ hL5 (B5.ne_lst hL5)
          have hao6 := k6 _ _ hao (B5.ne_tup hao)
          have hrs6 := hrs5.mono fun v r h => RowT.keep k6 B5 h
          obtain ⟨vg, rg, hvg, hrg, ag, rfl, hag⟩ := hrs6.at y0 (by omega)
          refine ⟨_, _, _, _, rfl, rfl, SqL.of hL6, hvg, ?_⟩
          walk_at "ss"
          refine ⟨b, c, _, rfl, B6, by omega, by omega, fun t H7 t0 t1 B7 k7 => ?_⟩
          have hL7 := k7 _ _ hL6 (B6.ne_lst hL6)
          have hao7 := k7 _ _ hao6 (B6.ne_tup hao6)
          have hag7 := k7 _ _ hag (B6.ne_tup hag)
          have hrs7 := hrs6.mono fun v r h => RowT.keep k7 B6 h
          have lo := (hres ro (List.mem_of_getElem? hro)).len
          have lg := (hres rg (List.mem_of_getElem? hrg)).len
          walk_at "ss"
          refine fun D2 hD2 => ?_
          have cD2 := B7.cell_ne hD2
          refine lc_range (lo := 0) (n := w) (fun j H8 => Same H7 H8 ∧ ∃ acc : Row, acc.length = j ∧ (∀ x, x ∈ acc → 0 ≤ x ∧ x < (q : Int)) ∧ H8 D2 = some (.lst (acc.map V.int)))
            ⟨same_new hD2 _, [], rfl, fun x hx => absurd hx List.not_mem_nil, upd_same⟩ ?_ ?_
          · rintro j H8 hj ⟨s8, acc, hacc, hb, hd⟩
            refine ⟨rfl, ?_⟩
            walk_at "ss"
            refine ⟨_, _, _, _, rfl, rfl, SqT.of (s8 _ _ hao7), atI_int (by omega), ?_⟩
            walk_at "ss"
            refine And.intro (.inr ⟨by omega, by omega⟩) ?_
            walk_at "ss"
            refine ⟨_, _, _, _, rfl, rfl, SqT.of (s8 _ _ hag7), atI_int (by omega), ?_⟩
            walk_at "ss"
            refine ⟨_, hd, by rw [List.length_map]; exact small1000 (by omega), fun a o e => ?_, acc ++ [(gt ro j * t + gt rg j).fmod q], by rw [List.length_append, hacc]; rfl, fun x hx => ?_, by rw [upd_same, List.map_append]; rfl⟩
            · rw [upd_ne (ne_of_none e hD2)]
              exact s8 a o e
            · rcases List.mem_append.mp hx with h | h
              · exact hb x h
              · rw [List.mem_singleton.mp h]
                exact fm q0
          · rintro H8 ⟨s8, row2, hacc, hb, hR8⟩
            obtain ⟨Hx, eHx⟩ : ∃ Hx, Hx = H8 := ⟨_, rfl⟩
            subst eHx
            have hrow : Res w q row2 := Res.of_bnd q0 hacc hb
            have hL := s8 _ _ hL7
            have hR := hR8
            have hrs := hrs7.mono fun v r h => RowT.same s8 h
            have B := B7.same s8
            have KK := KK.trans (k4.trans (k5.trans (k6.trans (k7.trans (Keep.of s8)))))
            obtain ⟨row, erow⟩ : ∃ row, row = row2 := ⟨_, rfl⟩
            subst erow
            walk_at "ss"
            refine ⟨.inl ⟨rfl, _, SqL.of hL⟩, ?_⟩
            walk_at "ss"
            refine ⟨_, _, rfl, .inl ⟨SqL.of hR, fun t ht => ?_⟩⟩
            have st := same_new ht (.tup (row.map V.int))
            have hL := st _ _ hL
            have htt : upd Hx t (.tup (row.map V.int)) t = some (.tup (row.map V.int)) := upd_same
            walk_at "ss"
            refine ⟨_, _, _, rfl, rfl, hL, small1000 (by have := hrs.1; omega), ?_⟩
            have Bt := B.same st
            have Lb := Bt.ne_lst hL
            refine ⟨_, _, _, _, _, _, (), vs ++ [.ref t], g ++ [row], rfl, upd_same, ?_, fun r hr => ?_, by rw [List.length_append, hg]; rfl, ?_, (KK.trans (Keep.of st)).new hLn⟩
            · exact ((hrs.mono fun v r h => h.same st).append (Rows.one ⟨t, rfl, htt⟩)).mono fun v r h => h.put hL
            · rcases List.mem_append.mp hr with d | d
              · exact hres r d
              · rw [List.mem_singleton.mp d]
                exact hrow
            · obtain ⟨⟨kvs, cs, a, rr, l, sd, tn, sm, e1, e2, e3, e4⟩⟩ := Bt
              have ne2 : c ≠ L := ne_cells
              exact PoolAt.mk1 (by rw [upd_ne Lb.symm]; exact e1) e2 e3 (by rw [upd_ne ne2]; exact e4)
        · obtain ⟨Hx, eHx⟩ : ∃ Hx, Hx = H4 := ⟨_, rfl⟩
          subst eHx
          have hL := hL4
          have hR := hR4
          have hrs := hrs4
          have B := B4
          have KK := KK.trans k4
          walk_at "ss"
          refine ⟨.inl ⟨rfl, _, SqL.of hL⟩, ?_⟩
          walk_at "ss"
          refine ⟨_, _, rfl, .inl ⟨SqL.of hR, fun t ht => ?_⟩⟩
          have st := same_new ht (.tup (row.map V.int))
          have hL := st _ _ hL
          have htt : upd Hx t (.tup (row.map V.int)) t = some (.tup (row.map V.int)) := upd_same
          walk_at "ss"
          refine ⟨_, _, _, rfl, rfl, hL, small1000 (by have := hrs.1; omega), ?_⟩
          have Bt := B.same st
          have Lb := Bt.ne_lst hL
          refine ⟨_, _, _, _, _, _, (), vs ++ [.ref t], g ++ [row], rfl, upd_same, ?_, fun r hr => ?_, by rw [List.length_append, hg]; rfl, ?_, (KK.trans (Keep.of st)).new hLn⟩
          · exact ((hrs.mono fun v r h => h.same st).append (Rows.one ⟨t, rfl, htt⟩)).mono fun v r h => h.put hL
          · rcases List.mem_append.mp hr with d | d
            · exact hres r d
            · rw [List.mem_singleton.mp d]
              exact hrow
          · obtain ⟨⟨kvs, cs, a, rr, l, sd, tn, sm, e1, e2, e3, e4⟩⟩ := Bt
            have ne2 : c ≠ L := ne_cells
            exact PoolAt.mk1 (by rw [upd_ne Lb.symm]; exact e1) e2 e3 (by rw [upd_ne ne2]; exact e4)
      · obtain ⟨Hx, eHx⟩ : ∃ Hx, Hx = H3 := ⟨_, rfl⟩
        subst eHx
        have B := B3
        walk_at "ss"
        refine ⟨.inl ⟨rfl, _, SqL.of hL⟩, ?_⟩
        walk_at "ss"
        refine ⟨_, _, rfl, .inl ⟨SqL.of hR, fun t ht => ?_⟩⟩
        have st := same_new ht (.tup (row.map V.int))
        have hL := st _ _ hL
        have htt : upd Hx t (.tup (row.map V.int)) t = some (.tup (row.map V.int)) := upd_same
        walk_at "ss"
        refine ⟨_, _, _, rfl, rfl, hL, small1000 (by have := hrs.1; omega), ?_⟩
        have Bt := B.same st
        have Lb := Bt.ne_lst hL
        refine ⟨_, _, _, _, _, _, (), vs ++ [.ref t], g ++ [row], rfl, upd_same, ?_, fun r hr => ?_, by rw [List.length_append, hg]; rfl, ?_, (KK.trans (Keep.of st)).new hLn⟩
        · exact ((hrs.mono fun v r h => h.same st).append (Rows.one ⟨t, rfl, htt⟩)).mono fun v r h => h.put hL
        · rcases List.mem_append.mp hr with d | d
          · exact hres r d
          · rw [List.mem_singleton.mp d]
            exact hrow
        · obtain ⟨⟨kvs, cs, a, rr, l, sd, tn, sm, e1, e2, e3, e4⟩⟩ := Bt
          have ne2 : c ≠ L := ne_cells
          exact PoolAt.mk1 (by rw [upd_ne Lb.symm]; exact e1) e2 e3 (by rw [upd_ne ne2]; exact e4)
  · rintro σ H2 ⟨v5, v6, v7, v8, v9, v10, d, vs, g, rfl, hL, hrs, hres, hg, B2, KK⟩
    walk_at "ss"
    refine ⟨_, _, rfl, .inl ⟨SqL.of hL, fun t ht => ?_⟩⟩
    have st := same_new ht (.tup vs)
    exact k t g _ ⟨vs, upd_same, hrs.mono fun v r h => h.same st⟩ hres hg (B2.same st) (KK.trans (Keep.of st))
end
theorem mkr_succ (w : Nat) (f : Nat → Int) : mkr (w + 1) f = mkr w f ++ [f w] := by
  unfold mkr
  rw [List.range_succ, List.map_append]
  rfl
theorem mkr_lt {n w : Nat} {f : Nat → Int} : (mkr w f).length = w := mk_len w f
theorem sum_mkr (w : Nat) (f : Nat → Int) : (mkr w f).sum = sumTo w f := by
  induction w with
  | zero => rfl
  | succ n ih =>
    rw [mkr_succ, List.sum_append, ih]
    show sumTo n f + (f n + 0) = sumTo n f + f n
    rw [Int.add_zero]
theorem mkr_congr {w : Nat} {f g : Nat → Int} (h : ∀ k, k < w → f k = g k) : mkr w f = mkr w g := by
  unfold mkr
  exact List.map_congr_left fun k hk => h k (List.mem_range.mp hk)
/-! ### comprehensions in short -/
/-- ints by a function of the turn -/
theorem lc_fun {lo : Int} {n : Nat} {g : TG} {te : TE} {vs : List Nat} {σ : L2.St} {H1 : Hp} {D : Addr} {Qd : Hp → Prop} (f : Nat → Int) (hD : H1 D = none) (hn : n ≤ 1000)
    (hs : ∀ (i : Nat) (H : Hp) (N : VK), i < n → Same H1 H → (∀ H4, Same H H4 → N (.int (f i)) H4) → g (.int (lo + i)) (wipe σ vs) H fun σ2 H2 => wipe σ2 vs = wipe σ vs ∧ te σ2 H2 N)
    (hd : ∀ H, Same H1 H → H D = some (.lst ((mkr n f).map V.int)) → Qd H) :
    ∃ W : Nat → Nat → Hp → Prop, (∃ m, W 0 m (upd H1 D (.lst []))) ∧ ∀ i m H, W i m H →
      ((Itr lo n).stop i H ∧ Qd H) ∨ ((Itr lo n).go i H ∧ ∃ Nx : Hp → Prop, (∀ H', Nx H' → ∃ m', m' < m ∧ W (i + 1) m' H') ∧ ∀ x H', (Itr lo n).yld i H x H' → g x (wipe σ vs) H' fun σ2 H2 => wipe σ2 vs = wipe σ vs ∧ tYes σ2 H2 fun b H3 =>
        if b = true then te σ2 H3 fun y H4 => ∃ acc, H4 D = some (.lst acc) ∧ acc.length < sizeLine ∧ Nx (upd H4 D (.lst (acc ++ [y]))) else Nx H3) := by
  refine lc_range (lo := lo) (n := n) (fun i H => Same H1 H ∧ H D = some (.lst ((mkr i f).map V.int))) ⟨same_new hD _, upd_same⟩ (fun i H hi ⟨s, hd⟩ => ?_) (fun H ⟨s, h⟩ => hd H s h)
  refine hs i H _ hi s (fun H4 s4 => ?_)
  refine ⟨_, s4 _ _ hd, by rw [List.length_map, mk_len]; exact small1000 (by omega), fun b o q => ?_, by rw [upd_same, mkr_succ, List.map_append]; rfl⟩
  rw [upd_ne (ne_of_none q hD)]
  exact s4 b o (s b o q)
/-- one row for each item of a list: new rows, or rows that stood there -/
theorem lc_rows {K : PySem.W.Frag} {a : Addr} {xs : List V} {g : TG} {te : TE} {vs : List Nat} {σ : L2.St} {H1 : Hp} {D : Addr} {Qd : Hp → Prop} (rs : List Row) (hl : xs.length = rs.length) (hD : H1 D = none) (hn : rs.length ≤ 1000) (hS : SqL K H1 a xs)
    (hs : ∀ (i : Nat) (x : V) (r : Row) (H : Hp) (N : VK), xs[i]? = some x → rs[i]? = some r → Same H1 H → H D ≠ none → (∀ H4 p, Same H H4 → H4 p = some (.lst (r.map V.int)) → p ≠ D → N (.ref p) H4) → g x (wipe σ vs) H fun σ2 H2 => wipe σ2 vs = wipe σ vs ∧ te σ2 H2 N)
    (hd : ∀ H, Same H1 H → LL H D rs → Qd H) :
    ∃ W : Nat → Nat → Hp → Prop, (∃ m, W 0 m (upd H1 D (.lst []))) ∧ ∀ i m H, W i m H →
      ((Itl K a).stop i H ∧ Qd H) ∨ ((Itl K a).go i H ∧ ∃ Nx : Hp → Prop, (∀ H', Nx H' → ∃ m', m' < m ∧ W (i + 1) m' H') ∧ ∀ x H', (Itl K a).yld i H x H' → g x (wipe σ vs) H' fun σ2 H2 => wipe σ2 vs = wipe σ vs ∧ tYes σ2 H2 fun b H3 =>
        if b = true then te σ2 H3 fun y H4 => ∃ acc, H4 D = some (.lst acc) ∧ acc.length < sizeLine ∧ Nx (upd H4 D (.lst (acc ++ [y]))) else Nx H3) := by
  refine lc_list (K := K) (a := a) (xs := xs) (fun i H => Same H1 H ∧ i ≤ rs.length ∧ ∃ acc, H D = some (.lst acc) ∧ Rows (fun v r => ∃ p, v = .ref p ∧ p ≠ D ∧ H p = some (.lst (r.map V.int))) acc (rs.take i)) ⟨same_new hD _, Nat.zero_le _, [], upd_same, by rw [List.take_zero]; exact Rows.nil⟩ (fun i H _ h => h.1.seq hS) (fun i x H hx ⟨s, hi, acc, hd, hr⟩ => ?_) (fun H ⟨s, _, acc, h, hr⟩ => hd H s ⟨acc, h, ?_⟩)
  · obtain ⟨r, hri⟩ := some_of hl hx
    have hi' := (List.getElem?_eq_some_iff.mp hri).1
    refine hs i x r H _ hx hri s (by rw [hd]; intro z; cases z) (fun H4 p4 s4 hp np => ?_)
    have hd4 := s4 _ _ hd
    refine ⟨acc, hd4, small1000 (by have := hr.1; rw [List.length_take] at this; omega), fun b o q => ?_, by omega, acc ++ [.ref p4], upd_same, ?_⟩
    · rw [upd_ne (ne_of_none q hD)]
      exact s4 b o (s b o q)
    · rw [List.take_add_one, hri]
      have m : Rows (fun v r => ∃ p, v = .ref p ∧ p ≠ D ∧ upd H4 D (.lst (acc ++ [.ref p4])) p = some (.lst (r.map V.int))) acc (rs.take i) := hr.mono fun v r0 ⟨a0, e, n, h⟩ => ⟨a0, e, n, by rw [upd_ne n]; exact s4 _ _ h⟩
      exact m.append (Rows.one ⟨p4, rfl, np, by rw [upd_ne np]; exact hp⟩)
  · rw [hl, List.take_length] at hr
    exact hr.mono fun v r ⟨p, e, _, h⟩ => ⟨p, e, h⟩
section
variable {P : Program} {w : World} {K : PySem.W.Frag} {mg : Str → Option Value} {base : Heap}
def spCleared : Sp := fun vs H Q _ => ∃ (q w c : Nat) (a l : Addr) (row ld : Row), vs = [.int q, .ref a, .ref l, .int c] ∧ q ∈ PL ∧ H a = some (.lst (row.map V.int)) ∧ H l = some (.lst (ld.map V.int)) ∧ Res w q row ∧ ld.length = w ∧ c < w ∧ w ≤ 13 ∧
  ∀ (p : Addr) (H' : Hp), H p = none → Same H H' → H' p = some (.lst ((clr w q c ld row).map V.int)) → Q (.ref p) H'
theorem ok_cleared (T : Top K mg) : FnOk P w K mg base CX0 1 T.f__law_cleared T.d__law_cleared ["q", "row", "lead", "column"] spCleared := by
  refine T.F__law_cleared.ok scLcleared (fun vs H Q E h => ?_) (fun cdv A outer s H vs Q E hr h => ?_)
  · obtain ⟨_, _, _, _, _, _, _, rfl, _⟩ := h
    rfl
  obtain ⟨q, w, c, a, l, row, ld, rfl, hq, ha, hl, hrow, hld, hc, hw, k⟩ := h
  have qr := pl_range q hq
  have q0 : (0 : Int) < q := by omega
  have hlen := hrow.len
  refine ⟨_, (pss_cons (ps_set (i := 4) scLcleared.nd rfl (Or.inr rfl) (pe_ix ix_list (pv 1) (pv 3) (fun _ _ => rfl)))
      (pss_one (ps_ret (pe_lc (own := [("k", 5)]) (g := gName 5) (tt := tYes) rfl scLcleared.nd (pi_range1 (by rfl) T.z_range (pa_cons (pe_callB call_len_seq (by rfl) T.z_len PySem.boot_len (pa_cons (pv 1) pa_nil)) pa_nil)) (blkOk_by (own := [("k", 5)]) (N := ["q", "row", "lead", "column", "many", "k"]) (sc := defScope s_Lcleared) (by decide +kernel)) (fun _ _ _ _ _ => (pg_name (i := 5) scLcleared.nd rfl (Or.inl rfl))) (fun _ _ _ _ _ => pts_nil) (fun _ _ _ _ _ => (pe_op op_modN (pe_callTy call_int1 (by rfl) T.z_int (by decide +kernel) (pa_cons (pe_op op_sub (pe_ix (show IxR _ (rIxL K) from ix_list) (pv 1) (pv 5) (fun _ _ => rfl)) (pe_op op_mul (pv 4) (pe_ix (show IxR _ (rIxL K) from ix_list) (pv 2) (pv 5) (fun _ _ => rfl)))) pa_nil)) (pv 0))))))), ?_⟩
  walk_at "ss"
  refine ⟨_, _, _, _, rfl, rfl, SqL.of ha, atI_intN (by omega), ?_⟩
  have bc := hrow.bnd c
  walk_at "ss"
  refine And.intro (show (((row.map V.int).length : Nat) : Int) < 2 ^ 62 by rw [List.length_map, hlen]; omega) ?_
  intro D hD
  have en : ((((row.map V.int).length : Nat) : Int)).toNat = w := by rw [List.length_map, hlen]; rfl
  rw [en]
  refine lc_fun (fun k => (gt row k - gt row c * gt ld k) % (q : Int)) hD (by omega) (fun i H3 N hi s3 n => ?_) (fun H3 s3 hd => k D H3 hD s3 hd)
  refine ⟨rfl, ?_⟩
  walk_at "ss"
  refine ⟨_, _, _, _, rfl, rfl, SqL.of (s3 _ _ ha), atI_int (by omega), ?_⟩
  walk_at "ss"
  refine ⟨_, _, _, _, rfl, rfl, SqL.of (s3 _ _ hl), atI_int (by omega), ?_⟩
  walk_at "ss"
  have g := n H3 (Same.refl H3)
  rw [← fmod_eq q0] at g
  exact g
def spLinv : Sp := fun vs H Q _ => ∃ (q : Nat) (a : Int), vs = [.int a, .int q] ∧ q ∈ PL ∧ 0 < a ∧ a < q ∧ ∀ (b : Nat) (H' : Hp), b < q → (a * b) % (q : Int) = 1 → Same H H' → Q (.int b) H'
theorem ok_linv (T : Top K mg) : FnOk P w K mg base CX0 1 T.f__law_inverse T.d__law_inverse ["a", "q"] spLinv := by
  refine T.F__law_inverse.ok scLinverse (fun vs H Q E h => ?_) (fun cdv A outer s H vs Q E hr h => ?_)
  · obtain ⟨_, _, rfl, _⟩ := h
    rfl
  obtain ⟨q, a, rfl, hq, a0, a1, k⟩ := h
  have qr := pl_range q hq
  have q0 : (0 : Int) < q := by omega
  refine ⟨_, (pss_one (ps_ret (pe_ix ix_list (pe_lc (own := [("b", 2)]) (g := gName 2)  rfl scLinverse.nd (pi_range1 (by rfl) T.z_range (pa_cons (pv 1) pa_nil)) (blkOk_by (own := [("b", 2)]) (N := ["a", "q", "b"]) (sc := defScope s_Linverse) (by decide +kernel)) (fun _ _ _ _ _ => (pg_name (i := 2) scLinverse.nd rfl (Or.inl rfl))) (fun _ _ _ _ _ => (pts_one (pt_cmpR op_eq (pe_op op_modN (pe_callTy call_int1 (by rfl) T.z_int (by decide +kernel) (pa_cons (pe_op op_mul (pv 0) (pv 2)) pa_nil)) (pv 1)) pe_int (nomark _)))) (fun _ _ _ _ _ => (pv 2))) pe_int (fun _ _ => rfl)))), ?_⟩
  walk_at "ss"
  intro D hD
  refine lc_range (lo := 0) (n := q) (fun i H2 => Same H H2 ∧ ∃ acc : List Nat, H2 D = some (.lst (natsV acc)) ∧ acc.length ≤ i ∧ (∀ x, x ∈ acc → x < q ∧ (a * (x : Int)) % (q : Int) = 1) ∧ ∀ x : Nat, x < i → (a * (x : Int)) % (q : Int) = 1 → x ∈ acc)
    ⟨same_new hD _, [], upd_same, Nat.le_refl _, fun x hx => absurd hx List.not_mem_nil, fun x hx => absurd hx (Nat.not_lt_zero x)⟩ ?_ ?_
  · rintro i H2 hi ⟨s2, acc, hd, hlen, h1, h2⟩
    refine ⟨rfl, ?_⟩
    walk_at "ss"
    have e0 : (0 : Int) + (i : Int) = (i : Int) := Int.zero_add _
    refine ite2 (fun c => ?_) (fun c => ?_)
    · have c' : (a * (0 + (i : Int))).fmod (q : Int) = 1 := by
        have := of_decide_eq_true c
        injection this
      rw [e0, fmod_eq q0] at c'
      walk_at "ss"
      refine ⟨_, hd, by unfold natsV; rw [List.length_map]; exact small1000 (by omega), fun b o e => ?_, acc ++ [i], by rw [upd_same, e0, natsV, natsV, List.map_append]; rfl, by rw [List.length_append, List.length_singleton]; omega, fun x hx => ?_, fun x hx hx1 => ?_⟩
      · rw [upd_ne (ne_of_none e hD)]
        exact s2 b o e
      · rcases List.mem_append.mp hx with h | h
        · exact h1 x h
        · rw [List.mem_singleton.mp h]
          exact ⟨hi, c'⟩
      · by_cases e : x = i
        · rw [e]
          exact List.mem_append_right _ List.mem_cons_self
        · exact List.mem_append_left _ (h2 x (by omega) hx1)
    · refine ⟨s2, acc, hd, by omega, h1, fun x hx hx1 => ?_⟩
      by_cases e : x = i
      · exfalso
        apply c
        rw [e, ← e0, ← fmod_eq q0] at hx1
        exact decide_eq_true (congrArg V.int hx1)
      · exact h2 x (by omega) hx1
  · rintro H2 ⟨s2, acc, hd, hlen, h1, h2⟩
    obtain ⟨b, hb, hb1⟩ := pl_inv q hq a.toNat (by omega) (by omega)
    have hb2 : a * (b : Int) % (q : Int) = 1 := by
      have : ((a.toNat * b % q : Nat) : Int) = 1 := by rw [hb1]; rfl
      rw [Int.natCast_emod, Int.natCast_mul, Int.toNat_of_nonneg (by omega)] at this
      exact this
    have hm := h2 b hb hb2
    have l0 : 0 < acc.length := List.length_pos_of_mem hm
    obtain ⟨x, hx, hax⟩ := natsV_at (acc := acc) (r := 0) (Int.le_refl 0) (by omega)
    walk_at "ss"
    refine ⟨_, _, _, _, rfl, rfl, SqL.of hd, hax, ?_⟩
    exact k x H2 (h1 x hx).1 (h1 x hx).2 s2
end
section
variable {P : Program} {w : World} {K : PySem.W.Frag} {mg : Str → Option Value} {base : Heap}
theorem ne_yes {a b : Int} (c : (!decide (V.int a = V.int b)) = true) : a ≠ b := fun e => by
  rw [e, decide_eq_true rfl] at c
  cases c
theorem ne_no {a b : Int} (c : ¬ (!decide (V.int a = V.int b)) = true) : a = b := Classical.byContradiction fun z => c (by rw [decide_eq_false fun e => z (V.int.inj e)]; rfl)
def spProduct : Sp := fun vs H Q _ => ∃ (q w : Nat) (a b : Addr) (r x : Row), vs = [.int q, .ref a, .ref b] ∧ q ∈ PL ∧ H a = some (.tup (r.map V.int)) ∧ (H b = some (.tup (x.map V.int)) ∨ H b = some (.lst (x.map V.int))) ∧ Res w q r ∧ Res w q x ∧ w ≤ 13 ∧
  ∀ H' : Hp, Same H H' → Q (.int (dot w r (gt x) % (q : Int))) H'
theorem ok_product (T : Top K mg) : FnOk P w K mg base CX0 1 T.f__law_product T.d__law_product ["q", "row", "x"] spProduct := by
  refine T.F__law_product.ok scLproduct (fun vs H Q E h => ?_) (fun cdv A outer s H vs Q E hr h => ?_)
  · obtain ⟨_, _, _, _, _, _, rfl, _⟩ := h
    rfl
  obtain ⟨q, w, a, b, r, x, rfl, hq, ha, hb, hr0, hx, hw, k⟩ := h
  have qr := pl_range q hq
  have q0 : (0 : Int) < q := by omega
  have lr := hr0.len
  have lx := hx.len
  rcases hb with hb | hb
  · refine ⟨_, (pss_one (ps_ret (pe_op op_modN (pe_callTy call_int1 (by rfl) T.z_int (by decide +kernel) (pa_cons (pe_callB (cr_sum rfl) (by rfl) T.z_sum (by decide +kernel) (pa_cons (pe_lc (own := [("k", 3)]) (g := gName 3) (tt := tYes) rfl scLproduct.nd (pi_range1 (by rfl) T.z_range (pa_cons (pe_callB call_len_seq (by rfl) T.z_len PySem.boot_len (pa_cons (pv 1) pa_nil)) pa_nil)) (blkOk_by (own := [("k", 3)]) (N := ["q", "row", "x", "k"]) (sc := defScope s_Lproduct) (by decide +kernel)) (fun _ _ _ _ _ => (pg_name (i := 3) scLproduct.nd rfl (Or.inl rfl))) (fun _ _ _ _ _ => pts_nil) (fun _ _ _ _ _ => (pe_op op_mul (pe_ix (show IxR _ (rIxT K) from ix_tup) (pv 1) (pv 3) (fun _ _ => rfl)) (pe_ix (show IxR _ (rIxT K) from ix_tup) (pv 2) (pv 3) (fun _ _ => rfl))))) pa_nil)) pa_nil)) (pv 0)))), ?_⟩
    walk_at "ss"
    refine And.intro (show (((r.map V.int).length : Nat) : Int) < 2 ^ 62 by rw [List.length_map]; omega) ?_
    intro D hD
    have en : ((((r.map V.int).length : Nat) : Int)).toNat = w := by rw [List.length_map, lr]; rfl
    rw [en]
    refine lc_fun (fun k => gt r k * gt x k) hD (by omega) (fun i H3 N hi s3 n => ?_) (fun H3 s3 hd => ?_)
    · refine ⟨rfl, ?_⟩
      walk_at "ss"
      refine ⟨_, _, _, _, rfl, rfl, SqT.of (s3 _ _ ha), atI_int (by omega), ?_⟩
      walk_at "ss"
      refine ⟨_, _, _, _, rfl, rfl, SqT.of (s3 _ _ hb), atI_int (by omega), ?_⟩
      have b1 := hr0.bnd i
      have b2 := hx.bnd i
      walk_at "ss"
      exact n H3 (Same.refl H3)
    · refine ⟨_, _, rfl, SqL.of hd, ?_⟩
      rw [sum_mkr]
      walk_at "ss"
      have g := k H3 s3
      rw [← fmod_eq q0] at g
      exact g
  · refine ⟨_, (pss_one (ps_ret (pe_op op_modN (pe_callTy call_int1 (by rfl) T.z_int (by decide +kernel) (pa_cons (pe_callB (cr_sum rfl) (by rfl) T.z_sum (by decide +kernel) (pa_cons (pe_lc (own := [("k", 3)]) (g := gName 3) (tt := tYes) rfl scLproduct.nd (pi_range1 (by rfl) T.z_range (pa_cons (pe_callB call_len_seq (by rfl) T.z_len PySem.boot_len (pa_cons (pv 1) pa_nil)) pa_nil)) (blkOk_by (own := [("k", 3)]) (N := ["q", "row", "x", "k"]) (sc := defScope s_Lproduct) (by decide +kernel)) (fun _ _ _ _ _ => (pg_name (i := 3) scLproduct.nd rfl (Or.inl rfl))) (fun _ _ _ _ _ => pts_nil) (fun _ _ _ _ _ => (pe_op op_mul (pe_ix (show IxR _ (rIxT K) from ix_tup) (pv 1) (pv 3) (fun _ _ => rfl)) (pe_ix (show IxR _ (rIxL K) from ix_list) (pv 2) (pv 3) (fun _ _ => rfl))))) pa_nil)) pa_nil)) (pv 0)))), ?_⟩
    walk_at "ss"
    refine And.intro (show (((r.map V.int).length : Nat) : Int) < 2 ^ 62 by rw [List.length_map]; omega) ?_
    intro D hD
    have en : ((((r.map V.int).length : Nat) : Int)).toNat = w := by rw [List.length_map, lr]; rfl
    rw [en]
    refine lc_fun (fun k => gt r k * gt x k) hD (by omega) (fun i H3 N hi s3 n => ?_) (fun H3 s3 hd => ?_)
    · refine ⟨rfl, ?_⟩
      walk_at "ss"
      refine ⟨_, _, _, _, rfl, rfl, SqT.of (s3 _ _ ha), atI_int (by omega), ?_⟩
      walk_at "ss"
      refine ⟨_, _, _, _, rfl, rfl, SqL.of (s3 _ _ hb), atI_int (by omega), ?_⟩
      have b1 := hr0.bnd i
      have b2 := hx.bnd i
      walk_at "ss"
      exact n H3 (Same.refl H3)
    · refine ⟨_, _, rfl, SqL.of hd, ?_⟩
      rw [sum_mkr]
      walk_at "ss"
      have g := k H3 s3
      rw [← fmod_eq q0] at g
      exact g
end
section
variable {P : Program} {w : World} {K : PySem.W.Frag} {mg : Str → Option Value} {base : Heap}
theorem Res.mem {w : Nat} {q : Int} {r : Row} (h : Res w q r) {x : Int} (hx : x ∈ r) : 0 ≤ x ∧ x < q := by
  obtain ⟨k, hk, rfl⟩ := List.mem_iff_getElem.mp hx
  have := h.bnd k
  unfold gt at this
  rw [List.getD_eq_getElem?_getD, List.getElem?_eq_getElem hk] at this
  exact this
theorem Res.snoc {w : Nat} {q x : Int} {r : Row} (h : Res w q r) (h0 : 0 ≤ x) (h1 : x < q) : Res (w + 1) q (r ++ [x]) :=
  Res.of_bnd (by omega) (by rw [List.length_append, h.len]; rfl) fun y hy => by
    rcases List.mem_append.mp hy with c | c
    · exact h.mem c
    · rw [List.mem_singleton.mp c]
      exact ⟨h0, h1⟩
def spVectors : Sp := fun vs H Q _ => ∃ (q w : Nat), vs = [.int q, .int w] ∧ 3 ≤ q ∧ q < 8 ∧ w < 4 ∧
  ∀ (p : Addr) (H' : Hp), LT H' p (vecs q w) → (vecs q w).length ≤ 343 → Same H H' → Q (.ref p) H'
theorem stepv_succ {q j : Nat} {g : List Row} {r : Row} (hr : g[j]? = some r) : (g.take (j + 1)).flatMap (stepv q) = (g.take j).flatMap (stepv q) ++ stepv q r := by
  rw [List.take_add_one, hr, List.flatMap_append]
  show _ ++ (stepv q r ++ []) = _
  rw [List.append_nil]
theorem rng_snoc {r : Row} {m : Nat} : (List.range (m + 1)).map (fun a : Nat => r ++ [(a : Int)]) = (List.range m).map (fun a : Nat => r ++ [(a : Int)]) ++ [r ++ [0 + (m : Int)]] := by
  rw [List.range_succ, List.map_append, Int.zero_add]
  rfl
theorem flat_len {q : Nat} : ∀ l : List Row, (l.flatMap (stepv q)).length = l.length * q
  | [] => (Nat.zero_mul q).symm
  | a :: l => by
    rw [List.flatMap_cons, List.length_append, flat_len l, List.length_cons, Nat.add_mul, Nat.one_mul]
    unfold stepv
    rw [List.length_map, List.length_range]
    omega
theorem ok_vectors (T : Top K mg) : FnOk P w K mg base CX0 1 T.f__law_vectors T.d__law_vectors ["q", "width"] spVectors := by
  refine T.F__law_vectors.ok scLvectors (fun vs H Q E h => ?_) (fun cdv A outer s H vs Q E hr h => ?_)
  · obtain ⟨_, _, rfl, _⟩ := h
    rfl
  obtain ⟨q, w, rfl, q1, q2, hw, k⟩ := h
  refine ⟨_, (pss_cons (ps_set (i := 2) scLvectors.nd rfl (Or.inl rfl) (pe_lst (pa_cons (pe_tup pa_nil) pa_nil)))
      (pss_cons (ps_for PassesOwn.never rfl (pi_range1 (by rfl) T.z_range (pa_cons (pv 1) pa_nil)) (pg_name (i := 3) scLvectors.nd rfl (Or.inl rfl)) (pss_cons (ps_set (i := 4) scLvectors.nd rfl (Or.inl rfl) (pe_lst pa_nil))
      (pss_cons (ps_for PassesOwn.never rfl (pi_list (pv 2)) (pg_name (i := 5) scLvectors.nd rfl (Or.inr rfl)) (pss_one (ps_set (i := 4) scLvectors.nd rfl (Or.inl rfl) (pe_op op_cat (pv 4) (pe_lc (own := [("a", 6)]) (g := gName 6) (tt := tYes) rfl scLvectors.nd (pi_range1 (by rfl) T.z_range (pa_cons (pv 0) pa_nil)) (blkOk_by (own := [("a", 6)]) (N := ["q", "width", "found", "k", "wider", "one", "a"]) (sc := defScope s_Lvectors) (by decide +kernel)) (fun _ _ _ _ _ => (pg_name (i := 6) scLvectors.nd rfl (Or.inl rfl))) (fun _ _ _ _ _ => pts_nil) (fun _ _ _ _ _ => (pe_op (show OpR _ _ (rCatA K) from op_catA) (pv 5) (pe_tup (pa_cons (pv 6) pa_nil)))))))))
      (pss_one (ps_set (i := 2) scLvectors.nd rfl (Or.inl rfl) (pv 4))))))
      (pss_one (ps_ret (pv 2))))), ?_⟩
  walk_at "ss"
  intro t0 ht0
  walk_at "ss"
  intro L hL
  have s0 := (same_new ht0 (.tup [])).trans (same_new hL (.lst [.ref t0]))
  have ht : upd (upd H t0 (.tup [])) L (.lst [.ref t0]) t0 = some (.tup (([] : Row).map V.int)) := (same_new hL _) _ _ upd_same
  have pw : ∀ i, i < 4 → q ^ i ≤ 343 := fun i hi => by
    have h7 : q ^ i ≤ 7 ^ i := Nat.pow_le_pow_left (by omega) i
    have : i = 0 ∨ i = 1 ∨ i = 2 ∨ i = 3 := by omega
    rcases this with rfl | rfl | rfl | rfl <;> exact Nat.le_trans h7 (by decide)
  walk_at "ss"
  refine for_range (n := w) (fun i σ H2 => ∃ (v3 v4 v5 v6 : Option V) (p : Addr), σ = [some (.int q), some (.int w), some (.ref p), v3, v4, v5, v6] ∧ Same H H2 ∧ LT H2 p (vecs q i))
    ⟨_, _, _, _, L, rfl, s0, ⟨_, upd_same, Rows.one ⟨t0, rfl, ht⟩⟩⟩ ?_ ?_
  · rintro i σ H2 hi ⟨v3, v4, v5, v6, p, rfl, s2, ⟨vs, hp, hv⟩⟩
    have hvl := hv.1
    rw [vecs_len] at hvl
    have hq3 := pw (i + 1) (by omega)
    rw [Nat.pow_succ] at hq3
    walk_at "ss"
    intro W0 hW0
    have sW := same_new hW0 (.lst [])
    walk_at "ss"
    refine ⟨⟨_, SqL.of (sW _ _ hp)⟩, for_list (K := K) (a := p) (xs := vs) (fun j σ H3 => ∃ (v5 v6 : Option V) (p2 : Addr), σ = [some (.int q), some (.int w), some (.ref p), some (.int (0 + (i : Int))), some (.ref p2), v5, v6] ∧ j ≤ vs.length ∧ Same H2 H3 ∧ LT H3 p2 (((vecs q i).take j).flatMap (stepv q)))
      ⟨_, _, W0, rfl, Nat.zero_le _, sW, ⟨_, upd_same, Rows.nil⟩⟩ (fun j σ H3 _ ⟨_, _, _, _, _, s3, _⟩ => SqL.of (s3 _ _ hp)) ?_ ?_⟩
    · rintro j y σ H3 hj ⟨v5, v6, p2, rfl, _, s3, ⟨ws, hp2, hw2⟩⟩
      obtain ⟨r, hri, a, rfl, ha⟩ := hv.get hj
      have hjl := (List.getElem?_eq_some_iff.mp hj).1
      have hw2l := hw2.1
      rw [flat_len, List.length_take, vecs_len] at hw2l
      have hb1 : min j (q ^ i) * q ≤ q ^ i * q := Nat.mul_le_mul_right q (Nat.min_le_right _ _)
      have hrr := (mem_vecs (by omega)).mp (List.mem_of_getElem? hri)
      walk_at "ss"
      intro D hD
      refine lc_range (lo := 0) (n := q) (fun m H4 => Same H3 H4 ∧ ∃ (acc : List V), H4 D = some (.lst acc) ∧ Rows (RowT H4) acc ((List.range m).map fun a : Nat => r ++ [(a : Int)]))
        ⟨same_new hD _, [], upd_same, Rows.nil⟩ ?_ ?_
      · rintro m H4 hm ⟨s4, acc, hd, hg4⟩
        have hg4l := hg4.1
        rw [List.length_map, List.length_range] at hg4l
        refine ⟨rfl, ?_⟩
        walk_at "ss"
        intro b hb
        have s5 := same_new hb (.tup [.int (0 + (m : Int))])
        have fin : ∀ (z : Addr) (H6 : Hp), Same H4 H6 → H6 z = some (.tup ((r ++ [0 + (m : Int)]).map V.int)) → ∃ acc1, H6 D = some (.lst acc1) ∧ acc1.length < sizeLine ∧ (Same H3 (upd H6 D (.lst (acc1 ++ [.ref z]))) ∧ ∃ (acc2 : List V), upd H6 D (.lst (acc1 ++ [.ref z])) D = some (.lst acc2) ∧ Rows (RowT (upd H6 D (.lst (acc1 ++ [.ref z])))) acc2 ((List.range (m + 1)).map fun a : Nat => r ++ [(a : Int)])) := fun z H6 s6 hz => by
          have hd6 := s6 _ _ hd
          refine ⟨acc, hd6, small1000 (by omega), fun o u e => ?_, acc ++ [.ref z], upd_same, ?_⟩
          · rw [upd_ne (ne_of_none e hD)]
            exact s6 o u (s4 o u e)
          · rw [rng_snoc]
            exact ((hg4.mono fun v r h => h.same s6).append (Rows.one ⟨z, rfl, hz⟩)).mono fun v r h => h.put hd6
        refine ⟨a, b, r.map V.int, [.int (0 + (m : Int))], rfl, rfl, SqT.of (s5 _ _ (s4 _ _ (s3 _ _ ha))), SqT.of upd_same, ?_, fun c => ?_, fun _ c => (by cases c), fun _ _ z hz => ?_⟩
        · rw [List.length_map, hrr.len]
          exact Nat.le_of_lt (small1000 (by simp; omega))
        · refine fin b _ s5 ?_
          have : r = [] := List.map_eq_nil_iff.mp c
          rw [this]
          exact upd_same
        · refine fin z _ (s5.trans (same_new hz _)) ?_
          rw [upd_same, List.map_append]
          rfl
      · rintro H4 ⟨s4, acc, hd, hg4⟩
        have hg4l := hg4.1
        rw [List.length_map, List.length_range] at hg4l
        have hp24 := s4 _ _ hp2
        walk_at "ss"
        refine ⟨_, _, _, _, rfl, rfl, hp24, hd, Nat.le_of_lt (small1000 (by omega)), fun p3 hp3 => ?_⟩
        have s5 := same_new hp3 (.lst (ws ++ acc))
        refine ⟨_, _, p3, rfl, hjl, s3.trans (s4.trans s5), ⟨_, upd_same, ?_⟩⟩
        rw [stepv_succ hri]
        exact ((hw2.mono fun v r h => h.same s4).append hg4).mono fun v r h => h.same s5
    · rintro σ H3 ⟨v5, v6, p2, rfl, _, s3, hLT⟩
      walk_at "ss"
      refine ⟨_, _, _, _, p2, rfl, s2.trans s3, ?_⟩
      rw [hv.1, List.take_length] at hLT
      exact hLT
  · rintro σ H2 ⟨v3, v4, v5, v6, p, rfl, s2, hLT⟩
    walk_at "ss"
    exact k p H2 hLT (by rw [vecs_len]; exact pw w hw) s2
end
/-! ### more comprehensions in short -/
/-- a list of rows, none of which lies at z -/
def RowX (z : Addr) (H : Hp) (v : V) (r : Row) : Prop := ∃ a, v = .ref a ∧ a ≠ z ∧ H a = some (.lst (r.map V.int))
def LX (z : Addr) (H : Hp) (p : Addr) (g : List Row) : Prop := p ≠ z ∧ ∃ vs, H p = some (.lst vs) ∧ Rows (RowX z H) vs g
theorem RowX.same {z : Addr} {H H' : Hp} (s : Same H H') {v : V} {r : Row} (h : RowX z H v r) : RowX z H' v r := by
  obtain ⟨a, e, n, h⟩ := h
  exact ⟨a, e, n, s _ _ h⟩
theorem LX.same {z : Addr} {H H' : Hp} {p : Addr} {g : List Row} (h : LX z H p g) (s : Same H H') : LX z H' p g := by
  obtain ⟨n, vs, h1, h2⟩ := h
  exact ⟨n, vs, s _ _ h1, h2.mono fun v r => RowX.same s⟩
theorem LX.put {z : Addr} {H : Hp} {o : HO} {p : Addr} {g : List Row} (h : LX z H p g) : LX z (upd H z o) p g := by
  obtain ⟨n, vs, h1, h2⟩ := h
  refine ⟨n, vs, by rw [upd_ne n]; exact h1, h2.mono fun v r h => ?_⟩
  obtain ⟨a, e, n, h⟩ := h
  exact ⟨a, e, n, by rw [upd_ne n]; exact h⟩
theorem LX.LL {z : Addr} {H : Hp} {p : Addr} {g : List Row} (h : LX z H p g) : LL H p g := by
  obtain ⟨n, vs, h1, h2⟩ := h
  exact ⟨vs, h1, h2.mono fun v r ⟨a, e, _, h⟩ => ⟨a, e, h⟩⟩
theorem LL.X {z : Addr} {H : Hp} {p : Addr} {g : List Row} {o : HO} (h : LL H p g) (hz : H z = none) : LX z (upd H z o) p g := by
  obtain ⟨vs, h1, h2⟩ := h
  exact ⟨ne_of_none h1 hz, vs, same_new hz _ _ _ h1, h2.mono fun v r ⟨a, e, h⟩ => ⟨a, e, ne_of_none h hz, same_new hz _ _ _ h⟩⟩
theorem Rows.at0 {R : V → Row → Prop} {vs : List V} {g : List Row} (h : Rows R vs g) {i : Nat} (hi : i < g.length) : ∃ v, vs[i]? = some v ∧ R v (g[i]'hi) :=
  ⟨vs[i]'(by rw [h.1]; exact hi), List.getElem?_eq_getElem _, h.2 i _ _ (List.getElem?_eq_getElem _) (List.getElem?_eq_getElem hi)⟩
theorem entry_at {r : Row} {i : Nat} {y : V} (h : (r.map V.int)[i]? = some y) : y = V.int (gt r i) ∧ i < r.length := by
  obtain ⟨z, rfl, hz⟩ := int_at h
  have hl := (List.getElem?_eq_some_iff.mp hz).1
  refine ⟨?_, hl⟩
  unfold gt
  rw [List.getD_eq_getElem?_getD, hz]
  rfl
section
variable {K : PySem.W.Frag} {a : Addr} {g : TG} {te : TE} {vs : List Nat} {σ : L2.St} {H1 : Hp} {D : Addr} {Qd : Hp → Prop}
theorem lc_funL {r : Row} (f : Nat → Int) (hD : H1 D = none) (hn : r.length ≤ 1000) (hS : SqL K H1 a (r.map V.int))
    (hs : ∀ (i : Nat) (H : Hp) (N : VK), i < r.length → Same H1 H → (∀ H4, Same H H4 → N (.int (f i)) H4) → g (.int (gt r i)) (wipe σ vs) H fun σ2 H2 => wipe σ2 vs = wipe σ vs ∧ te σ2 H2 N)
    (hd : ∀ H, Same H1 H → H D = some (.lst ((mkr r.length f).map V.int)) → Qd H) :
    ∃ W : Nat → Nat → Hp → Prop, (∃ m, W 0 m (upd H1 D (.lst []))) ∧ ∀ i m H, W i m H →
      ((Itl K a).stop i H ∧ Qd H) ∨ ((Itl K a).go i H ∧ ∃ Nx : Hp → Prop, (∀ H', Nx H' → ∃ m', m' < m ∧ W (i + 1) m' H') ∧ ∀ x H', (Itl K a).yld i H x H' → g x (wipe σ vs) H' fun σ2 H2 => wipe σ2 vs = wipe σ vs ∧ tYes σ2 H2 fun b H3 =>
        if b = true then te σ2 H3 fun y H4 => ∃ acc, H4 D = some (.lst acc) ∧ acc.length < sizeLine ∧ Nx (upd H4 D (.lst (acc ++ [y]))) else Nx H3) := by
  refine lc_list (K := K) (a := a) (xs := r.map V.int) (fun i H => i ≤ r.length ∧ Same H1 H ∧ H D = some (.lst ((mkr i f).map V.int))) ⟨Nat.zero_le _, same_new hD _, upd_same⟩ (fun i H _ h => h.2.1.seq hS) (fun i x H hx ⟨_, s, hd⟩ => ?_) (fun H ⟨_, s, h⟩ => hd H s (by rw [List.length_map] at h; exact h))
  obtain ⟨rfl, hi⟩ := entry_at hx
  refine hs i H _ hi s (fun H4 s4 => ?_)
  refine ⟨_, s4 _ _ hd, by rw [List.length_map, mk_len]; exact small1000 (by omega), hi, fun b o q => ?_, by rw [upd_same, mkr_succ, List.map_append]; rfl⟩
  rw [upd_ne (ne_of_none q hD)]
  exact s4 b o (s b o q)
theorem lc_funT {r : Row} (f : Nat → Int) (hD : H1 D = none) (hn : r.length ≤ 1000) (hS : H1 a = some (.tup (r.map V.int)))
    (hs : ∀ (i : Nat) (H : Hp) (N : VK), i < r.length → Same H1 H → (∀ H4, Same H H4 → N (.int (f i)) H4) → g (.int (gt r i)) (wipe σ vs) H fun σ2 H2 => wipe σ2 vs = wipe σ vs ∧ te σ2 H2 N)
    (hd : ∀ H, Same H1 H → H D = some (.lst ((mkr r.length f).map V.int)) → Qd H) :
    ∃ W : Nat → Nat → Hp → Prop, (∃ m, W 0 m (upd H1 D (.lst []))) ∧ ∀ i m H, W i m H →
      ((Itt K a).stop i H ∧ Qd H) ∨ ((Itt K a).go i H ∧ ∃ Nx : Hp → Prop, (∀ H', Nx H' → ∃ m', m' < m ∧ W (i + 1) m' H') ∧ ∀ x H', (Itt K a).yld i H x H' → g x (wipe σ vs) H' fun σ2 H2 => wipe σ2 vs = wipe σ vs ∧ tYes σ2 H2 fun b H3 =>
        if b = true then te σ2 H3 fun y H4 => ∃ acc, H4 D = some (.lst acc) ∧ acc.length < sizeLine ∧ Nx (upd H4 D (.lst (acc ++ [y]))) else Nx H3) := by
  refine lc_tup (K := K) (a := a) (xs := r.map V.int) (fun i H => i ≤ r.length ∧ Same H1 H ∧ H D = some (.lst ((mkr i f).map V.int))) ⟨Nat.zero_le _, same_new hD _, upd_same⟩ (fun i H _ h => SqT.of (h.2.1 _ _ hS)) (fun i x H hx ⟨_, s, hd⟩ => ?_) (fun H ⟨_, s, h⟩ => hd H s (by rw [List.length_map] at h; exact h))
  obtain ⟨rfl, hi⟩ := entry_at hx
  refine hs i H _ hi s (fun H4 s4 => ?_)
  refine ⟨_, s4 _ _ hd, by rw [List.length_map, mk_len]; exact small1000 (by omega), hi, fun b o q => ?_, by rw [upd_same, mkr_succ, List.map_append]; rfl⟩
  rw [upd_ne (ne_of_none q hD)]
  exact s4 b o (s b o q)
/-- one new row for each item of a list -/
theorem lc_rowsX {z : Addr} {xs : List V} (rs : List Row) (hl : xs.length = rs.length) (hz : H1 z ≠ none) (hD : H1 D = none) (hn : rs.length ≤ 1000) (hS : SqL K H1 a xs)
    (hs : ∀ (i : Nat) (x : V) (r : Row) (H : Hp) (N : VK), xs[i]? = some x → rs[i]? = some r → Same H1 H → H D ≠ none → (∀ H4 p, Same H H4 → H4 p = some (.lst (r.map V.int)) → p ≠ D → p ≠ z → N (.ref p) H4) → g x (wipe σ vs) H fun σ2 H2 => wipe σ2 vs = wipe σ vs ∧ te σ2 H2 N)
    (hd : ∀ H, Same H1 H → LX z H D rs → Qd H) :
    ∃ W : Nat → Nat → Hp → Prop, (∃ m, W 0 m (upd H1 D (.lst []))) ∧ ∀ i m H, W i m H →
      ((Itl K a).stop i H ∧ Qd H) ∨ ((Itl K a).go i H ∧ ∃ Nx : Hp → Prop, (∀ H', Nx H' → ∃ m', m' < m ∧ W (i + 1) m' H') ∧ ∀ x H', (Itl K a).yld i H x H' → g x (wipe σ vs) H' fun σ2 H2 => wipe σ2 vs = wipe σ vs ∧ tYes σ2 H2 fun b H3 =>
        if b = true then te σ2 H3 fun y H4 => ∃ acc, H4 D = some (.lst acc) ∧ acc.length < sizeLine ∧ Nx (upd H4 D (.lst (acc ++ [y]))) else Nx H3) := by
  refine lc_list (K := K) (a := a) (xs := xs) (fun i H => Same H1 H ∧ i ≤ rs.length ∧ ∃ acc, H D = some (.lst acc) ∧ Rows (fun v r => ∃ p, v = .ref p ∧ p ≠ D ∧ p ≠ z ∧ H p = some (.lst (r.map V.int))) acc (rs.take i)) ⟨same_new hD _, Nat.zero_le _, [], upd_same, by rw [List.take_zero]; exact Rows.nil⟩ (fun i H _ h => h.1.seq hS) (fun i x H hx ⟨s, hi, acc, hd, hr⟩ => ?_) (fun H ⟨s, _, acc, h, hr⟩ => hd H s ⟨fun e => hz (e ▸ hD), acc, h, ?_⟩)
  · obtain ⟨r, hri⟩ := some_of hl hx
    have hi' := (List.getElem?_eq_some_iff.mp hri).1
    refine hs i x r H _ hx hri s (by rw [hd]; intro z; cases z) (fun H4 p4 s4 hp np nz => ?_)
    have hd4 := s4 _ _ hd
    refine ⟨acc, hd4, small1000 (by have := hr.1; rw [List.length_take] at this; omega), fun b o q => ?_, by omega, acc ++ [.ref p4], upd_same, ?_⟩
    · rw [upd_ne (ne_of_none q hD)]
      exact s4 b o (s b o q)
    · rw [List.take_add_one, hri]
      have m : Rows (fun v r => ∃ p, v = .ref p ∧ p ≠ D ∧ p ≠ z ∧ upd H4 D (.lst (acc ++ [.ref p4])) p = some (.lst (r.map V.int))) acc (rs.take i) := hr.mono fun v r0 ⟨a0, e, n, nz, h⟩ => ⟨a0, e, n, nz, by rw [upd_ne n]; exact s4 _ _ h⟩
      exact m.append (Rows.one ⟨p4, rfl, np, nz, by rw [upd_ne np]; exact hp⟩)
  · rw [hl, List.take_length] at hr
    exact hr.mono fun v r ⟨p, e, _, nz, h⟩ => ⟨p, e, nz, h⟩
/-- one new row for each item of a tuple -/
theorem lc_rowsT {z : Addr} {xs : List V} (rs : List Row) (hl : xs.length = rs.length) (hz : H1 z ≠ none) (hD : H1 D = none) (hn : rs.length ≤ 1000) (hS : H1 a = some (.tup xs))
    (hs : ∀ (i : Nat) (x : V) (r : Row) (H : Hp) (N : VK), xs[i]? = some x → rs[i]? = some r → Same H1 H → H D ≠ none → (∀ H4 p, Same H H4 → H4 p = some (.lst (r.map V.int)) → p ≠ D → p ≠ z → N (.ref p) H4) → g x (wipe σ vs) H fun σ2 H2 => wipe σ2 vs = wipe σ vs ∧ te σ2 H2 N)
    (hd : ∀ H, Same H1 H → LX z H D rs → Qd H) :
    ∃ W : Nat → Nat → Hp → Prop, (∃ m, W 0 m (upd H1 D (.lst []))) ∧ ∀ i m H, W i m H →
      ((Itt K a).stop i H ∧ Qd H) ∨ ((Itt K a).go i H ∧ ∃ Nx : Hp → Prop, (∀ H', Nx H' → ∃ m', m' < m ∧ W (i + 1) m' H') ∧ ∀ x H', (Itt K a).yld i H x H' → g x (wipe σ vs) H' fun σ2 H2 => wipe σ2 vs = wipe σ vs ∧ tYes σ2 H2 fun b H3 =>
        if b = true then te σ2 H3 fun y H4 => ∃ acc, H4 D = some (.lst acc) ∧ acc.length < sizeLine ∧ Nx (upd H4 D (.lst (acc ++ [y]))) else Nx H3) := by
  refine lc_tup (K := K) (a := a) (xs := xs) (fun i H => Same H1 H ∧ i ≤ rs.length ∧ ∃ acc, H D = some (.lst acc) ∧ Rows (fun v r => ∃ p, v = .ref p ∧ p ≠ D ∧ p ≠ z ∧ H p = some (.lst (r.map V.int))) acc (rs.take i)) ⟨same_new hD _, Nat.zero_le _, [], upd_same, by rw [List.take_zero]; exact Rows.nil⟩ (fun i H _ h => SqT.of (h.1 _ _ hS)) (fun i x H hx ⟨s, hi, acc, hd, hr⟩ => ?_) (fun H ⟨s, _, acc, h, hr⟩ => hd H s ⟨fun e => hz (e ▸ hD), acc, h, ?_⟩)
  · obtain ⟨r, hri⟩ := some_of hl hx
    have hi' := (List.getElem?_eq_some_iff.mp hri).1
    refine hs i x r H _ hx hri s (by rw [hd]; intro z; cases z) (fun H4 p4 s4 hp np nz => ?_)
    have hd4 := s4 _ _ hd
    refine ⟨acc, hd4, small1000 (by have := hr.1; rw [List.length_take] at this; omega), fun b o q => ?_, by omega, acc ++ [.ref p4], upd_same, ?_⟩
    · rw [upd_ne (ne_of_none q hD)]
      exact s4 b o (s b o q)
    · rw [List.take_add_one, hri]
      have m : Rows (fun v r => ∃ p, v = .ref p ∧ p ≠ D ∧ p ≠ z ∧ upd H4 D (.lst (acc ++ [.ref p4])) p = some (.lst (r.map V.int))) acc (rs.take i) := hr.mono fun v r0 ⟨a0, e, n, nz, h⟩ => ⟨a0, e, n, nz, by rw [upd_ne n]; exact s4 _ _ h⟩
      exact m.append (Rows.one ⟨p4, rfl, np, nz, by rw [upd_ne np]; exact hp⟩)
  · rw [hl, List.take_length] at hr
    exact hr.mono fun v r ⟨p, e, _, nz, h⟩ => ⟨p, e, nz, h⟩
/-- some rows of a list -/
theorem lc_sel {tt : L2.TT} {z : Addr} {xs : List V} {rs : List Row} (pk : Row → Bool) (hz : H1 z ≠ none) (hD : H1 D = none) (hn : rs.length ≤ 1000) (hS : SqL K H1 a xs) (hR : Rows (RowX z H1) xs rs)
    (hs : ∀ (i : Nat) (x : V) (r : Row) (H : Hp) (N1 : VK) (N0 : Hp → Prop), xs[i]? = some x → rs[i]? = some r → RowX z H x r → Same H1 H → (∀ H4, Same H H4 → pk r = true → N1 x H4) → (∀ H4, Same H H4 → pk r = false → N0 H4) →
      g x (wipe σ vs) H fun σ2 H2 => wipe σ2 vs = wipe σ vs ∧ tt σ2 H2 fun bb H3 => if bb = true then te σ2 H3 N1 else N0 H3)
    (hd : ∀ H, Same H1 H → LX z H D (rs.filter pk) → Qd H) :
    ∃ W : Nat → Nat → Hp → Prop, (∃ m, W 0 m (upd H1 D (.lst []))) ∧ ∀ i m H, W i m H →
      ((Itl K a).stop i H ∧ Qd H) ∨ ((Itl K a).go i H ∧ ∃ Nx : Hp → Prop, (∀ H', Nx H' → ∃ m', m' < m ∧ W (i + 1) m' H') ∧ ∀ x H', (Itl K a).yld i H x H' → g x (wipe σ vs) H' fun σ2 H2 => wipe σ2 vs = wipe σ vs ∧ tt σ2 H2 fun b H3 =>
        if b = true then te σ2 H3 fun y H4 => ∃ acc, H4 D = some (.lst acc) ∧ acc.length < sizeLine ∧ Nx (upd H4 D (.lst (acc ++ [y]))) else Nx H3) := by
  refine lc_list (K := K) (a := a) (xs := xs) (fun i H => Same H1 H ∧ i ≤ rs.length ∧ ∃ acc, H D = some (.lst acc) ∧ acc.length ≤ i ∧ Rows (RowX z H1) acc ((rs.take i).filter pk)) ⟨same_new hD _, Nat.zero_le _, [], upd_same, Nat.le_refl _, by rw [List.take_zero]; exact Rows.nil⟩ (fun i H _ h => h.1.seq hS) (fun i x H hx ⟨s, hi, acc, hd, hl, hr⟩ => ?_) (fun H ⟨s, _, acc, h, _, hr⟩ => hd H s ⟨fun e => hz (e ▸ hD), acc, h, ?_⟩)
  · obtain ⟨r, hri, hx1⟩ := hR.get hx
    have hi' := (List.getElem?_eq_some_iff.mp hri).1
    have e : (rs.take (i + 1)).filter pk = (rs.take i).filter pk ++ (if pk r = true then [r] else []) := by
      rw [List.take_add_one, hri, List.filter_append]
      congr 1
      show List.filter pk [r] = _
      rw [List.filter_cons]
      rfl
    refine hs i x r H _ _ hx hri (hx1.same s) s (fun H4 s4 c => ?_) (fun H4 s4 c => ⟨fun b o q => s4 b o (s b o q), by omega, acc, s4 _ _ hd, by omega, ?_⟩)
    · have hd4 := s4 _ _ hd
      refine ⟨acc, hd4, small1000 (by omega), fun b o q => ?_, by omega, acc ++ [x], upd_same, by rw [List.length_append, List.length_singleton]; omega, ?_⟩
      · rw [upd_ne (ne_of_none q hD)]
        exact s4 b o (s b o q)
      · rw [e, if_pos c]
        exact hr.append (Rows.one hx1)
    · rw [e, c, if_neg Bool.false_ne_true, List.append_nil]
      exact hr
  · rw [hR.1, List.take_length] at hr
    exact hr.mono fun v r h => h.same s
end

def nz (r : Row) : Bool := r.any fun x => x != 0
theorem nz_no {w : Nat} {q : Int} {r : Row} (_ : Res w q r) (h : nz r = false) (k : Nat) : gt r k = 0 := by
  unfold nz at h
  rw [List.any_eq_false] at h
  by_cases c : k < r.length
  · unfold gt
    rw [List.getD_eq_getElem?_getD, List.getElem?_eq_getElem c]
    have := h _ (List.getElem_mem c)
    exact Classical.byContradiction fun z => this (bne_iff_ne.mpr z)
  · exact gt_out (by omega)
section
variable {P : Program} {w : World} {K : PySem.W.Frag} {mg : Str → Option Value} {base : Heap}
def spLreduced : Sp := fun vs H Q _ => ∃ (q w : Nat) (a : Addr) (g : List Row), vs = [.int q, .int w, .ref a] ∧ q ∈ PL ∧ (TT H a g ∨ LT H a g) ∧ (∀ r, r ∈ g → Res w q r) ∧ w ≤ 12 ∧ g.length ≤ 10 ∧
  ∀ (t p l : Addr) (F : List Row) (ps : List Nat) (H' : Hp), H' t = some (.tup [.ref p, .ref l]) → LL H' p F → H' l = some (.lst (natsV ps)) → IsR w q F ps → (∀ x, Sol w q F x ↔ Sol w q g x) → F.length ≤ 12 → Same H H' → Q (.ref t) H'
theorem ok_lreduced (T : Top K mg) : FnOk P w K mg base CX0 2 T.f__law_reduced T.d__law_reduced ["q", "width", "rows"] spLreduced := by
  have G__law_cleared := ok_cleared (P := P) (w := w) (base := base) T
  have G__law_inverse := ok_linv (P := P) (w := w) (base := base) T
  refine T.F__law_reduced.ok scLreduced (fun vs H Q E h => ?_) (fun cdv A outer s H vs Q E hr h => ?_)
  · obtain ⟨_, _, _, _, rfl, _⟩ := h
    rfl
  obtain ⟨q, w, a, g, rfl, hq, hTL, hg, hw, hl, k⟩ := h
  have qr := pl_range q hq
  have q0 : (0 : Int) < q := by omega
  have G0 : Good w q g 0 [] [] g := Good.start hg
  rcases hTL with ⟨vs, ha, hv⟩ | ⟨vs, ha, hv⟩
  refine ⟨_, (pss_cons (ps_setLc (i := 3) (own := [("row", 4)]) (g := gName 4) (tt := tYes) rfl scLreduced.nd rfl rfl (sw_true rfl rfl rfl (by decide +kernel)) (pi_tup (pv 2)) (blkOk_by (own := [("row", 4)]) (N := ["q", "width", "rows", "left", "row", "found", "leads", "column", "some", "lead", "turned", "one"]) (sc := defScope s_Lreduced) (by decide +kernel)) (fun _ _ _ _ _ => (pg_name (i := 4) scLreduced.nd rfl (Or.inl rfl))) (fun _ _ _ _ _ => pts_nil) (fun _ _ _ _ _ => (pe_callTy (call_list_ofK K rfl) (by rfl) T.z_list (by decide +kernel) (pa_cons (pv 4) pa_nil))))
      (pss_cons (ps_set (i := 5) scLreduced.nd rfl (Or.inl rfl) (pe_lst pa_nil))
      (pss_cons (ps_set (i := 6) scLreduced.nd rfl (Or.inl rfl) (pe_lst pa_nil))
      (pss_cons (ps_for PassesOwn.never rfl (pi_range1 (by rfl) T.z_range (pa_cons (pv 1) pa_nil)) (pg_name (i := 7) scLreduced.nd rfl (Or.inr rfl)) (pss_cons (ps_setLc (i := 8) (own := [("row", 4)]) (g := gName 4)  rfl scLreduced.nd rfl rfl (sw_true rfl rfl rfl (by decide +kernel)) (pi_list (pv 3)) (blkOk_by (own := [("row", 4)]) (N := ["q", "width", "rows", "left", "row", "found", "leads", "column", "some", "lead", "turned", "one"]) (sc := defScope s_Lreduced) (by decide +kernel)) (fun _ _ _ _ _ => (pg_name (i := 4) scLreduced.nd rfl (Or.inl rfl))) (fun _ _ _ _ _ => (pts_one (pt_cmpR op_ne (pe_ix (show IxR _ (rIxL K) from ix_list) (pv 4) (pv 7) (fun _ _ => rfl)) pe_int (nomark _)))) (fun _ _ _ _ _ => (pv 4)))
      (pss_cons (ps_if (pt_cmpR op_eq (pe_callB call_len_seq (by rfl) T.z_len PySem.boot_len (pa_cons (pv 8) pa_nil)) pe_int (nomark _)) (pss_one ps_continue) pss_nil)
      (pss_cons (ps_set (i := 9) scLreduced.nd rfl (Or.inr rfl) (pe_ix ix_list (pv 8) pe_int (fun _ _ => rfl)))
      (pss_cons (ps_set (i := 10) scLreduced.nd rfl (Or.inr rfl) (pe_call G__law_inverse (hr.mono (by decide)) rfl T.m__law_inverse T.F__law_inverse.kp T.b__law_inverse .nil pass0 (pa_cons (pe_ix ix_list (pv 9) (pv 7) (fun _ _ => rfl)) (pa_cons (pv 0) pa_nil))))
      (pss_cons (ps_set (i := 9) scLreduced.nd rfl (Or.inr rfl) (pe_lc (own := [("one", 11)]) (g := gName 11) (tt := tYes) rfl scLreduced.nd (pi_list (pv 9)) (blkOk_by (own := [("one", 11)]) (N := ["q", "width", "rows", "left", "row", "found", "leads", "column", "some", "lead", "turned", "one"]) (sc := defScope s_Lreduced) (by decide +kernel)) (fun _ _ _ _ _ => (pg_name (i := 11) scLreduced.nd rfl (Or.inl rfl))) (fun _ _ _ _ _ => pts_nil) (fun _ _ _ _ _ => (pe_op op_modN (pe_callTy call_int1 (by rfl) T.z_int (by decide +kernel) (pa_cons (pe_op op_mul (pv 11) (pv 10)) pa_nil)) (pv 0)))))
      (pss_cons (ps_setLc (i := 3) (own := [("row", 4)]) (g := gName 4) (tt := tYes) rfl scLreduced.nd rfl rfl (sw_true rfl rfl rfl (by decide +kernel)) (pi_list (pv 3)) (blkOk_by (own := [("row", 4)]) (N := ["q", "width", "rows", "left", "row", "found", "leads", "column", "some", "lead", "turned", "one"]) (sc := defScope s_Lreduced) (by decide +kernel)) (fun _ _ _ _ _ => (pg_name (i := 4) scLreduced.nd rfl (Or.inl rfl))) (fun _ _ _ _ _ => pts_nil) (fun _ _ _ _ _ => (pe_call G__law_cleared (hr.mono (by decide)) rfl T.m__law_cleared T.F__law_cleared.kp T.b__law_cleared .nil pass0 (pa_cons (pv 0) (pa_cons (pv 4) (pa_cons (pv 9) (pa_cons (pv 7) pa_nil)))))))
      (pss_cons (ps_setLc (i := 3) (own := [("row", 4)]) (g := gName 4)  rfl scLreduced.nd rfl rfl (sw_true rfl rfl rfl (by decide +kernel)) (pi_list (pv 3)) (blkOk_by (own := [("row", 4)]) (N := ["q", "width", "rows", "left", "row", "found", "leads", "column", "some", "lead", "turned", "one"]) (sc := defScope s_Lreduced) (by decide +kernel)) (fun _ _ _ _ _ => (pg_name (i := 4) scLreduced.nd rfl (Or.inl rfl))) (fun _ _ _ _ _ => (pts_one (pt_cmpR op_gt (pe_callB (call_len_seqK K rfl) (by rfl) T.z_len PySem.boot_len (pa_cons (pe_lc (own := [("one", 11)]) (g := gName 11)  rfl scLreduced.nd (pi_listK K rfl (pv 4)) (blkOk_by (own := [("one", 11)]) (N := ["q", "width", "rows", "left", "row", "found", "leads", "column", "some", "lead", "turned", "one"]) (sc := relS _ (defScope s_Lreduced)) (by decide +kernel)) (fun _ _ _ _ _ => (pg_name (i := 11) scLreduced.nd rfl (Or.inl rfl))) (fun _ _ _ _ _ => (pts_one (pt_cmpR op_ne (pv 11) pe_int (nomark _)))) (fun _ _ _ _ _ => (pv 11))) pa_nil)) pe_int (nomark _)))) (fun _ _ _ _ _ => (pv 4)))
      (pss_cons (ps_set (i := 5) scLreduced.nd rfl (Or.inl rfl) (pe_op op_cat (pe_lc (own := [("row", 4)]) (g := gName 4) (tt := tYes) rfl scLreduced.nd (pi_list (pv 5)) (blkOk_by (own := [("row", 4)]) (N := ["q", "width", "rows", "left", "row", "found", "leads", "column", "some", "lead", "turned", "one"]) (sc := defScope s_Lreduced) (by decide +kernel)) (fun _ _ _ _ _ => (pg_name (i := 4) scLreduced.nd rfl (Or.inl rfl))) (fun _ _ _ _ _ => pts_nil) (fun _ _ _ _ _ => (pe_call G__law_cleared (hr.mono (by decide)) rfl T.m__law_cleared T.F__law_cleared.kp T.b__law_cleared .nil pass0 (pa_cons (pv 0) (pa_cons (pv 4) (pa_cons (pv 9) (pa_cons (pv 7) pa_nil))))))) (pe_lst (pa_cons (pv 9) pa_nil))))
      (pss_one (ps_expr (pe_bm PySem.F.plainAttrs_list PySem.F.slot_list_append PySem.F.type_list_append mt_append (pv 6) (pa_cons (pv 7) pa_nil)))))))))))))
      (pss_one (ps_ret (pe_tup (pa_cons (pv 5) (pa_cons (pv 6) pa_nil))))))))), ?_⟩
  walk_at "ss"
  refine ⟨⟨_, SqT.of ha⟩, ?_⟩
  intro D0 hD0
  refine lc_rowsT (K := K) (a := a) (z := a) (xs := vs) g hv.1 (by rw [ha]; intro z; cases z) hD0 (by omega) ha (fun i x r H1 N hx hri s1 hD1 n => ?_) (fun H1 s1 h1 => ?_)
  · obtain ⟨r', hr', b, rfl, hb⟩ := hv.get hx
    rw [hri] at hr'
    cases hr'
    refine ⟨rfl, ?_⟩
    walk_at "ss"
    refine ⟨_, _, rfl, .inr (SqT.of (s1 _ _ hb)), fun p hp => ?_⟩
    have nD : p ≠ D0 := fun e => hD1 (e ▸ hp)
    have na : p ≠ a := by
      intro e
      rw [e, s1 _ _ ha] at hp
      cases hp
    exact n _ p (same_new hp _) upd_same nD na
  rotate_left
  refine ⟨_, (pss_cons (ps_setLc (i := 3) (own := [("row", 4)]) (g := gName 4) (tt := tYes) rfl scLreduced.nd rfl rfl (sw_true rfl rfl rfl (by decide +kernel)) (pi_list (pv 2)) (blkOk_by (own := [("row", 4)]) (N := ["q", "width", "rows", "left", "row", "found", "leads", "column", "some", "lead", "turned", "one"]) (sc := defScope s_Lreduced) (by decide +kernel)) (fun _ _ _ _ _ => (pg_name (i := 4) scLreduced.nd rfl (Or.inl rfl))) (fun _ _ _ _ _ => pts_nil) (fun _ _ _ _ _ => (pe_callTy (call_list_ofK K rfl) (by rfl) T.z_list (by decide +kernel) (pa_cons (pv 4) pa_nil))))
      (pss_cons (ps_set (i := 5) scLreduced.nd rfl (Or.inl rfl) (pe_lst pa_nil))
      (pss_cons (ps_set (i := 6) scLreduced.nd rfl (Or.inl rfl) (pe_lst pa_nil))
      (pss_cons (ps_for PassesOwn.never rfl (pi_range1 (by rfl) T.z_range (pa_cons (pv 1) pa_nil)) (pg_name (i := 7) scLreduced.nd rfl (Or.inr rfl)) (pss_cons (ps_setLc (i := 8) (own := [("row", 4)]) (g := gName 4)  rfl scLreduced.nd rfl rfl (sw_true rfl rfl rfl (by decide +kernel)) (pi_list (pv 3)) (blkOk_by (own := [("row", 4)]) (N := ["q", "width", "rows", "left", "row", "found", "leads", "column", "some", "lead", "turned", "one"]) (sc := defScope s_Lreduced) (by decide +kernel)) (fun _ _ _ _ _ => (pg_name (i := 4) scLreduced.nd rfl (Or.inl rfl))) (fun _ _ _ _ _ => (pts_one (pt_cmpR op_ne (pe_ix (show IxR _ (rIxL K) from ix_list) (pv 4) (pv 7) (fun _ _ => rfl)) pe_int (nomark _)))) (fun _ _ _ _ _ => (pv 4)))
      (pss_cons (ps_if (pt_cmpR op_eq (pe_callB call_len_seq (by rfl) T.z_len PySem.boot_len (pa_cons (pv 8) pa_nil)) pe_int (nomark _)) (pss_one ps_continue) pss_nil)
      (pss_cons (ps_set (i := 9) scLreduced.nd rfl (Or.inr rfl) (pe_ix ix_list (pv 8) pe_int (fun _ _ => rfl)))
      (pss_cons (ps_set (i := 10) scLreduced.nd rfl (Or.inr rfl) (pe_call G__law_inverse (hr.mono (by decide)) rfl T.m__law_inverse T.F__law_inverse.kp T.b__law_inverse .nil pass0 (pa_cons (pe_ix ix_list (pv 9) (pv 7) (fun _ _ => rfl)) (pa_cons (pv 0) pa_nil))))
      (pss_cons (ps_set (i := 9) scLreduced.nd rfl (Or.inr rfl) (pe_lc (own := [("one", 11)]) (g := gName 11) (tt := tYes) rfl scLreduced.nd (pi_list (pv 9)) (blkOk_by (own := [("one", 11)]) (N := ["q", "width", "rows", "left", "row", "found", "leads", "column", "some", "lead", "turned", "one"]) (sc := defScope s_Lreduced) (by decide +kernel)) (fun _ _ _ _ _ => (pg_name (i := 11) scLreduced.nd rfl (Or.inl rfl))) (fun _ _ _ _ _ => pts_nil) (fun _ _ _ _ _ => (pe_op op_modN (pe_callTy call_int1 (by rfl) T.z_int (by decide +kernel) (pa_cons (pe_op op_mul (pv 11) (pv 10)) pa_nil)) (pv 0)))))
      (pss_cons (ps_setLc (i := 3) (own := [("row", 4)]) (g := gName 4) (tt := tYes) rfl scLreduced.nd rfl rfl (sw_true rfl rfl rfl (by decide +kernel)) (pi_list (pv 3)) (blkOk_by (own := [("row", 4)]) (N := ["q", "width", "rows", "left", "row", "found", "leads", "column", "some", "lead", "turned", "one"]) (sc := defScope s_Lreduced) (by decide +kernel)) (fun _ _ _ _ _ => (pg_name (i := 4) scLreduced.nd rfl (Or.inl rfl))) (fun _ _ _ _ _ => pts_nil) (fun _ _ _ _ _ => (pe_call G__law_cleared (hr.mono (by decide)) rfl T.m__law_cleared T.F__law_cleared.kp T.b__law_cleared .nil pass0 (pa_cons (pv 0) (pa_cons (pv 4) (pa_cons (pv 9) (pa_cons (pv 7) pa_nil)))))))
      (pss_cons (ps_setLc (i := 3) (own := [("row", 4)]) (g := gName 4)  rfl scLreduced.nd rfl rfl (sw_true rfl rfl rfl (by decide +kernel)) (pi_list (pv 3)) (blkOk_by (own := [("row", 4)]) (N := ["q", "width", "rows", "left", "row", "found", "leads", "column", "some", "lead", "turned", "one"]) (sc := defScope s_Lreduced) (by decide +kernel)) (fun _ _ _ _ _ => (pg_name (i := 4) scLreduced.nd rfl (Or.inl rfl))) (fun _ _ _ _ _ => (pts_one (pt_cmpR op_gt (pe_callB (call_len_seqK K rfl) (by rfl) T.z_len PySem.boot_len (pa_cons (pe_lc (own := [("one", 11)]) (g := gName 11)  rfl scLreduced.nd (pi_listK K rfl (pv 4)) (blkOk_by (own := [("one", 11)]) (N := ["q", "width", "rows", "left", "row", "found", "leads", "column", "some", "lead", "turned", "one"]) (sc := relS _ (defScope s_Lreduced)) (by decide +kernel)) (fun _ _ _ _ _ => (pg_name (i := 11) scLreduced.nd rfl (Or.inl rfl))) (fun _ _ _ _ _ => (pts_one (pt_cmpR op_ne (pv 11) pe_int (nomark _)))) (fun _ _ _ _ _ => (pv 11))) pa_nil)) pe_int (nomark _)))) (fun _ _ _ _ _ => (pv 4)))
      (pss_cons (ps_set (i := 5) scLreduced.nd rfl (Or.inl rfl) (pe_op op_cat (pe_lc (own := [("row", 4)]) (g := gName 4) (tt := tYes) rfl scLreduced.nd (pi_list (pv 5)) (blkOk_by (own := [("row", 4)]) (N := ["q", "width", "rows", "left", "row", "found", "leads", "column", "some", "lead", "turned", "one"]) (sc := defScope s_Lreduced) (by decide +kernel)) (fun _ _ _ _ _ => (pg_name (i := 4) scLreduced.nd rfl (Or.inl rfl))) (fun _ _ _ _ _ => pts_nil) (fun _ _ _ _ _ => (pe_call G__law_cleared (hr.mono (by decide)) rfl T.m__law_cleared T.F__law_cleared.kp T.b__law_cleared .nil pass0 (pa_cons (pv 0) (pa_cons (pv 4) (pa_cons (pv 9) (pa_cons (pv 7) pa_nil))))))) (pe_lst (pa_cons (pv 9) pa_nil))))
      (pss_one (ps_expr (pe_bm PySem.F.plainAttrs_list PySem.F.slot_list_append PySem.F.type_list_append mt_append (pv 6) (pa_cons (pv 7) pa_nil)))))))))))))
      (pss_one (ps_ret (pe_tup (pa_cons (pv 5) (pa_cons (pv 6) pa_nil))))))))), ?_⟩
  walk_at "ss"
  refine ⟨⟨_, SqL.of ha⟩, ?_⟩
  intro D0 hD0
  refine lc_rowsX (K := K) (a := a) (z := a) (xs := vs) g hv.1 (by rw [ha]; intro z; cases z) hD0 (by omega) (SqL.of ha) (fun i x r H1 N hx hri s1 hD1 n => ?_) (fun H1 s1 h1 => ?_)
  · obtain ⟨r', hr', b, rfl, hb⟩ := hv.get hx
    rw [hri] at hr'
    cases hr'
    refine ⟨rfl, ?_⟩
    walk_at "ss"
    refine ⟨_, _, rfl, .inr (SqT.of (s1 _ _ hb)), fun p hp => ?_⟩
    have nD : p ≠ D0 := fun e => hD1 (e ▸ hp)
    have na : p ≠ a := by
      intro e
      rw [e, s1 _ _ ha] at hp
      cases hp
    exact n _ p (same_new hp _) upd_same nD na
  all_goals
    walk_at "ss"
    intro f0 hf0
    walk_at "ss"
    intro ld hld
    have h2 : LX ld (upd (upd H1 f0 (.lst [])) ld (.lst [])) D0 g := (h1.LL.same (same_new hf0 _)).X hld
    have h3 : LX ld (upd (upd H1 f0 (.lst [])) ld (.lst [])) f0 [] := (show LL (upd H1 f0 (.lst [])) f0 [] from ⟨[], upd_same, Rows.nil⟩).X hld
    have s3 : Same H (upd (upd H1 f0 (.lst [])) ld (.lst [])) := s1.trans ((same_new hf0 _).trans (same_new hld _))
    have hln : H ld = none := (s1.trans (same_new hf0 _)).free hld
    have h4 : upd (upd H1 f0 (.lst [])) ld (.lst []) ld = some (.lst []) := upd_same
    walk_at "ss"
    refine for_range (n := w) (fun i σ H2 => ∃ (v7 v8 v9 v10 : Option V) (pl pf : Addr) (F : List Row) (ps : List Nat) (L : List Row), σ = [some (.int q), some (.int w), some (.ref a), some (.ref pl), none, some (.ref pf), some (.ref ld), v7, v8, v9, v10, none] ∧
        Same H H2 ∧ LX ld H2 pl L ∧ LX ld H2 pf F ∧ H2 ld = some (.lst (natsV ps)) ∧ Good w q g i F ps L ∧ F.length ≤ i ∧ L.length ≤ 10)
      ⟨_, _, _, _, D0, f0, [], [], g, rfl, s3, h2, h3, h4, G0, Nat.le_refl _, hl⟩ ?_ ?_
    · rintro i σ H2 hi ⟨v7, v8, v9, v10, pl, pf, F, ps, L, rfl, s2, hL, hF, hld2, G, hFl, hLl⟩
      rw [Int.zero_add]
      have hznn : ∀ H3, Same H2 H3 → H3 ld ≠ none := fun H3 s z => by rw [s _ _ hld2] at z; cases z
      obtain ⟨npl, lvs, hpl, hLv⟩ := id hL
      walk_at "ss"
      refine ⟨⟨_, SqL.of hpl⟩, ?_⟩
      intro D1 hD1
      refine lc_sel (K := K) (a := pl) (z := ld) (xs := lvs) (rs := L) (fun r => decide (gt r i ≠ 0)) (hznn _ (Same.refl _)) hD1 (by omega) (SqL.of hpl) hLv (fun j x r H3 N1 N0 hx hri hR s3 n1 n0 => ?_) (fun H3 s3 hS => ?_)
      · obtain ⟨b, rfl, _, hb⟩ := hR
        have hres := G.resL r (List.mem_of_getElem? hri)
        refine ⟨rfl, ?_⟩
        walk_at "ss"
        refine ⟨_, _, _, _, rfl, rfl, SqL.of hb, atI_intN (by rw [hres.len]; exact hi), ?_⟩
        walk_at "ss"
        refine ite2 (fun c => ?_) (fun c => ?_)
        · walk_at "ss"
          exact n1 _ (Same.refl _) (decide_eq_true (ne_yes c))
        · exact n0 _ (Same.refl _) (decide_eq_false (fun z => z (ne_no c)))
      obtain ⟨nD1, svs, hsv, hSv⟩ := id hS
      walk_at "ss"
      refine ite2 (fun c => ?_) (fun c => ?_)
      · have c' : svs.length = 0 := by
          have := V.int.inj (of_decide_eq_true c)
          omega
        have hz : ∀ r, r ∈ L → gt r i = 0 := fun r hr => by
          have e : L.filter (fun r => decide (gt r i ≠ 0)) = [] := List.length_eq_zero_iff.mp (by rw [← hSv.1]; exact c')
          have := List.filter_eq_nil_iff.mp e r hr
          exact Classical.byContradiction fun z => this (decide_eq_true z)
        walk_at "ss"
        exact ⟨_, _, _, _, pl, pf, F, ps, L, rfl, s2.trans s3, hL.same s3, hF.same s3, s3 _ _ hld2, G.skip hz, by omega, hLl⟩
      · have hne : 0 < (L.filter (fun r => decide (gt r i ≠ 0))).length := by
          rw [← hSv.1]
          exact Nat.pos_of_ne_zero fun z => c (decide_eq_true (by rw [z]; rfl))
        obtain ⟨v0, hv0, hR0⟩ := hSv.at0 hne
        obtain ⟨lead, hlead⟩ : ∃ lead, lead = (L.filter (fun r => decide (gt r i ≠ 0)))[0] := ⟨_, rfl⟩
        rw [← hlead] at hR0
        have hlm : lead ∈ L.filter (fun r => decide (gt r i ≠ 0)) := by rw [hlead]; exact List.getElem_mem _
        obtain ⟨hlL, hl0⟩ := List.mem_filter.mp hlm
        have hl0 := of_decide_eq_true hl0
        have hlr := G.resL lead hlL
        have hbb := hlr.bnd i
        obtain ⟨b0, rfl, _, hb0⟩ := hR0
        walk_at "ss"
        refine ⟨_, _, _, _, rfl, rfl, SqL.of hsv, atI_nat (j := 0) hv0, ?_⟩
        walk_at "ss"
        refine ⟨_, _, _, _, rfl, rfl, SqL.of hb0, atI_intN (by rw [hlr.len]; exact hi), ?_⟩
        walk_at "ss"
        refine ⟨q, gt lead i, rfl, hq, by omega, by omega, fun b H4 hbq hb1 s4 => ?_⟩
        walk_at "ss"
        have s24 := s3.trans s4
        refine ⟨⟨_, SqL.of (s4 _ _ hb0)⟩, ?_⟩
        intro D2 hD2
        refine lc_funL (K := K) (a := b0) (r := lead) (fun k => (gt lead k * b) % (q : Int)) hD2 (by rw [hlr.len]; omega) (SqL.of (s4 _ _ hb0)) (fun k H5 N hk s5 n => ?_) (fun H5 s5 h5 => ?_)
        · refine ⟨rfl, ?_⟩
          have bk := hlr.bnd k
          walk_at "ss"
          have g := n H5 (Same.refl H5)
          rw [← fmod_eq q0] at g
          exact g
        rw [hlr.len] at h5
        obtain ⟨ld2, eld2⟩ : ∃ ld2, ld2 = scl w q b lead := ⟨_, rfl⟩
        replace h5 : H5 D2 = some (.lst (ld2.map V.int)) := by rw [eld2]; exact h5
        have ld2r : Res w q ld2 := by rw [eld2]; exact Res.of_mk q0 _
        have s25 := s24.trans s5
        have nD2 : D2 ≠ ld := fun e => hznn _ s24 (e ▸ hD2)
        walk_at "ss"
        refine ⟨⟨_, SqL.of (s25 _ _ hpl)⟩, ?_⟩
        intro D3 hD3
        refine lc_rowsX (K := K) (a := pl) (z := ld) (xs := lvs) (L.map (clr w q i ld2)) (by rw [List.length_map]; exact hLv.1) (hznn _ s25) hD3 (by rw [List.length_map]; omega) (SqL.of (s25 _ _ hpl)) (fun m x r H6 N hx hri s6 hD6 n => ?_) (fun H6 s6 h6 => ?_)
        · obtain ⟨r0, hr0, b1, rfl, _, hb1⟩ := hLv.get hx
          rw [List.getElem?_map, hr0] at hri
          cases hri
          refine ⟨rfl, ?_⟩
          walk_at "ss"
          refine ⟨q, w, i, b1, D2, r0, ld2, rfl, hq, s6 _ _ (s25 _ _ hb1), s6 _ _ h5, G.resL r0 (List.mem_of_getElem? hr0), ld2r.len, hi, by omega, fun p H7 hp s7 h7 => ?_⟩
          exact n H7 p s7 h7 (fun e => hD6 (e ▸ hp)) (fun e => hznn _ (s25.trans s6) (e ▸ hp))
        have s26 := s25.trans s6
        obtain ⟨nD3, mvs, hmv, hMv⟩ := id h6
        walk_at "ss"
        refine ⟨⟨_, SqL.of hmv⟩, ?_⟩
        intro D4 hD4
        refine lc_sel (K := K) (a := D3) (z := ld) (xs := mvs) (rs := L.map (clr w q i ld2)) nz (hznn _ s26) hD4 (by rw [List.length_map]; omega) (SqL.of hmv) hMv (fun m x r H7 N1 N0 hx hri hR s7 n1 n0 => ?_) (fun H7 s7 h7 => ?_)
        · obtain ⟨b1, rfl, _, hb1⟩ := hR
          refine ⟨rfl, ?_⟩
          walk_at "ss"
          refine ⟨⟨_, SqL.of hb1⟩, ?_⟩
          intro D5 hD5
          have rl : r.length = w := by
            rw [List.getElem?_map] at hri
            cases e : L[m]? with
            | none => rw [e] at hri; cases hri
            | some r0 =>
              rw [e] at hri
              cases hri
              exact mk_len _ _
          refine lc_list (K := K) (a := b1) (xs := r.map V.int) (fun u H8 => Same H7 H8 ∧ ∃ acc : List V, H8 D5 = some (.lst acc) ∧ acc.length ≤ u ∧ (acc ≠ [] ↔ (r.take u).any (fun x => x != 0) = true)) ⟨same_new hD5 _, [], upd_same, Nat.le_refl _, by simp⟩ (fun u H8 _ h => SqL.of (h.1 _ _ hb1)) ?_ ?_
          · rintro u y H8 hy ⟨s8, acc, hd, hal, hac⟩
            obtain ⟨rfl, hu⟩ := entry_at hy
            have tk : r.take (u + 1) = r.take u ++ [gt r u] := by
              rw [List.take_add_one, List.getElem?_eq_getElem hu]
              unfold gt
              rw [List.getD_eq_getElem?_getD, List.getElem?_eq_getElem hu]
              rfl
            refine ⟨rfl, ?_⟩
            walk_at "ss"
            refine ite2 (fun c => ?_) (fun c => ?_)
            · walk_at "ss"
              refine ⟨_, hd, small1000 (by omega), fun o u e => ?_, acc ++ [.int (gt r u)], upd_same, by rw [List.length_append, List.length_singleton]; omega, fun _ => ?_, fun _ h => by simp at h⟩
              · rw [upd_ne (ne_of_none e hD5)]
                exact s8 o u e
              · rw [tk, List.any_append]
                have : (gt r u != 0) = true := bne_iff_ne.mpr (ne_yes c)
                simp [this]
            · refine ⟨s8, acc, hd, by omega, hac.trans ?_⟩
              rw [tk, List.any_append]
              have : (gt r u != 0) = false := by rw [ne_no c]; rfl
              simp [this]
          · rintro H8 ⟨s8, acc, hd, hal, hac⟩
            rw [List.length_map, List.take_length] at hac
            walk_at "ss"
            refine ite2 (fun c => ?_) (fun c => ?_)
            · walk_at "ss"
              refine n1 _ s8 (hac.mp fun e => ?_)
              have := of_decide_eq_true c
              rw [e] at this
              simp at this
            · refine n0 _ s8 (Bool.eq_false_iff.mpr fun e => c (decide_eq_true ?_))
              have := List.length_pos_iff.mpr (hac.mpr e)
              omega
        have s27 := s26.trans s7
        obtain ⟨npf, fvs, hpf, hFv⟩ := id hF
        have hfl := hFv.1
        walk_at "ss"
        refine ⟨⟨_, SqL.of (s27 _ _ hpf)⟩, ?_⟩
        intro D6 hD6
        refine lc_rowsX (K := K) (a := pf) (z := ld) (xs := fvs) (F.map (clr w q i ld2)) (by rw [List.length_map]; exact hFv.1) (hznn _ s27) hD6 (by rw [List.length_map]; omega) (SqL.of (s27 _ _ hpf)) (fun m x r H8 N hx hri s8 hD8 n => ?_) (fun H8 s8 h8 => ?_)
        · obtain ⟨r0, hr0, b1, rfl, _, hb1⟩ := hFv.get hx
          rw [List.getElem?_map, hr0] at hri
          cases hri
          refine ⟨rfl, ?_⟩
          walk_at "ss"
          refine ⟨q, w, i, b1, D2, r0, ld2, rfl, hq, s8 _ _ (s27 _ _ hb1), s8 _ _ (s7 _ _ (s6 _ _ h5)), G.resF r0 (List.mem_of_getElem? hr0), ld2r.len, hi, by omega, fun p H9 hp s9 h9 => ?_⟩
          exact n H9 p s9 h9 (fun e => hD8 (e ▸ hp)) (fun e => hznn _ (s27.trans s8) (e ▸ hp))
        have s28 := s27.trans s8
        obtain ⟨nD6, wvs, hwv, hWv⟩ := id h8
        have hwl := hWv.1
        rw [List.length_map] at hwl
        walk_at "ss"
        intro b9 hb9
        have s9 := same_new hb9 (.lst [.ref D2])
        have hD29 : (upd H8 b9 (.lst [.ref D2])) D2 = some (.lst (ld2.map V.int)) := s9 _ _ (s8 _ _ (s7 _ _ (s6 _ _ h5)))
        refine ⟨_, _, _, _, rfl, rfl, s9 _ _ hwv, upd_same, Nat.le_of_lt (small1000 (by simp; omega)), fun p3 hp3 => ?_⟩
        have s10 := same_new hp3 (.lst (wvs ++ [.ref D2]))
        have s210 := s28.trans (s9.trans s10)
        have n3 : p3 ≠ ld := fun e => hznn _ (s28.trans s9) (e ▸ hp3)
        have h10 : LX ld (upd (upd H8 b9 (.lst [.ref D2])) p3 (.lst (wvs ++ [.ref D2]))) p3 (F.map (clr w q i ld2) ++ [ld2]) := ⟨n3, _, upd_same, (hWv.mono fun v r h => h.same (s9.trans s10)).append (Rows.one ⟨D2, rfl, nD2, s10 _ _ hD29⟩)⟩
        have hldx := s210 _ _ hld2
        walk_at "ss"
        refine ⟨.inl ⟨rfl, _, SqL.of hldx⟩, ?_⟩
        walk_at "ss"
        refine ⟨_, _, _, rfl, rfl, hldx, small1000 (by unfold natsV; rw [List.length_map, ← G.len]; omega), ?_⟩
        have gp : Good w q g (i + 1) (F.map (clr w q i ld2) ++ [ld2]) (ps ++ [i]) ((L.map (clr w q i ld2)).filter nz) := by
          rw [eld2]
          refine G.pivot (by omega) hi hlL hb1 (fun r' hr' => ?_) (fun r hr => ?_)
          · obtain ⟨h1, _⟩ := List.mem_filter.mp hr'
            obtain ⟨r, hr, e⟩ := List.mem_map.mp h1
            exact ⟨r, hr, e.symm⟩
          · cases c : nz (clr w q i (scl w q b lead) r) with
            | true => exact .inr (.inl (List.mem_filter.mpr ⟨List.mem_map.mpr ⟨r, hr, rfl⟩, c⟩))
            | false => exact .inr (.inr fun k _ => nz_no (Res.of_mk q0 _) c k)
        have hll : ((L.map (clr w q i ld2)).filter nz).length ≤ 10 := Nat.le_trans (List.length_filter_le _ _) (by rw [List.length_map]; exact hLl)
        refine ⟨_, _, _, _, D4, p3, _, _, _, rfl, fun o u e => ?_, ((h7.same s8).same (s9.trans s10)).put, h10.put, by rw [upd_same, natsV, natsV, List.map_append]; rfl, gp, by rw [List.length_append, List.length_map, List.length_singleton]; omega, hll⟩
        have no : o ≠ ld := fun z => by rw [z, hln] at e; cases e
        rw [upd_ne no]
        exact s210 _ _ (s2 _ _ e)
    · rintro σ H2 ⟨v7, v8, v9, v10, pl, pf, F, ps, L, rfl, s2, hL, hF, hld2, G, hFl, hLl⟩
      walk_at "ss"
      intro t ht
      have st := same_new ht (.tup [.ref pf, .ref ld])
      exact k t pf ld F ps _ upd_same (hF.LL.same st) (st _ _ hld2) G.done.1 G.done.2 (by omega) (s2.trans st)
end
section
variable {P : Program} {w : World} {K : PySem.W.Frag} {mg : Str → Option Value} {base : Heap}
/-- b is the inverse of a -/
def IsInv (q : Nat) (a : Int) (b : Nat) : Prop := b < q ∧ ((a % (q : Int)).toNat * b) % q = 1
theorem IsInv.uniq {q : Nat} {a : Int} {b c : Nat} (h : IsInv q a b) (k : IsInv q a c) : b = c := inv_uniq h.1 k.1 h.2 k.2
theorem two_int {a b : Int} (h : a = b) : [V.int a, V.int b] = [V.int a, V.int a] := by rw [h]
theorem IsInv.mul {q : Nat} {a : Int} {b : Nat} (h : IsInv q a b) : a * (b : Int) % (q : Int) = 1 := by
  have q0 : 0 < q := by have := h.1; omega
  have a0 := Int.emod_nonneg a (show (q : Int) ≠ 0 by omega)
  have e : (((a % (q : Int)).toNat * b % q : Nat) : Int) = 1 := by rw [h.2]; rfl
  rw [Int.natCast_emod, Int.natCast_mul, Int.toNat_of_nonneg a0] at e
  rw [Int.mul_emod, Int.emod_emod_of_dvd _ (Int.dvd_refl _), ← Int.mul_emod] at e
  exact e
/-- inverse hands back the inverse, or raises NoInverse -/
def spInverse (C : Addr) : Sp := fun vs H Q E => ∃ (a : Int) (q : Nat), vs = [.int a, .int q] ∧ q ∈ PL ∧ (a % (q : Int) ≠ 0 → ∀ (b : Nat) (H' : Hp), IsInv q a b → Same H H' → Q (.int b) H') ∧ (a % (q : Int) = 0 → E (.ref C) none H)
theorem to_inv {q : Nat} {a x : Int} (hq : q ∈ PL) (h : (x * a - 1) % (q : Int) = 0) : IsInv q a (x % (q : Int)).toNat := by
  have r := pl_range q hq
  have hx0 := Int.emod_nonneg x (show (q : Int) ≠ 0 by omega)
  have hx1 := Int.emod_lt_of_pos x (show 0 < (q : Int) by omega)
  have ha0 := Int.emod_nonneg a (show (q : Int) ≠ 0 by omega)
  refine ⟨by omega, ?_⟩
  have e : (((a % (q : Int)).toNat * (x % (q : Int)).toNat % q : Nat) : Int) = 1 := by
    rw [Int.natCast_emod, Int.natCast_mul, Int.toNat_of_nonneg ha0, Int.toNat_of_nonneg hx0, ← Int.mul_emod, Int.mul_comm]
    have h2 : x * a % (q : Int) = ((x * a - 1) + 1) % (q : Int) := by
      congr 1
      omega
    rw [h2, Int.add_emod, h, Int.zero_add, Int.emod_emod_of_dvd _ (Int.dvd_refl _)]
    exact Int.emod_eq_of_lt (by decide) (by omega)
  omega
theorem eg_start {q : Nat} {a : Int} (hq : q ∈ PL) (h : a % (q : Int) ≠ 0) : Eg q a q (a % q) 0 1 := by
  have r := pl_range q hq
  have h0 := Int.emod_nonneg a (show (q : Int) ≠ 0 by omega)
  have h1 := Int.emod_lt_of_pos a (show 0 < (q : Int) by omega)
  refine ⟨by omega, h1, Int.le_refl _, ?_, ?_, ?_⟩
  · have := pl_gcd0 q hq (a % (q : Int)).toNat (by omega) (by omega)
    have e : (a % (q : Int)) = (((a % (q : Int)).toNat : Nat) : Int) := by omega
    rw [e, Int.gcd_natCast_natCast]
    exact this
  · rw [Int.zero_mul, Int.zero_sub, Int.neg_emod_self]
  · rw [Int.one_mul, Int.sub_emod, Int.emod_emod_of_dvd _ (Int.dvd_refl _), Int.sub_self]
    rfl
theorem ok_inverse (T : Top K mg) : FnOk P w K mg base (L2.CX P w) 1 T.f_inverse T.d_inverse ["a", "q"] (spInverse T.c_NoInverse) := by
  refine T.F_inverse.okX scinverse (fun vs H Q E h => ?_) (fun cdv A outer s H vs Q E hr h => ?_)
  · obtain ⟨_, _, rfl, _⟩ := h
    rfl
  obtain ⟨a, q, rfl, hq, h1, h2⟩ := h
  have r := pl_range q hq
  have fe : a.fmod (q : Int) = a % (q : Int) := Int.fmod_eq_emod_of_nonneg _ (by omega)
  refine ⟨_, (pss_cons (ps_par (i := 2) (j := 3) (by rfl) scinverse.nd rfl rfl (by decide) rfl rfl (pa_cons (pv 1) (pa_cons (pe_op op_modN (pv 0) (pv 1)) pa_nil)) (by rfl))
      (pss_cons (ps_if (pt_cmpR op_eq (pv 3) pe_int (nomark _)) (pss_one (ps_raise rfl (takes_of rfl rfl rfl rfl) (pmk_own0 PySem.F.excBase_ValueError T.x_NoInverse T.m_NoInverse T.kc_NoInverse (raises_own T.s_NoInverse T.t_NoInverse) rfl))) pss_nil)
      (pss_cons (ps_asg (pe_tup (pa_cons pe_int (pa_cons pe_int pa_nil))) (pg_tup (by rfl) (pgs_cons (pg_name (i := 4) scinverse.nd rfl (Or.inl rfl)) (pgs_cons (pg_name (i := 5) scinverse.nd rfl (Or.inl rfl)) pgs_nil))))
      (pss_cons (ps_while (passes_of rfl) (pt_cmpR op_ne (pv 3) pe_int (nomark _)) (pss_cons (ps_set (i := 6) scinverse.nd rfl (Or.inl rfl) (pe_op op_fdivN (pv 2) (pv 3)))
      (pss_cons (ps_par (i := 2) (j := 3) (by rfl) scinverse.nd rfl rfl (by decide) rfl rfl (pa_cons (pv 3) (pa_cons (pe_op op_sub (pv 2) (pe_op op_mul (pv 6) (pv 3))) pa_nil)) (by rfl))
      (pss_one (ps_par (i := 4) (j := 5) (by rfl) scinverse.nd rfl rfl (by decide) rfl rfl (pa_cons (pv 5) (pa_cons (pe_op op_sub (pv 4) (pe_op op_mul (pv 6) (pv 5))) pa_nil)) (by rfl))))))
      (pss_one (ps_ret (pe_op op_modN (pv 5) (pv 1)))))))), ?_⟩
  walk_at "ss"
  refine ⟨_, _, rfl, ?_⟩
  walk_at "ss"
  refine ite2 (fun c => ?_) (fun c => ?_)
  · have c' : a.fmod (q : Int) = 0 := by
      have := of_decide_eq_true c
      injection this
    rw [fe] at c'
    exact h2 c'
  · have c' : a % (q : Int) ≠ 0 := by
      intro z
      apply c
      show decide (V.int (a.fmod (q : Int)) = V.int 0) = true
      rw [fe, z]
      rfl
    walk_at "ss"
    intro p hp
    have sp := same_new hp (.tup [.int 0, .int 1])
    refine ⟨_, _, rfl, SqT.of upd_same, rfl, ?_⟩
    refine ⟨_, _, rfl, _, _, rfl, rfl, ?_⟩
    refine while_by (fun σ H2 => ∃ (l s lf sf : Int) (z : Option V), σ = [some (.int a), some (.int q), some (.int l), some (.int s), some (.int lf), some (.int sf), z] ∧ Same H H2 ∧ Eg q a l s lf sf)
      (fun σ _ => match σ with | [_, _, _, some (.int s), _, _, _] => s.toNat | _ => 0) ⟨q, a % q, 0, 1, none, ?_, sp, eg_start hq c'⟩ ?_ ?_
    · show List.set (List.set _ _ _) _ _ = _
      rw [← fe]
      rfl
    · rintro σ H2 ⟨l, s, lf, sf, z, rfl, s2, e⟩
      walk_at "ss"
      have s1 := e.s1
      have ls := e.ls
      have lq := e.lq
      by_cases hs : s = 1
      · subst hs
        walk_at "ss"
        have iv := to_inv hq (by have := e.hs; exact this)
        have g := h1 c' _ H2 iv s2
        have x0 := Int.emod_nonneg sf (show (q : Int) ≠ 0 by omega)
        have e3 : (((sf % (q : Int)).toNat : Nat) : Int) = sf.fmod (q : Int) := by
          rw [Int.toNat_of_nonneg x0, Int.fmod_eq_emod_of_nonneg _ (by omega)]
        rw [e3] at g
        exact g
      · have hd : decide (V.int s = V.int 1) = false := decide_eq_false fun z => hs (by injection z)
        have fd : l.fdiv s = l / s := Int.fdiv_eq_ediv_of_nonneg _ (by omega)
        have d0 : 0 ≤ l / s := Int.ediv_nonneg (by omega) (by omega)
        have d1 : l / s ≤ l := Int.ediv_le_self _ (by omega)
        have et := eg_turn e hs
        refine ite2 (fun _ => ?_) (fun c3 => (c3 (by rw [hd]; rfl)).elim)
        walk_at "ss"
        refine ⟨_, _, rfl, ?_⟩
        walk_at "ss"
        refine ⟨_, _, rfl, ⟨s, l - l.fdiv s * s, sf, lf - l.fdiv s * sf, some (.int (l.fdiv s)), rfl, s2, by rw [fd]; exact et⟩, ?_⟩
        show (l - l.fdiv s * s).toNat < s.toNat
        have := et.ls
        rw [fd]
        omega
    · rintro σ H2 Q1 Q2 hm h
      obtain ⟨v, hv, hs, k, e, q⟩ := h
      exact ⟨v, hv, hs, k, e, hm _ _ q⟩
end
section
variable {K : PySem.W.Frag} {a b : Addr} {g : TG} {te : TE} {vs : List Nat} {σ : L2.St} {H1 : Hp} {D : Addr} {Qd : Hp → Prop}
theorem lc_zipI {r s : Row} (f : Nat → Int) (hl : r.length = s.length) (hD : H1 D = none) (hn : r.length ≤ 1000) (hS : SqL K H1 a (r.map V.int)) (hS2 : SqL K H1 b (s.map V.int))
    (hs : ∀ (i : Nat) (T : Addr) (H : Hp) (N : VK), i < r.length → Same H1 H → H T = none → (∀ H4, Same H H4 → N (.int (f i)) H4) → g (.ref T) (wipe σ vs) (upd H T (.tup [.int (gt r i), .int (gt s i)])) fun σ2 H2 => wipe σ2 vs = wipe σ vs ∧ te σ2 H2 N)
    (hd : ∀ H, Same H1 H → H D = some (.lst ((mkr r.length f).map V.int)) → Qd H) :
    ∃ W : Nat → Nat → Hp → Prop, (∃ m, W 0 m (upd H1 D (.lst []))) ∧ ∀ i m H, W i m H →
      ((Itz K a b).stop i H ∧ Qd H) ∨ ((Itz K a b).go i H ∧ ∃ Nx : Hp → Prop, (∀ H', Nx H' → ∃ m', m' < m ∧ W (i + 1) m' H') ∧ ∀ x H', (Itz K a b).yld i H x H' → g x (wipe σ vs) H' fun σ2 H2 => wipe σ2 vs = wipe σ vs ∧ tYes σ2 H2 fun bb H3 =>
        if bb = true then te σ2 H3 fun y H4 => ∃ acc, H4 D = some (.lst acc) ∧ acc.length < sizeLine ∧ Nx (upd H4 D (.lst (acc ++ [y]))) else Nx H3) := by
  refine lc_it (walk_zip (K := K) (a := a) (b := b) (xs := r.map V.int) (ys := s.map V.int) (n := r.length) (by rw [List.length_map, List.length_map, ← hl, Nat.min_self])) (fun i H => i ≤ r.length ∧ Same H1 H ∧ H D = some (.lst ((mkr i f).map V.int))) ⟨Nat.zero_le _, same_new hD _, upd_same⟩ (fun i H _ h => ⟨h.2.1.seq hS, h.2.1.seq hS2⟩) (fun i x H H' hi ⟨_, s1, hd⟩ hY => ?_) (fun H ⟨_, s, h⟩ => hd H s h)
  obtain ⟨T, x1, y1, rfl, hT, rfl, hx, hy⟩ := hY
  obtain ⟨rfl, _⟩ := entry_at hx
  obtain ⟨rfl, _⟩ := entry_at hy
  refine hs i T H _ hi s1 hT (fun H4 s4 => ?_)
  refine ⟨_, s4 _ _ hd, by rw [List.length_map, mk_len]; exact small1000 (by omega), hi, fun b o q => ?_, by rw [upd_same, mkr_succ, List.map_append]; rfl⟩
  rw [upd_ne (ne_of_none q hD)]
  exact s4 b o (s1 b o q)
end
section
variable {P : Program} {w : World} {K : PySem.W.Frag} {mg : Str → Option Value} {base : Heap}
def spMinus : Sp := fun vs H Q _ => ∃ (q w c : Nat) (a l : Addr) (row ld : Row), vs = [.int q, .ref a, .int (gt row c), .ref l] ∧ q ∈ PL ∧ H a = some (.lst (row.map V.int)) ∧ H l = some (.lst (ld.map V.int)) ∧ Res w q row ∧ ld.length = w ∧ w ≤ 13 ∧
  ∀ (p : Addr) (H' : Hp), (p = a ∨ H p = none) → Same H H' → H' p = some (.lst ((clr w q c ld row).map V.int)) → Q (.ref p) H'
theorem ok_minus (T : Top K mg) : FnOk P w K mg base CX0 1 T.f__minus_multiple T.d__minus_multiple ["q", "row", "times", "lead"] spMinus := by
  refine T.F__minus_multiple.ok sc_minus_multiple (fun vs H Q E h => ?_) (fun cdv A outer s H vs Q E hr h => ?_)
  · obtain ⟨_, _, _, _, _, _, _, rfl, _⟩ := h
    rfl
  obtain ⟨q, w, c, a, l, row, ld, rfl, hq, ha, hl, hrow, hld, hw, k⟩ := h
  have qr := pl_range q hq
  have q0 : (0 : Int) < q := by omega
  refine ⟨_, (pss_cons (ps_if (pt_cmpR op_eq (pv 2) pe_int (nomark _)) (pss_one (ps_ret (pv 1))) pss_nil)
      (pss_one (ps_ret (pe_lc (own := [("entry", 4), ("other", 5)]) (g := gTup K 2 (gCons (gName 4) (gCons (gName 5) gNil))) (tt := tYes) rfl sc_minus_multiple.nd (pi_zip (by rfl) T.z_zip (pa_cons (pv 1) (pa_cons (pv 3) pa_nil))) (blkOk_by (own := [("entry", 4), ("other", 5)]) (N := ["q", "row", "times", "lead", "entry", "other"]) (sc := defScope s__minus_multiple) (by decide +kernel)) (fun _ _ _ _ _ => (pg_tup (by rfl) (pgs_cons (pg_name (i := 4) sc_minus_multiple.nd rfl (Or.inl rfl)) (pgs_cons (pg_name (i := 5) sc_minus_multiple.nd rfl (Or.inl rfl)) pgs_nil)))) (fun _ _ _ _ _ => pts_nil) (fun _ _ _ _ _ => (pe_op op_modN (pe_op op_sub (pv 4) (pe_op op_mul (pv 2) (pv 5))) (pv 0))))))), ?_⟩
  walk_at "ss"
  refine ite2 (fun c1 => ?_) (fun c1 => ?_)
  · have z : gt row c = 0 := V.int.inj (of_decide_eq_true c1)
    walk_at "ss"
    exact k a H (.inl rfl) (Same.refl H) (by rw [clr_none hrow z]; exact ha)
  · walk_at "ss"
    refine ⟨_, _, _, _, rfl, SqL.of ha, SqL.of hl, ?_⟩
    intro D hD
    refine lc_zipI (K := K) (a := a) (b := l) (r := row) (s := ld) (fun k => (gt row k - gt row c * gt ld k) % (q : Int)) (by rw [hrow.len, hld]) hD (by rw [hrow.len]; omega) (SqL.of ha) (SqL.of hl) (fun i t H3 N hi s3 ht n => ?_) (fun H3 s3 hd => ?_)
    · refine ⟨_, _, rfl, SqT.of upd_same, rfl, ?_⟩
      have bc := hrow.bnd c
      refine ⟨_, _, rfl, _, _, rfl, rfl, ?_⟩
      refine ⟨rfl, ?_⟩
      walk_at "ss"
      have g := n _ (same_new ht (.tup [.int (gt row i), .int (gt ld i)]))
      rw [← fmod_eq q0] at g
      exact g
    · rw [hrow.len] at hd
      exact k D H3 (.inr hD) s3 hd
def spRowWith : Sp := fun vs H Q _ => ∃ (w t c : Nat) (q : Int) (a : Addr) (g : List Row), vs = [.ref a, .int t, .int c] ∧ LL H a g ∧ (∀ r, r ∈ g → Res w q r) ∧ c < w ∧ t ≤ g.length ∧ g.length ≤ 1000 ∧
  ((∀ (j : Nat) r, t ≤ j → g[j]? = some r → gt r c = 0) → Q .non H) ∧ (∀ (j : Nat) r, t ≤ j → g[j]? = some r → gt r c ≠ 0 → Q (.int j) H)
theorem ok_rowWith (T : Top K mg) : FnOk P w K mg base CX0 1 T.f__row_with T.d__row_with ["grid", "top", "column"] spRowWith := by
  refine T.F__row_with.ok sc_row_with (fun vs H Q E h => ?_) (fun cdv A outer s H vs Q E hr h => ?_)
  · obtain ⟨_, _, _, _, _, _, rfl, _⟩ := h
    rfl
  obtain ⟨w, t, c, q, a, g, rfl, ⟨vs, ha, hv⟩, hg, hc, ht, hl, k1, k2⟩ := h
  have hvl := hv.1
  refine ⟨_, (pss_cons (ps_for PassesOwn.never rfl (pi_range2 (by rfl) T.z_range (pa_cons (pv 1) (pa_cons (pe_callB call_len_seq (by rfl) T.z_len PySem.boot_len (pa_cons (pv 0) pa_nil)) pa_nil))) (pg_name (i := 3) sc_row_with.nd rfl (Or.inl rfl)) (pss_one (ps_if (pt_cmpR op_ne (pe_ix ix_list (pe_ix ix_list (pv 0) (pv 3) (fun _ _ => rfl)) (pv 2) (fun _ _ => rfl)) pe_int (nomark _)) (pss_one (ps_ret (pv 3))) pss_nil)))
      (pss_one (ps_ret pe_non))), ?_⟩
  walk_at "ss"
  have en : ((vs.length : Nat) : Int) - (t : Int) = ((g.length - t : Nat) : Int) := by omega
  have ht0 : ((((vs.length : Nat) : Int) - (t : Int)).toNat) = g.length - t := by omega
  refine ⟨_, _, rfl, ⟨by omega, by omega, by omega, by omega⟩, ?_⟩
  rw [ht0]
  refine for_range (lo := t) (n := g.length - t) (fun i σ H2 => H2 = H ∧ (∃ v3, σ = [some (.ref a), some (.int t), some (.int c), v3]) ∧ ∀ (j : Nat) r, t ≤ j → j < t + i → g[j]? = some r → gt r c = 0) ⟨rfl, ⟨_, rfl⟩, fun j r h1 h2 => by omega⟩ ?_ ?_
  · rintro i σ H2 hi ⟨rfl, ⟨v3, rfl⟩, hz⟩
    have e1 : (t : Int) + (i : Int) = ((t + i : Nat) : Int) := by omega
    rw [e1]
    have hti : t + i < g.length := by omega
    obtain ⟨v, hv1, b, rfl, hb⟩ := hv.at0 hti
    have hri : g[t + i]? = some (g[t + i]'hti) := List.getElem?_eq_getElem hti
    have hres := hg _ (List.getElem_mem hti)
    walk_at "ss"
    refine ⟨_, _, _, _, rfl, rfl, SqL.of ha, atI_nat hv1, ?_⟩
    walk_at "ss"
    refine ⟨_, _, _, _, rfl, rfl, SqL.of hb, atI_intN (by rw [hres.len]; exact hc), ?_⟩
    walk_at "ss"
    refine ite2 (fun c1 => ?_) (fun c1 => ?_)
    · walk_at "ss"
      exact k2 _ _ (by omega) hri (ne_yes c1)
    · refine ⟨rfl, ⟨_, rfl⟩, fun j r h1 h2 h3 => ?_⟩
      by_cases e : j = t + i
      · subst e
        rw [hri] at h3
        cases h3
        exact ne_no c1
      · exact hz j r h1 (by omega) h3
  · rintro σ H2 ⟨rfl, ⟨v3, rfl⟩, hz⟩
    walk_at "ss"
    exact k1 fun j r h1 h2 => hz j r h1 (by have := (List.getElem?_eq_some_iff.mp h2).1; omega) h2
end
theorem cut_hi {xs : List V} {k : Nat} (i : Int) (h : i = (k : Int)) : cutV xs none (some i) = xs.take k := by
  subst h
  unfold cutV
  show (xs.drop 0).take (HT.sIx xs.length xs.length (some (k : Int)) - 0) = xs.take k
  rw [HT.sIx_nat, List.drop_zero, Nat.sub_zero]
  refine List.ext_getElem? fun m => ?_
  rw [List.getElem?_take, List.getElem?_take]
  by_cases c : m < k
  · by_cases d : m < xs.length
    · rw [if_pos (by omega), if_pos c]
    · rw [if_neg (by omega), if_pos c, List.getElem?_eq_none_iff.mpr (by omega)]
  · rw [if_neg (by omega), if_neg c]
theorem cut_lo {xs : List V} {k : Nat} (i : Int) (h : i = (k : Int)) : cutV xs (some i) none = xs.drop k := by
  subst h
  unfold cutV
  show (xs.drop (HT.sIx xs.length 0 (some (k : Int)))).take (xs.length - HT.sIx xs.length 0 (some (k : Int))) = xs.drop k
  rw [HT.sIx_nat]
  refine List.ext_getElem? fun m => ?_
  rw [List.getElem?_take, List.getElem?_drop, List.getElem?_drop]
  by_cases c : k ≤ xs.length
  · rw [Nat.min_eq_left c]
    by_cases d : k + m < xs.length
    · rw [if_pos (by omega)]
    · rw [List.getElem?_eq_none_iff.mpr (by omega)]
      split <;> rfl
  · rw [if_neg (by omega), List.getElem?_eq_none_iff.mpr (by omega)]
theorem erase_take {α : Type} {g : List α} {t j : Nat} (h : t ≤ j) : (g.take j ++ g.drop (j + 1)).take t = g.take t := by
  refine List.ext_getElem? fun m => ?_
  rw [List.getElem?_take, List.getElem?_take]
  by_cases c : m < t
  · rw [if_pos c, if_pos c]
    by_cases d : m < g.length
    · rw [List.getElem?_append_left (by rw [List.length_take]; omega), List.getElem?_take, if_pos (by omega)]
    · rw [List.getElem?_eq_none_iff.mpr (by rw [List.length_append, List.length_take, List.length_drop]; omega), List.getElem?_eq_none_iff.mpr (by omega)]
  · rw [if_neg c, if_neg c]
theorem erase_drop {α : Type} {g : List α} {t j : Nat} (h : t ≤ j) : (g.take j ++ g.drop (j + 1)).drop t = (g.drop t).eraseIdx (j - t) := by
  rw [List.eraseIdx_eq_take_drop_succ, List.drop_append, List.drop_take, List.drop_drop]
  congr 1
  rw [List.length_take, List.drop_drop]
  by_cases c : j ≤ g.length
  · rw [Nat.min_eq_left c]
    congr 1
    omega
  · rw [List.drop_eq_nil_of_le (by omega), List.drop_eq_nil_of_le (by omega)]
theorem IsInv.gt {q : Nat} {a : Int} {b : Nat} (h : IsInv q a b) : (a * (b : Int)) % (q : Int) = 1 := h.mul
section
variable {P : Program} {w : World} {K : PySem.W.Frag} {mg : Str → Option Value} {base : Heap}
def spWithLead : Sp := fun vs H Q _ => ∃ (q w t j c : Nat) (a : Addr) (g : List Row) (ld : Row), vs = [.int q, .ref a, .int t, .int j, .int c] ∧ q ∈ PL ∧ LL H a g ∧ (∀ r, r ∈ g → Res w q r) ∧ g[j]? = some ld ∧ gt ld c ≠ 0 ∧ t ≤ j ∧ c < w ∧ w ≤ 13 ∧ g.length ≤ 100 ∧
  ∀ (p : Addr) (b : Nat) (H' : Hp), (gt ld c * (b : Int)) % (q : Int) = 1 → Same H H' →
    LL H' p (((g.take t).map (clr w q c (scl w q b ld)) ++ [scl w q b ld]) ++ (((g.drop t).eraseIdx (j - t)).map (clr w q c (scl w q b ld)))) → Q (.ref p) H'
theorem ok_withLead (T : Top K mg) : FnOk P w K mg base CX0 2 T.f__with_lead T.d__with_lead ["q", "grid", "top", "at", "column"] spWithLead := by
  have G_inverse := ok_inverse (P := P) (w := w) (base := base) T
  have G__minus_multiple := ok_minus (P := P) (w := w) (base := base) T
  refine T.F__with_lead.ok sc_with_lead (fun vs H Q E h => ?_) (fun cdv A outer s H vs Q E hr h => ?_)
  · obtain ⟨_, _, _, _, _, _, _, _, rfl, _⟩ := h
    rfl
  obtain ⟨q, w, t, j, c, a, g, ld, rfl, hq, ⟨vs, ha, hv⟩, hg, hj, hn, htj, hc, hw, hl, k⟩ := h
  have qr := pl_range q hq
  have q0 : (0 : Int) < q := by omega
  have hvl := hv.1
  have hjl := (List.getElem?_eq_some_iff.mp hj).1
  obtain ⟨v, hvj, hR⟩ := hv.at0 hjl
  have ej : g[j]'hjl = ld := by
    have := List.getElem?_eq_getElem hjl
    rw [hj] at this
    exact (Option.some.inj this).symm
  rw [ej] at hR
  obtain ⟨b0, rfl, hb0⟩ := hR
  have hld := hg ld (List.mem_of_getElem? hj)
  have hb := hld.bnd c
  refine ⟨_, (pss_cons (ps_set (i := 5) sc_with_lead.nd rfl (Or.inr rfl) (pe_call G_inverse (hr.mono (by decide)) rfl T.m_inverse T.F_inverse.kp T.b_inverse .nil passL (pa_cons (pe_ix ix_list (pe_ix ix_list (pv 1) (pv 3) (fun _ _ => rfl)) (pv 4) (fun _ _ => rfl)) (pa_cons (pv 0) pa_nil))))
      (pss_cons (ps_set (i := 6) sc_with_lead.nd rfl (Or.inr rfl) (pe_lc (own := [("entry", 7)]) (g := gName 7) (tt := tYes) rfl sc_with_lead.nd (pi_list (pe_ix ix_list (pv 1) (pv 3) (fun _ _ => rfl))) (blkOk_by (own := [("entry", 7)]) (N := ["q", "grid", "top", "at", "column", "scale", "lead", "entry", "others", "cleared", "row"]) (sc := defScope s__with_lead) (by decide +kernel)) (fun _ _ _ _ _ => (pg_name (i := 7) sc_with_lead.nd rfl (Or.inl rfl))) (fun _ _ _ _ _ => pts_nil) (fun _ _ _ _ _ => (pe_op op_modN (pe_op op_mul (pv 7) (pv 5)) (pv 0)))))
      (pss_cons (ps_set (i := 8) sc_with_lead.nd rfl (Or.inl rfl) (pe_lst (StX.pa_star (pe_slice sl_list (pv 1) po_none (po_some (pv 3))) (StX.pa_star (pe_slice sl_list (pv 1) (po_some (pe_op op_add (pv 3) pe_int)) po_none) pa_nil))))
      (pss_cons (ps_setLc (i := 9) (own := [("row", 10)]) (g := gName 10) (tt := tYes) rfl sc_with_lead.nd rfl rfl (sw_true rfl rfl rfl (by decide +kernel)) (pi_list (pv 8)) (blkOk_by (own := [("row", 10)]) (N := ["q", "grid", "top", "at", "column", "scale", "lead", "entry", "others", "cleared", "row"]) (sc := defScope s__with_lead) (by decide +kernel)) (fun _ _ _ _ _ => (pg_name (i := 10) sc_with_lead.nd rfl (Or.inl rfl))) (fun _ _ _ _ _ => pts_nil) (fun _ _ _ _ _ => (pe_call G__minus_multiple (hr.mono (by decide)) rfl T.m__minus_multiple T.F__minus_multiple.kp T.b__minus_multiple .nil pass0 (pa_cons (pv 0) (pa_cons (pv 10) (pa_cons (pe_ix (show IxR _ (rIxL K) from ix_list) (pv 10) (pv 4) (fun _ _ => rfl)) (pa_cons (pv 6) pa_nil)))))))
      (pss_one (ps_ret (pe_lst (StX.pa_star (pe_slice sl_list (pv 9) po_none (po_some (pv 2))) (pa_cons (pv 6) (StX.pa_star (pe_slice sl_list (pv 9) (po_some (pv 2)) po_none) pa_nil)))))))))), ?_⟩
  walk_at "ss"
  refine ⟨_, _, _, _, rfl, rfl, SqL.of ha, atI_nat hvj, ?_⟩
  walk_at "ss"
  refine ⟨_, _, _, _, rfl, rfl, SqL.of hb0, atI_intN (by rw [hld.len]; exact hc), ?_⟩
  walk_at "ss"
  have em : gt ld c % (q : Int) = gt ld c := Int.emod_eq_of_lt hb.1 hb.2
  refine ⟨gt ld c, q, rfl, hq, fun _ b H1 hinv s1 => ?_, fun z => absurd (em.symm.trans z) hn⟩
  have hb1 := hinv.gt
  have hbq := hinv.1
  walk_at "ss"
  refine ⟨_, _, _, _, rfl, rfl, SqL.of (s1 _ _ ha), atI_nat hvj, ?_⟩
  walk_at "ss"
  refine ⟨⟨_, SqL.of (s1 _ _ hb0)⟩, ?_⟩
  intro D1 hD1
  refine lc_funL (K := K) (a := b0) (r := ld) (fun k => (gt ld k * (b : Int)) % (q : Int)) hD1 (by rw [hld.len]; omega) (SqL.of (s1 _ _ hb0)) (fun i H2 N hi s2 n => ?_) (fun H2 s2 h2 => ?_)
  · refine ⟨rfl, ?_⟩
    have bi := hld.bnd i
    walk_at "ss"
    have g := n H2 (Same.refl H2)
    rw [← fmod_eq q0] at g
    exact g
  rw [hld.len] at h2
  have s12 := s1.trans s2
  walk_at "ss"
  refine ⟨_, _, rfl, SqL.of (s12 _ _ ha), fun p1 hp1 => ?_⟩
  rw [cut_hi (k := j) _ rfl]
  have sp1 := same_new hp1 (.lst (vs.take j))
  have s13 := s12.trans sp1
  refine ⟨_, _, rfl, .inr (SqL.of upd_same), ?_⟩
  walk_at "ss"
  refine ⟨_, _, rfl, SqL.of (s13 _ _ ha), fun p2 hp2 => ?_⟩
  rw [cut_lo (k := j + 1) ((j : Int) + 1) (by omega)]
  have sp2 := same_new hp2 (.lst (vs.drop (j + 1)))
  have s14 := s13.trans sp2
  refine ⟨_, _, rfl, .inr (SqL.of upd_same), ?_⟩
  walk_at "ss"
  have hoe : Rows (RowL (upd (upd H2 p1 (.lst (vs.take j))) p2 (.lst (vs.drop (j + 1))))) (vs.take j ++ vs.drop (j + 1)) (g.take j ++ g.drop (j + 1)) :=
    ((hv.take j).append (hv.drop (j + 1))).mono fun v r h => h.same s14
  have hol := hoe.1
  have hgl : (g.take j ++ g.drop (j + 1)).length ≤ 100 := by
    rw [List.length_append, List.length_take, List.length_drop]
    omega
  have hgo : ∀ r, r ∈ g.take j ++ g.drop (j + 1) → Res w q r := fun r hr => by
    rcases List.mem_append.mp hr with h | h
    · exact hg r (List.mem_of_mem_take h)
    · exact hg r (List.mem_of_mem_drop h)
  show (vs.take j ++ (vs.drop (j + 1) ++ [])).length ≤ sizeLine ∧ _
  rw [List.append_nil]
  refine ⟨Nat.le_of_lt (small1000 (by omega)), fun p3 hp3 => ?_⟩
  have sp3 := same_new hp3 (.lst (vs.take j ++ vs.drop (j + 1)))
  have s15 := s14.trans sp3
  walk_at "ss"
  refine ⟨⟨_, SqL.of upd_same⟩, ?_⟩
  intro D4 hD4
  have h2' := sp3 _ _ (sp2 _ _ (sp1 _ _ h2))
  refine lc_rows (K := K) (a := p3) (xs := vs.take j ++ vs.drop (j + 1)) ((g.take j ++ g.drop (j + 1)).map (clr w q c (scl w q b ld))) (by rw [List.length_map]; exact hol) hD4 (by rw [List.length_map]; omega) (SqL.of upd_same) (fun m x r H6 N hx hri s6 hD6 n => ?_) (fun H6 s6 h6 => ?_)
  · obtain ⟨r0, hr0, b1, rfl, hb1⟩ := hoe.get hx
    rw [List.getElem?_map, hr0] at hri
    cases hri
    have hr0m := hgo _ (List.mem_of_getElem? hr0)
    have hb16 := s6 _ _ (sp3 _ _ hb1)
    have nb : b1 ≠ D4 := ne_of_none (sp3 _ _ hb1) hD4
    refine ⟨rfl, ?_⟩
    walk_at "ss"
    refine ⟨_, _, _, _, rfl, rfl, SqL.of hb16, atI_intN (by rw [hr0m.len]; exact hc), ?_⟩
    walk_at "ss"
    refine ⟨q, w, c, b1, D1, r0, scl w q b ld, rfl, hq, hb16, s6 _ _ h2', hr0m, mk_len _ _, hw, fun p H7 hp s7 h7 => ?_⟩
    refine n H7 p s7 h7 ?_
    rcases hp with rfl | hp
    · exact nb
    · exact fun e => hD6 (e ▸ hp)
  obtain ⟨cvs, hcv, hCv⟩ := id h6
  have s16 := s15.trans s6
  have hcl := hCv.1
  rw [List.length_map] at hcl
  walk_at "ss"
  refine ⟨_, _, rfl, SqL.of hcv, fun p5 hp5 => ?_⟩
  rw [cut_hi (k := t) _ rfl]
  have sp5 := same_new hp5 (.lst (cvs.take t))
  refine ⟨_, _, rfl, .inr (SqL.of upd_same), ?_⟩
  walk_at "ss"
  refine ⟨_, _, rfl, SqL.of (sp5 _ _ hcv), fun p6 hp6 => ?_⟩
  rw [cut_lo (k := t) _ rfl]
  have sp6 := same_new hp6 (.lst (cvs.drop t))
  refine ⟨_, _, rfl, .inr (SqL.of upd_same), ?_⟩
  walk_at "ss"
  show (cvs.take t ++ (V.ref D1 :: (cvs.drop t ++ []))).length ≤ sizeLine ∧ _
  rw [List.append_nil]
  refine ⟨Nat.le_of_lt (small1000 (by rw [List.length_append, List.length_cons, List.length_take, List.length_drop]; omega)), fun p7 hp7 => ?_⟩
  have sp7 := same_new hp7 (.lst (cvs.take t ++ .ref D1 :: cvs.drop t))
  have s67 := sp5.trans (sp6.trans sp7)
  refine k p7 b _ hb1 (s16.trans s67) ⟨_, upd_same, ?_⟩
  have e1 : ((g.take j ++ g.drop (j + 1)).map (clr w q c (scl w q b ld))).take t = (g.take t).map (clr w q c (scl w q b ld)) := by
    rw [← List.map_take, erase_take htj]
  have e2 : ((g.take j ++ g.drop (j + 1)).map (clr w q c (scl w q b ld))).drop t = ((g.drop t).eraseIdx (j - t)).map (clr w q c (scl w q b ld)) := by
    rw [← List.map_drop, erase_drop htj]
  rw [← e1, ← e2]
  have e3 : cvs.take t ++ V.ref D1 :: cvs.drop t = (cvs.take t ++ [V.ref D1]) ++ cvs.drop t := by
    rw [List.append_assoc]
    rfl
  rw [e3]
  refine (((hCv.take t).mono fun v r h => ?_).append (Rows.one ?_)).append ((hCv.drop t).mono fun v r h => ?_)
  · rw [← e3]
    exact h.same s67
  · rw [← e3]
    exact ⟨D1, rfl, s67 _ _ (s6 _ _ h2')⟩
  · rw [← e3]
    exact h.same s67
end
section
variable {K : PySem.W.Frag} {a : Addr} {g : TG} {te : TE} {vs : List Nat} {σ : L2.St} {H1 : Hp} {D : Addr} {Qd : Hp → Prop}
/-- a tuple for each row of a list -/
theorem lc_tups {xs : List V} (rs : List Row) (hD : H1 D = none) (hn : rs.length ≤ 1000) (hS : SqL K H1 a xs) (hR : Rows (RowL H1) xs rs)
    (hs : ∀ (i : Nat) (x : V) (r : Row) (H : Hp) (N : VK), xs[i]? = some x → rs[i]? = some r → RowL H x r → Same H1 H → (∀ H4 p, Same H H4 → H4 p = some (.tup (r.map V.int)) → N (.ref p) H4) → g x (wipe σ vs) H fun σ2 H2 => wipe σ2 vs = wipe σ vs ∧ te σ2 H2 N)
    (hd : ∀ H, Same H1 H → LT H D rs → Qd H) :
    ∃ W : Nat → Nat → Hp → Prop, (∃ m, W 0 m (upd H1 D (.lst []))) ∧ ∀ i m H, W i m H →
      ((Itl K a).stop i H ∧ Qd H) ∨ ((Itl K a).go i H ∧ ∃ Nx : Hp → Prop, (∀ H', Nx H' → ∃ m', m' < m ∧ W (i + 1) m' H') ∧ ∀ x H', (Itl K a).yld i H x H' → g x (wipe σ vs) H' fun σ2 H2 => wipe σ2 vs = wipe σ vs ∧ tYes σ2 H2 fun b H3 =>
        if b = true then te σ2 H3 fun y H4 => ∃ acc, H4 D = some (.lst acc) ∧ acc.length < sizeLine ∧ Nx (upd H4 D (.lst (acc ++ [y]))) else Nx H3) := by
  refine lc_list (K := K) (a := a) (xs := xs) (fun i H => Same H1 H ∧ i ≤ rs.length ∧ ∃ acc, H D = some (.lst acc) ∧ Rows (RowT H) acc (rs.take i)) ⟨same_new hD _, Nat.zero_le _, [], upd_same, by rw [List.take_zero]; exact Rows.nil⟩ (fun i H _ h => h.1.seq hS) (fun i x H hx ⟨s, hi, acc, hd, hr⟩ => ?_) (fun H ⟨s, _, acc, h, hr⟩ => hd H s ⟨acc, h, ?_⟩)
  · obtain ⟨r, hri, hx1⟩ := hR.get hx
    have hi' := (List.getElem?_eq_some_iff.mp hri).1
    refine hs i x r H _ hx hri (hx1.same s) s (fun H4 p4 s4 hp => ?_)
    have hd4 := s4 _ _ hd
    refine ⟨acc, hd4, small1000 (by have := hr.1; rw [List.length_take] at this; omega), fun b o q => ?_, by omega, acc ++ [.ref p4], upd_same, ?_⟩
    · rw [upd_ne (ne_of_none q hD)]
      exact s4 b o (s b o q)
    · rw [List.take_add_one, hri]
      exact ((hr.mono fun v r h => h.same s4).append (Rows.one ⟨p4, rfl, hp⟩)).mono fun v r h => h.put hd4
  · rw [hR.1, List.take_length] at hr
    exact hr
end
section
variable {P : Program} {w : World} {K : PySem.W.Frag} {mg : Str → Option Value} {base : Heap}
def spReduced : Sp := fun vs H Q _ => ∃ (q w : Nat) (a : Addr) (g : List Row), vs = [.int q, .int w, .ref a] ∧ q ∈ PL ∧ (TT H a g ∨ LT H a g) ∧ (∀ r, r ∈ g → Res w q r) ∧ w ≤ 12 ∧ g.length ≤ 10 ∧
  ∀ (p : Addr) (R : List Row) (ps : List Nat) (H' : Hp), TT H' p R → IsR w q R ps → (∀ x, Sol w q R x ↔ Sol w q g x) → R.length ≤ 12 → Same H H' → Q (.ref p) H'
theorem ok_reduced (T : Top K mg) : FnOk P w K mg base CX0 3 T.f_reduced T.d_reduced ["q", "width", "rows"] spReduced := by
  have G__row_with := ok_rowWith (P := P) (w := w) (base := base) T
  have G__with_lead := ok_withLead (P := P) (w := w) (base := base) T
  refine T.F_reduced.ok screduced (fun vs H Q E h => ?_) (fun cdv A outer s H vs Q E hr h => ?_)
  · obtain ⟨_, _, _, _, rfl, _⟩ := h
    rfl
  obtain ⟨q, w, a, g, rfl, hq, hTL, hg, hw, hl, k⟩ := h
  have qr := pl_range q hq
  have q0 : (0 : Int) < q := by omega
  rcases hTL with ⟨vs, ha, hv⟩ | ⟨vs, ha, hv⟩
  have hvl := hv.1
  refine ⟨_, (pss_cons (ps_setLc (i := 3) (own := [("row", 4)]) (g := gName 4) (tt := tYes) rfl screduced.nd rfl rfl (sw_true rfl rfl rfl (by decide +kernel)) (pi_tup (pv 2)) (blkOk_by (own := [("row", 4)]) (N := ["q", "width", "rows", "grid", "row", "entry", "top", "column", "at"]) (sc := defScope s_reduced) (by decide +kernel)) (fun _ _ _ _ _ => (pg_name (i := 4) screduced.nd rfl (Or.inl rfl))) (fun _ _ _ _ _ => pts_nil) (fun _ _ _ _ _ => (pe_lc (own := [("entry", 5)]) (g := gName 5) (tt := tYes) rfl screduced.nd (pi_tupK K rfl (pv 4)) (blkOk_by (own := [("entry", 5)]) (N := ["q", "width", "rows", "grid", "row", "entry", "top", "column", "at"]) (sc := relS _ (defScope s_reduced)) (by decide +kernel)) (fun _ _ _ _ _ => (pg_name (i := 5) screduced.nd rfl (Or.inl rfl))) (fun _ _ _ _ _ => pts_nil) (fun _ _ _ _ _ => (pe_op op_modN (pv 5) (pv 0))))))
      (pss_cons (ps_set (i := 6) screduced.nd rfl (Or.inl rfl) pe_int)
      (pss_cons (ps_for PassesOwn.never rfl (pi_range1 (by rfl) T.z_range (pa_cons (pv 1) pa_nil)) (pg_name (i := 7) screduced.nd rfl (Or.inl rfl)) (pss_cons (ps_set (i := 8) screduced.nd rfl (Or.inl rfl) (pe_call G__row_with (hr.mono (by decide)) rfl T.m__row_with T.F__row_with.kp T.b__row_with .nil pass0 (pa_cons (pv 3) (pa_cons (pv 6) (pa_cons (pv 7) pa_nil)))))
      (pss_one (ps_if (pt_cmpR op_notN (pv 8) pe_non (nomark _)) (pss_cons (ps_set (i := 3) screduced.nd rfl (Or.inl rfl) (pe_call G__with_lead (hr.mono (by decide)) rfl T.m__with_lead T.F__with_lead.kp T.b__with_lead .nil pass0 (pa_cons (pv 0) (pa_cons (pv 3) (pa_cons (pv 6) (pa_cons (pv 8) (pa_cons (pv 7) pa_nil)))))))
      (pss_one (ps_aug (i := 6) screduced.nd rfl (Or.inl rfl) pe_int ip_add))) pss_nil))))
      (pss_one (ps_ret (pe_callTy call_tuple_of (by rfl) T.z_tuple (by decide +kernel) (pa_cons (pe_lc (own := [("row", 4)]) (g := gName 4) (tt := tYes) rfl screduced.nd (pi_list (pe_slice sl_list (pv 3) po_none (po_some (pv 6)))) (blkOk_by (own := [("row", 4)]) (N := ["q", "width", "rows", "grid", "row", "entry", "top", "column", "at"]) (sc := defScope s_reduced) (by decide +kernel)) (fun _ _ _ _ _ => (pg_name (i := 4) screduced.nd rfl (Or.inl rfl))) (fun _ _ _ _ _ => pts_nil) (fun _ _ _ _ _ => (pe_callTy (call_tuple_ofK K rfl) (by rfl) T.z_tuple (by decide +kernel) (pa_cons (pv 4) pa_nil)))) pa_nil))))))), ?_⟩
  walk_at "ss"
  refine ⟨⟨_, SqT.of ha⟩, ?_⟩
  intro D0 hD0
  refine lc_rowsT (K := K) (a := a) (z := a) (xs := vs) g hv.1 (by rw [ha]; intro z; cases z) hD0 (by omega) ha (fun i x r H1 N hx hri s1 hD1 n => ?_) (fun H1 s1 h1 => ?_)
  · obtain ⟨r', hr', b, rfl, hb⟩ := hv.get hx
    rw [hri] at hr'
    cases hr'
    have hres := hg r (List.mem_of_getElem? hri)
    have hb1 := s1 _ _ hb
    refine ⟨rfl, ?_⟩
    walk_at "ss"
    refine ⟨⟨_, SqT.of hb1⟩, ?_⟩
    intro D2 hD2
    refine lc_funT (K := K) (a := b) (r := r) (fun k => gt r k % (q : Int)) hD2 (by rw [hres.len]; omega) hb1 (fun m H3 N2 hm s3 n2 => ?_) (fun H3 s3 h3 => ?_)
    · refine ⟨rfl, ?_⟩
      walk_at "ss"
      have g := n2 H3 (Same.refl H3)
      rw [← fmod_eq q0] at g
      exact g
    · have e : mkr r.length (fun k => gt r k % (q : Int)) = r := by
        refine row_ext (mk_len _ _) fun k hk => ?_
        rw [mk_len] at hk
        rw [gt_mk hk]
        exact Int.emod_eq_of_lt (hres.bnd k).1 (hres.bnd k).2
      rw [e] at h3
      refine n H3 D2 s3 h3 (fun z => hD1 (z ▸ hD2)) (fun z => ?_)
      rw [z, s1 _ _ ha] at hD2
      cases hD2
  rotate_left
  have hvl := hv.1
  refine ⟨_, (pss_cons (ps_setLc (i := 3) (own := [("row", 4)]) (g := gName 4) (tt := tYes) rfl screduced.nd rfl rfl (sw_true rfl rfl rfl (by decide +kernel)) (pi_list (pv 2)) (blkOk_by (own := [("row", 4)]) (N := ["q", "width", "rows", "grid", "row", "entry", "top", "column", "at"]) (sc := defScope s_reduced) (by decide +kernel)) (fun _ _ _ _ _ => (pg_name (i := 4) screduced.nd rfl (Or.inl rfl))) (fun _ _ _ _ _ => pts_nil) (fun _ _ _ _ _ => (pe_lc (own := [("entry", 5)]) (g := gName 5) (tt := tYes) rfl screduced.nd (pi_tupK K rfl (pv 4)) (blkOk_by (own := [("entry", 5)]) (N := ["q", "width", "rows", "grid", "row", "entry", "top", "column", "at"]) (sc := relS _ (defScope s_reduced)) (by decide +kernel)) (fun _ _ _ _ _ => (pg_name (i := 5) screduced.nd rfl (Or.inl rfl))) (fun _ _ _ _ _ => pts_nil) (fun _ _ _ _ _ => (pe_op op_modN (pv 5) (pv 0))))))
      (pss_cons (ps_set (i := 6) screduced.nd rfl (Or.inl rfl) pe_int)
      (pss_cons (ps_for PassesOwn.never rfl (pi_range1 (by rfl) T.z_range (pa_cons (pv 1) pa_nil)) (pg_name (i := 7) screduced.nd rfl (Or.inl rfl)) (pss_cons (ps_set (i := 8) screduced.nd rfl (Or.inl rfl) (pe_call G__row_with (hr.mono (by decide)) rfl T.m__row_with T.F__row_with.kp T.b__row_with .nil pass0 (pa_cons (pv 3) (pa_cons (pv 6) (pa_cons (pv 7) pa_nil)))))
      (pss_one (ps_if (pt_cmpR op_notN (pv 8) pe_non (nomark _)) (pss_cons (ps_set (i := 3) screduced.nd rfl (Or.inl rfl) (pe_call G__with_lead (hr.mono (by decide)) rfl T.m__with_lead T.F__with_lead.kp T.b__with_lead .nil pass0 (pa_cons (pv 0) (pa_cons (pv 3) (pa_cons (pv 6) (pa_cons (pv 8) (pa_cons (pv 7) pa_nil)))))))
      (pss_one (ps_aug (i := 6) screduced.nd rfl (Or.inl rfl) pe_int ip_add))) pss_nil))))
      (pss_one (ps_ret (pe_callTy call_tuple_of (by rfl) T.z_tuple (by decide +kernel) (pa_cons (pe_lc (own := [("row", 4)]) (g := gName 4) (tt := tYes) rfl screduced.nd (pi_list (pe_slice sl_list (pv 3) po_none (po_some (pv 6)))) (blkOk_by (own := [("row", 4)]) (N := ["q", "width", "rows", "grid", "row", "entry", "top", "column", "at"]) (sc := defScope s_reduced) (by decide +kernel)) (fun _ _ _ _ _ => (pg_name (i := 4) screduced.nd rfl (Or.inl rfl))) (fun _ _ _ _ _ => pts_nil) (fun _ _ _ _ _ => (pe_callTy (call_tuple_ofK K rfl) (by rfl) T.z_tuple (by decide +kernel) (pa_cons (pv 4) pa_nil)))) pa_nil))))))), ?_⟩
  walk_at "ss"
  refine ⟨⟨_, SqL.of ha⟩, ?_⟩
  intro D0 hD0
  refine lc_rowsX (K := K) (a := a) (z := a) (xs := vs) g hv.1 (by rw [ha]; intro z; cases z) hD0 (by omega) (SqL.of ha) (fun i x r H1 N hx hri s1 hD1 n => ?_) (fun H1 s1 h1 => ?_)
  · obtain ⟨r', hr', b, rfl, hb⟩ := hv.get hx
    rw [hri] at hr'
    cases hr'
    have hres := hg r (List.mem_of_getElem? hri)
    have hb1 := s1 _ _ hb
    refine ⟨rfl, ?_⟩
    walk_at "ss"
    refine ⟨⟨_, SqT.of hb1⟩, ?_⟩
    intro D2 hD2
    refine lc_funT (K := K) (a := b) (r := r) (fun k => gt r k % (q : Int)) hD2 (by rw [hres.len]; omega) hb1 (fun m H3 N2 hm s3 n2 => ?_) (fun H3 s3 h3 => ?_)
    · refine ⟨rfl, ?_⟩
      walk_at "ss"
      have g := n2 H3 (Same.refl H3)
      rw [← fmod_eq q0] at g
      exact g
    · have e : mkr r.length (fun k => gt r k % (q : Int)) = r := by
        refine row_ext (mk_len _ _) fun k hk => ?_
        rw [mk_len] at hk
        rw [gt_mk hk]
        exact Int.emod_eq_of_lt (hres.bnd k).1 (hres.bnd k).2
      rw [e] at h3
      refine n H3 D2 s3 h3 (fun z => hD1 (z ▸ hD2)) (fun z => ?_)
      rw [z, s1 _ _ ha] at hD2
      cases hD2
  all_goals
    walk_at "ss"
    refine for_range (n := w) (fun i σ H2 => ∃ (v7 v8 : Option V) (pg : Addr) (F : List Row) (ps : List Nat) (L : List Row), σ = [some (.int q), some (.int w), some (.ref a), some (.ref pg), none, none, some (.int F.length), v7, v8] ∧
        Same H H2 ∧ LL H2 pg (F ++ L) ∧ Good w q g i F ps L ∧ F.length ≤ i ∧ (F ++ L).length ≤ 10)
      ⟨_, _, D0, [], [], g, rfl, s1, h1.LL, Good.start hg, Nat.le_refl _, hl⟩ ?_ ?_
    · rintro i σ H2 hi ⟨v7, v8, pg, F, ps, L, rfl, s2, hLL, G, hFl, hll⟩
      rw [Int.zero_add]
      have hres : ∀ r, r ∈ F ++ L → Res w q r := fun r hr => by
        rcases List.mem_append.mp hr with h | h
        · exact G.resF r h
        · exact G.resL r h
      walk_at "ss"
      refine ⟨w, F.length, i, q, pg, F ++ L, rfl, hLL, hres, hi, by rw [List.length_append]; omega, by omega, fun hz => ?_, fun j r hj hjr hn => ?_⟩
      · walk_at "ss"
        refine ⟨_, _, pg, F, ps, L, rfl, s2, hLL, G.skip fun r hr => ?_, by omega, hll⟩
        obtain ⟨m, hm⟩ := List.mem_iff_getElem?.mp hr
        exact hz (F.length + m) r (by omega) (by rw [List.getElem?_append_right (by omega), Nat.add_sub_cancel_left]; exact hm)
      · have hjl := (List.getElem?_eq_some_iff.mp hjr).1
        rw [List.length_append] at hjl
        have hjL : L[j - F.length]? = some r := by
          rw [List.getElem?_append_right hj] at hjr
          exact hjr
        have hrL := List.mem_of_getElem? hjL
        walk_at "ss"
        refine ⟨q, w, F.length, j, i, pg, F ++ L, r, rfl, hq, hLL, hres, hjr, hn, hj, hi, by omega, by omega, fun p b H3 hb s3 h3 => ?_⟩
        walk_at "ss"
        rw [List.take_left, List.drop_left] at h3
        have gp : Good w q g (i + 1) (F.map (clr w q i (scl w q b r)) ++ [scl w q b r]) (ps ++ [i]) ((L.eraseIdx (j - F.length)).map (clr w q i (scl w q b r))) := by
          refine G.pivot (by omega) hi hrL hb (fun r' hr' => ?_) (fun r1 hr1 => ?_)
          · obtain ⟨r0, hr0, e⟩ := List.mem_map.mp hr'
            exact ⟨r0, List.mem_of_mem_eraseIdx hr0, e.symm⟩
          · obtain ⟨m, hm⟩ := List.mem_iff_getElem?.mp hr1
            by_cases e : m = j - F.length
            · subst e
              rw [hjL] at hm
              exact .inl (Option.some.inj hm).symm
            · exact .inr (.inl (List.mem_map.mpr ⟨r1, List.mem_eraseIdx_iff_getElem?.mpr ⟨m, e, hm⟩, rfl⟩))
        have fl : (F.map (clr w q i (scl w q b r)) ++ [scl w q b r]).length = F.length + 1 := by rw [List.length_append, List.length_map]; rfl
        have el : ((L.eraseIdx (j - F.length)).map (clr w q i (scl w q b r))).length + 1 = L.length := by
          rw [List.length_map, List.length_eraseIdx_of_lt (by omega)]
          omega
        rw [List.length_append] at hll
        refine ⟨some (.int i), some (.int j), p, _, _, _, ?_, s2.trans s3, h3, gp, by omega, by rw [List.length_append]; omega⟩
        rw [fl]
        rfl
    · rintro σ H2 ⟨v7, v8, pg, F, ps, L, rfl, s2, ⟨gvs, hgv, hGv⟩, G, hFl, hll⟩
      walk_at "ss"
      refine ⟨_, _, rfl, SqL.of hgv, fun p1 hp1 => ?_⟩
      rw [cut_hi (k := F.length) _ rfl]
      have sp1 := same_new hp1 (.lst (gvs.take F.length))
      have s3 := s2.trans sp1
      have hF : Rows (RowL (upd H2 p1 (.lst (gvs.take F.length)))) (gvs.take F.length) F := by
        have := hGv.take F.length
        rw [List.take_left] at this
        exact this.mono fun v r h => h.same sp1
      walk_at "ss"
      refine ⟨⟨_, SqL.of upd_same⟩, ?_⟩
      intro D3 hD3
      refine lc_tups (K := K) (a := p1) (xs := gvs.take F.length) F hD3 (by omega) (SqL.of upd_same) hF (fun m x r H4 N hx hri hR s4 n => ?_) (fun H4 s4 h4 => ?_)
      · obtain ⟨b, rfl, hb⟩ := hR
        refine ⟨rfl, ?_⟩
        walk_at "ss"
        refine ⟨_, _, rfl, .inl ⟨SqL.of hb, fun t ht => ?_⟩⟩
        exact n _ t (same_new ht _) upd_same
      · obtain ⟨tvs, htv, hTv⟩ := h4
        walk_at "ss"
        refine ⟨_, _, rfl, .inl ⟨SqL.of htv, fun t ht => ?_⟩⟩
        have st := same_new ht (.tup tvs)
        exact k t F ps _ ⟨tvs, upd_same, hTv.mono fun v r h => h.same st⟩ G.done.1 G.done.2 (by omega) (s3.trans (s4.trans st))
def spRank : Sp := fun vs H Q _ => ∃ (q w : Nat) (a : Addr) (g : List Row), vs = [.int q, .int w, .ref a] ∧ q ∈ PL ∧ TT H a g ∧ (∀ r, r ∈ g → Res w q r) ∧ w ≤ 12 ∧ g.length ≤ 10 ∧
  ∀ (R : List Row) (ps : List Nat) (H' : Hp), IsR w q R ps → (∀ x, Sol w q R x ↔ Sol w q g x) → Same H H' → Q (.int R.length) H'
theorem ok_rank (T : Top K mg) : FnOk P w K mg base CX0 4 T.f_rank T.d_rank ["q", "width", "rows"] spRank := by
  have G_reduced := ok_reduced (P := P) (w := w) (base := base) T
  refine T.F_rank.ok scrank (fun vs H Q E h => ?_) (fun cdv A outer s H vs Q E hr h => ?_)
  · obtain ⟨_, _, _, _, rfl, _⟩ := h
    rfl
  obtain ⟨q, w, a, g, rfl, hq, ha, hg, hw, hl, k⟩ := h
  refine ⟨_, (pss_one (ps_ret (pe_callB call_len_seq (by rfl) T.z_len PySem.boot_len (pa_cons (pe_call G_reduced (hr.mono (by decide)) rfl T.m_reduced T.F_reduced.kp T.b_reduced .nil pass0 (pa_cons (pv 0) (pa_cons (pv 1) (pa_cons (pv 2) pa_nil)))) pa_nil)))), ?_⟩
  walk_at "ss"
  refine ⟨q, w, a, g, rfl, hq, .inl ha, hg, hw, hl, fun p R ps H1 hT hI hS hR s1 => ?_⟩
  obtain ⟨vs, h1, h2⟩ := hT
  walk_at "ss"
  rw [h2.1]
  exact k R ps H1 hI hS s1
end
theorem ixN_in {n : Nat} {i : Int} (h0 : 0 ≤ i) (h1 : i < n) : ixN n i = some i.toNat := by
  unfold ixN
  rw [if_pos h0, if_pos h1]
theorem rep_zero (w : Nat) : (List.replicate w [V.int 0]).flatten = (mkr w fun _ => (0 : Int)).map V.int := by
  rw [List.flatten_replicate_singleton]
  unfold mkr
  refine List.ext_getElem? fun k => ?_
  rw [List.getElem?_replicate, List.getElem?_map, List.getElem?_map]
  by_cases h : k < w
  · rw [if_pos h, List.getElem?_range h]
    rfl
  · rw [if_neg h, List.getElem?_eq_none_iff.mpr (by rw [List.length_range]; omega)]
    rfl
theorem Res.set {n : Nat} {q v : Int} {ts : Row} (h : Res n q ts) (h0 : 0 ≤ v) (h1 : v < q) (i : Nat) : Res n q (ts.set i v) :=
  Res.of_bnd (by omega) (by rw [List.length_set]; exact h.len) fun x hx => by
    rcases List.mem_or_eq_of_mem_set hx with c | c
    · exact h.mem c
    · rw [c]
      exact ⟨h0, h1⟩
theorem Keep.frP {b c : Addr} {H H' : Hp} (k : Keep b H H') (B : PoolAt H' b c) {p : Addr} (h : H' p = none) : H p = none := by
  cases z : H p with
  | none => rfl
  | some o =>
    have nb : p ≠ b := by
      intro e
      obtain ⟨kvs, cs, a0, rr, l, sd, tn, sm, e1, e2, e3, e4⟩ := B.ex
      rw [e, e1] at h
      cases h
    rw [k _ _ z nb] at h
    cases h
theorem fmq {x m : Int} (h : 0 < m) : 0 ≤ x.fmod m ∧ x.fmod m < m := fm h
section
variable {P : Program} {w : World} {K : PySem.W.Frag} {mg : Str → Option Value} {base : Heap}
def spForm : Sp := fun vs H Q _ => ∃ (b c a : Addr) (q w : Nat) (g : List Row), vs = [.ref b, .int q, .int w, .ref a] ∧ PoolAt H b c ∧ q ∈ PL ∧ TT H a g ∧ (∀ r, r ∈ g → Res w q r) ∧ w ≤ 12 ∧ g.length ≤ 9 ∧
  ∀ (p : Addr) (fm : Row) (H' : Hp), H' p = some (.tup (fm.map V.int)) → Res w q fm → PoolAt H' b c → Keep b H H' → Q (.ref p) H'
theorem ok_form (T : Top K mg) : FnOk P w K mg base CX0 4 T.f__law_form T.d__law_form ["pool", "q", "width", "rows"] spForm := by
  have G__law_take := ok_take (P := P) (w := w) (base := base) T
  have G__law_entry := ok_entry (P := P) (w := w) (base := base) T
  refine T.F__law_form.ok scLform (fun vs H Q E h => ?_) (fun cdv A outer s H vs Q E hr h => ?_)
  · obtain ⟨_, _, _, _, _, _, rfl, _⟩ := h
    rfl
  obtain ⟨b, c, a, q, w, g, rfl, B, hq, hTT, hg, hw, hl, k⟩ := h
  have qr := pl_range q hq
  have q0 : (0 : Int) < q := by omega
  refine ⟨_, (pss_cons (ps_set (i := 4) scLform.nd rfl (Or.inr rfl) (pe_lc (own := [("k", 5)]) (g := gName 5) (tt := tYes) rfl scLform.nd (pi_range1 (by rfl) T.z_range (pa_cons (pv 2) pa_nil)) (blkOk_by (own := [("k", 5)]) (N := ["pool", "q", "width", "rows", "form", "k", "row", "times", "way", "at"]) (sc := defScope s_Lform) (by decide +kernel)) (fun _ _ _ _ _ => (pg_name (i := 5) scLform.nd rfl (Or.inl rfl))) (fun _ _ _ _ _ => pts_nil) (fun _ _ _ _ _ => pe_int)))
      (pss_cons (ps_for PassesOwn.never rfl (pi_tup (pv 3)) (pg_name (i := 6) scLform.nd rfl (Or.inr rfl)) (pss_cons (ps_set (i := 7) scLform.nd rfl (Or.inr rfl) (pe_call G__law_take (hr.mono (by decide)) rfl T.m__law_take T.F__law_take.kp T.b__law_take .nil pass0 (pa_cons (pv 0) (pa_cons (pv 1) pa_nil))))
      (pss_one (ps_set (i := 4) scLform.nd rfl (Or.inr rfl) (pe_lc (own := [("k", 5)]) (g := gName 5) (tt := tYes) rfl scLform.nd (pi_range1 (by rfl) T.z_range (pa_cons (pv 2) pa_nil)) (blkOk_by (own := [("k", 5)]) (N := ["pool", "q", "width", "rows", "form", "k", "row", "times", "way", "at"]) (sc := defScope s_Lform) (by decide +kernel)) (fun _ _ _ _ _ => (pg_name (i := 5) scLform.nd rfl (Or.inl rfl))) (fun _ _ _ _ _ => pts_nil) (fun _ _ _ _ _ => (pe_op op_modN (pe_callTy call_int1 (by rfl) T.z_int (by decide +kernel) (pa_cons (pe_op op_add (pe_ix (show IxR _ (rIxL K) from ix_list) (pv 4) (pv 5) (fun _ _ => rfl)) (pe_op op_mul (pv 7) (pe_ix (show IxR _ (rIxT K) from ix_tup) (pv 6) (pv 5) (fun _ _ => rfl)))) pa_nil)) (pv 1))))))))
      (pss_cons (ps_set (i := 8) scLform.nd rfl (Or.inl rfl) (pe_call G__law_take (hr.mono (by decide)) rfl T.m__law_take T.F__law_take.kp T.b__law_take .nil pass0 (pa_cons (pv 0) (pa_cons pe_int pa_nil))))
      (pss_cons (ps_if (PW.pt (pw_and (pt_cmpR op_eq (pv 8) pe_int (nomark _)) (pw_and1 (pt_cmpR op_gt (pv 2) pe_int (nomark _))))) (pss_cons (ps_set (i := 9) scLform.nd rfl (Or.inl rfl) (pe_call G__law_take (hr.mono (by decide)) rfl T.m__law_take T.F__law_take.kp T.b__law_take .nil pass0 (pa_cons (pv 0) (pa_cons (pv 2) pa_nil))))
      (pss_one (ps_asg (pe_op op_modN (pe_callTy call_int1 (by rfl) T.z_int (by decide +kernel) (pa_cons (pe_op op_add (pe_op op_add (pe_ix ix_list (pv 4) (pv 9) (fun _ _ => rfl)) pe_int) (pe_call G__law_take (hr.mono (by decide)) rfl T.m__law_take T.F__law_take.kp T.b__law_take .nil pass0 (pa_cons (pv 0) (pa_cons (pe_op op_sub (pv 1) pe_int) pa_nil)))) pa_nil)) (pv 1)) (pg_sub (pv 4) (pv 9) set_list)))) pss_nil)
      (pss_cons (ps_if (pt_cmpR op_eq (pv 8) pe_int (nomark _)) (pss_one (ps_set (i := 4) scLform.nd rfl (Or.inr rfl) (pe_lc (own := [("k", 5)]) (g := gName 5) (tt := tYes) rfl scLform.nd (pi_range1 (by rfl) T.z_range (pa_cons (pv 2) pa_nil)) (blkOk_by (own := [("k", 5)]) (N := ["pool", "q", "width", "rows", "form", "k", "row", "times", "way", "at"]) (sc := defScope s_Lform) (by decide +kernel)) (fun _ _ _ _ _ => (pg_name (i := 5) scLform.nd rfl (Or.inl rfl))) (fun _ _ _ _ _ => pts_nil) (fun _ _ _ _ _ => (pe_call G__law_entry (hr.mono (by decide)) rfl T.m__law_entry T.F__law_entry.kp T.b__law_entry .nil pass0 (pa_cons (pv 0) (pa_cons (pv 1) pa_nil))))))) pss_nil)
      (pss_one (ps_ret (pe_callTy call_tuple_of (by rfl) T.z_tuple (by decide +kernel) (pa_cons (pv 4) pa_nil))))))))), ?_⟩
  walk_at "ss"
  intro D hD
  refine lc_fun (fun _ => 0) hD (by omega) (fun i H3 N hi s3 n => ?_) (fun H3 s3 hd => ?_)
  · refine ⟨rfl, ?_⟩
    walk_at "ss"
    exact n H3 (Same.refl H3)
  rw [Int.toNat_natCast] at hd
  have hcell : c ≠ D := B.cell_ne hD
  have B3 := B.same s3
  obtain ⟨avs, hav, hAv⟩ := id (hTT.same s3)
  walk_at "ss"
  refine ⟨⟨_, SqT.of hav⟩, ?_⟩
  refine for_tup (K := K) (a := a) (xs := avs) (fun i σ H4 => ∃ (v5 v6 v7 v8 v9 : Option V) (F : Addr) (fm : Row), σ = [some (.ref b), some (.int q), some (.int w), some (.ref a), some (.ref F), v5, v6, v7, v8, v9] ∧ PoolAt H4 b c ∧ Keep b H H4 ∧ H F = none ∧ c ≠ F ∧ H4 a = some (.tup avs) ∧ Rows (RowT H4) avs g ∧ H4 F = some (.lst (fm.map V.int)) ∧ Res w q fm)
    ⟨_, _, _, _, _, D, _, rfl, B3, Keep.of s3, hD, hcell, hav, hAv, hd, Res.of_bnd q0 (mk_len _ _) fun x hx => by obtain ⟨_, _, rfl⟩ := List.mem_map.mp hx; exact ⟨Int.le_refl _, q0⟩⟩ (fun i σ H4 _ ⟨_, _, _, _, _, _, _, _, _, _, _, _, h, _⟩ => SqT.of h) ?_ ?_
  · rintro i y σ H4 hy ⟨v5, v6, v7, v8, v9, F, fm, rfl, B4, k4, hF, cF, ha4, hA4, hf4, hfm⟩
    obtain ⟨r, hri, e, rfl, he⟩ := hA4.get hy
    have hrr := hg r (List.mem_of_getElem? hri)
    walk_at "ss"
    refine ⟨b, c, q, rfl, B4, by omega, by omega, fun t H5 t0 t1 B5 k5 => ?_⟩
    have hf5 := k5 _ _ hf4 (B4.ne_lst hf4)
    have he5 := k5 _ _ he (B4.ne_tup he)
    have ha5 := k5 _ _ ha4 (B4.ne_tup ha4)
    have hA5 := hA4.mono fun v r h => RowT.keep k5 B4 h
    walk_at "ss"
    intro D2 hD2
    refine lc_fun (fun k => (gt fm k + t * gt r k) % (q : Int)) hD2 (by omega) (fun j H6 N hj s6 n => ?_) (fun H6 s6 hd6 => ?_)
    · have b1 := hfm.bnd j
      have b2 := hrr.bnd j
      refine ⟨rfl, ?_⟩
      walk_at "ss"
      refine ⟨_, _, _, _, rfl, rfl, SqL.of (s6 _ _ hf5), atI_int (by rw [hfm.len]; omega), ?_⟩
      walk_at "ss"
      refine ⟨_, _, _, _, rfl, rfl, SqT.of (s6 _ _ he5), atI_int (by rw [hrr.len]; omega), ?_⟩
      walk_at "ss"
      have g := n H6 (Same.refl H6)
      rw [← fmod_eq q0] at g
      exact g
    · rw [Int.toNat_natCast] at hd6
      refine ⟨_, _, _, _, _, D2, _, rfl, B5.same s6, k4.trans (k5.trans (Keep.of s6)), (k4.trans k5).frP B5 hD2, B5.cell_ne hD2, s6 _ _ ha5, hA5.mono fun v r h => h.same s6, hd6, Res.of_mk q0 _⟩
  rintro σ H4 ⟨v5, v6, v7, v8, v9, F, fm, rfl, B4, k4, hF, cF, ha4, hA4, hf4, hfm⟩
  clear B3 hav hAv hd s3 hD hcell
  walk_at "ss"
  refine ⟨b, c, _, rfl, B4, by decide, by decide, fun way H5 w0 w1 B5 k5 => ?_⟩
  have hf5 := k5 _ _ hf4 (B4.ne_lst hf4)
  have K5 := k4.trans k5
  clear hf4 B4 hA4 ha4
  walk_at "ss"
  refine ite2 (fun c1 => ?_) (fun c1 => iteF ?_)
  walk_at "ss"
  refine ite2 (fun c2 => ?_) (fun c2 => ?_)
  have c2' := of_decide_eq_true c2
  walk_at "ss"
  refine ⟨b, c, _, rfl, B5, by omega, by omega, fun u H6 u0 u1 B6 k6 => ?_⟩
  have hf6 := k6 _ _ hf5 (B5.ne_lst hf5)
  obtain ⟨un, rfl⟩ := Int.eq_ofNat_of_zero_le u0
  have hun : un < fm.length := by rw [hfm.len]; omega
  walk_at "ss"
  refine ⟨_, _, _, _, rfl, rfl, SqL.of hf6, atI_intN hun, ?_⟩
  walk_at "ss"
  refine ⟨b, c, _, rfl, B6, by omega, by omega, fun y H7 y0 y1 B7 k7 => ?_⟩
  have hf7 := k7 _ _ hf6 (B6.ne_lst hf6)
  walk_at "ss"
  refine ⟨F, _, un, un, rfl, rfl, hf7, ?_, ?_⟩
  · rw [ixN_in (by omega) (by rw [List.length_map]; omega), Int.toNat_natCast]
  have hmod := fmq (x := gt fm un + 1 + y) q0
  have hfm := hfm.set hmod.1 hmod.2 un
  have hf := show upd H7 F (.lst ((fm.map V.int).set un (.int ((gt fm un + 1 + y).fmod q)))) F = some (.lst ((fm.set un ((gt fm un + 1 + y).fmod q)).map V.int)) by rw [upd_same, List.map_set]
  have B := B7.put hf7 cF (ys := (fm.map V.int).set un (.int ((gt fm un + 1 + y).fmod q)))
  have KK := (K5.trans (k6.trans k7)).new hF (o := .lst ((fm.map V.int).set un (.int ((gt fm un + 1 + y).fmod q))))
  clear hf7 B7 k7 hf6 B6 k6
  rotate_left
  walk_at "ss"
  have hf := hf5
  have B := B5
  have KK := K5
  rotate_left
  walk_at "ss"
  have hf := hf5
  have B := B5
  have KK := K5
  all_goals
    walk_at "ss"
    refine ite2 (fun c3 => ?_) (fun c3 => ?_)
    · walk_at "ss"
      intro L2 hL2
      have cL2 := B.cell_ne hL2
      have hL2H := KK.frP B hL2
      have s2 := same_new hL2 (.lst [])
      refine lc_range (lo := 0) (n := w) (fun j H3 => PoolAt H3 b c ∧ Keep b H H3 ∧ ∃ acc : Row, acc.length = j ∧ (∀ x, x ∈ acc → 0 ≤ x ∧ x < (q : Int)) ∧ H3 L2 = some (.lst (acc.map V.int)))
        ⟨B.same s2, KK.trans (Keep.of s2), [], rfl, fun x hx => absurd hx List.not_mem_nil, upd_same⟩ ?_ ?_
      · rintro j H3 hj ⟨B3, k3, acc, hacc, hb, hd⟩
        refine ⟨rfl, ?_⟩
        walk_at "ss"
        refine ⟨b, c, q, rfl, B3, hq, fun r H4 r0 r1 B4 k4 => ?_⟩
        have hd4 := k4 _ _ hd (B3.ne_lst hd)
        refine ⟨_, hd4, by rw [List.length_map]; exact small1000 (by omega), B4.put hd4 cL2, (k3.trans k4).new hL2H, acc ++ [r], by rw [List.length_append, hacc]; rfl, fun x hx => ?_, by rw [upd_same, List.map_append]; rfl⟩
        rcases List.mem_append.mp hx with h | h
        · exact hb x h
        · rw [List.mem_singleton.mp h]
          exact ⟨r0, r1⟩
      · rintro H3 ⟨B3, k3, acc, hacc, hb, hd⟩
        walk_at "ss"
        refine ⟨_, _, rfl, .inl ⟨SqL.of hd, fun t ht => ?_⟩⟩
        have st := same_new ht (.tup (acc.map V.int))
        exact k t acc _ upd_same (Res.of_bnd q0 hacc hb) (B3.same st) (k3.trans (Keep.of st))
    · walk_at "ss"
      refine ⟨_, _, rfl, .inl ⟨SqL.of hf, fun t ht => ?_⟩⟩
      exact k t _ _ upd_same hfm (B.same (same_new ht _)) (KK.trans (Keep.of (same_new ht _)))
end
def spFixed : Sp := fun vs H Q _ => ∃ (q w : Nat) (a f : Addr) (g : List Row) (fm : Row), vs = [.int q, .int w, .ref a, .ref f] ∧ q ∈ PL ∧ TT H a g ∧ H f = some (.tup (fm.map V.int)) ∧ (∀ r, r ∈ g → Res w q r) ∧ Res w q fm ∧ w ≤ 12 ∧ g.length ≤ 9 ∧
  ∀ (b : Bool) (H' : Hp), (b = true ↔ Fixed w q g fm) → Same H H' → Q (.bl b) H'
section
variable {P : Program} {w : World} {K : PySem.W.Frag} {mg : Str → Option Value} {base : Heap}
theorem ok_fixed (T : Top K mg) : FnOk P w K mg base CX0 5 T.f_is_fixed T.d_is_fixed ["q", "width", "rows", "form"] spFixed := by
  have G_rank := ok_rank (P := P) (w := w) (base := base) T
  refine T.F_is_fixed.ok scis_fixed (fun vs H Q E h => ?_) (fun cdv A outer s H vs Q E hr h => ?_)
  · obtain ⟨_, _, _, _, _, _, rfl, _⟩ := h
    rfl
  obtain ⟨q, w, a, f, g, fm, rfl, hq, hT, hf, hg, hfr, hw, hl, k⟩ := h
  have qr := pl_range q hq
  refine ⟨_, (pss_one (ps_ret (pe_cmpR op_eq (pe_call G_rank (hr.mono (by decide)) rfl T.m_rank T.F_rank.kp T.b_rank .nil pass0 (pa_cons (pv 0) (pa_cons (pv 1) (pa_cons (pe_tup (StX.pa_star (pv 2) (pa_cons (pv 3) pa_nil))) pa_nil)))) (pe_call G_rank (hr.mono (by decide)) rfl T.m_rank T.F_rank.kp T.b_rank .nil pass0 (pa_cons (pv 0) (pa_cons (pv 1) (pa_cons (pv 2) pa_nil)))) (nomark _)))), ?_⟩
  obtain ⟨vs, ha, hv⟩ := id hT
  walk_at "ss"
  refine ⟨a, vs, rfl, .inl (SqT.of ha), ?_⟩
  refine ⟨_, rfl, ?_⟩
  refine And.intro (show (vs ++ [V.ref f]).length ≤ sizeLine from Nat.le_of_lt (small1000 (by have := hv.1; rw [List.length_append, List.length_singleton]; omega))) ?_
  intro t ht
  have st := same_new ht (.tup (vs ++ [.ref f]))
  have hT1 : TT (upd H t (.tup (vs ++ [.ref f]))) t (g ++ [fm]) := ⟨_, upd_same, (hv.append (Rows.one ⟨f, rfl, hf⟩)).mono fun v r h => h.same st⟩
  walk_at "ss"
  refine ⟨q, w, t, g ++ [fm], rfl, hq, hT1, fun r hr => ?_, hw, by rw [List.length_append, List.length_singleton]; omega, fun R1 ps1 H2 I1 h1 s2 => ?_⟩
  · rcases List.mem_append.mp hr with c | c
    · exact hg r c
    · rw [List.mem_singleton.mp c]
      exact hfr
  walk_at "ss"
  refine ⟨q, w, a, g, rfl, hq, (hT.same st).same s2, hg, hw, by omega, fun R0 ps0 H3 I0 h0 s3 => ?_⟩
  walk_at "ss"
  refine k _ H3 ?_ (st.trans (s2.trans s3))
  rw [decide_eq_true_eq, ← fixed_iff (by omega) I0 h0 I1 h1]
  constructor
  · intro e
    have := V.int.inj e
    omega
  · intro e
    rw [e]
end
/-! ### the counts by trying all vectors -/
def kyO (v : Row) : List Key := v.map Sum.inl
theorem kyO_V (v : Row) : (kyO v).map kV = v.map V.int := by
  unfold kyO
  rw [List.map_map]
  rfl
theorem kyO_inj : ∀ {u v : Row}, kyO u = kyO v → u = v
  | [], [], _ => rfl
  | [], _ :: _, h => by cases h
  | _ :: _, [], h => by cases h
  | a :: u, b :: v, h => by
    have h1 : (Sum.inl a : Key) :: kyO u = Sum.inl b :: kyO v := h
    injection h1 with h2 h3
    rw [Sum.inl.inj h2, kyO_inj h3]
structure CT (H : Hp) (w q : Nat) (g : List Row) (fm : Row) (kvs : List (List Key × V)) (l : List Row) : Prop where
  keys : ∀ p, p ∈ kvs → ∃ v, p.1 = kyO v
  no : ∀ v, valV kvs (kyO v) = none → ∀ x, x ∈ l → vl w q g x ≠ v
  so : ∀ v z, valV kvs (kyO v) = some z → (∃ x, x ∈ l ∧ vl w q g x = v) ∧ ∃ a, z = .ref a ∧ H a = some (.lst ((cl w q g fm l v).map V.int))
theorem valV_memk {kvs : List (List Key × V)} {p : List Key × V} (h : p ∈ kvs) : ∃ z, valV kvs p.1 = some z := by
  cases e : valV kvs p.1 with
  | some z => exact ⟨z, rfl⟩
  | none => exact absurd (List.mem_map.mpr ⟨p, h, rfl⟩) (valV_not e)
theorem CT.start {H : Hp} {w q : Nat} {g : List Row} {fm : Row} : CT H w q g fm [] [] :=
  ⟨fun p h => (by cases h), fun v _ x hx => (by cases hx), fun v z h => (by cases h)⟩
theorem CT.mono {H H' : Hp} {w q : Nat} {g : List Row} {fm : Row} {kvs : List (List Key × V)} {l : List Row} (C : CT H w q g fm kvs l) (s : ∀ a xs, H a = some (.lst xs) → H' a = some (.lst xs)) : CT H' w q g fm kvs l :=
  ⟨C.keys, C.no, fun v z h => by
    obtain ⟨h1, a, e, h2⟩ := C.so v z h
    exact ⟨h1, a, e, s _ _ h2⟩⟩
theorem putK_keys {kvs : List (List Key × V)} {k : List Key} {z : V} {p : List Key × V} (h : p ∈ putK kvs k z) : p.1 = k ∨ ∃ p', p' ∈ kvs ∧ p'.1 = p.1 := by
  unfold putK at h
  split at h
  · obtain ⟨p', h1, e⟩ := List.mem_map.mp h
    by_cases c : p'.1 = k
    · rw [if_pos c] at e
      rw [← e]
      exact .inl c
    · rw [if_neg c] at e
      rw [← e]
      exact .inr ⟨p', h1, rfl⟩
  · rcases List.mem_append.mp h with c | c
    · exact .inr ⟨p, c, rfl⟩
    · rw [List.mem_singleton.mp c]
      exact .inl rfl
theorem CT.step {H : Hp} {w q : Nat} {g : List Row} {fm : Row} {kvs : List (List Key × V)} {l : List Row} (C : CT H w q g fm kvs l) {x : Row} {a : Addr} (ha : H a = some (.lst ((cl w q g fm (l ++ [x]) (vl w q g x)).map V.int))) :
    CT H w q g fm (putK kvs (kyO (vl w q g x)) (.ref a)) (l ++ [x]) := by
  refine ⟨fun p hp => ?_, fun v h y hy => ?_, fun v z h => ?_⟩
  · rcases putK_keys hp with e | ⟨p', hp', e⟩
    · exact ⟨_, e⟩
    · rw [← e]
      exact C.keys p' hp'
  · rw [valV_put] at h
    by_cases c : kyO v = kyO (vl w q g x)
    · rw [if_pos c] at h
      cases h
    · rw [if_neg c] at h
      rcases List.mem_append.mp hy with d | d
      · exact C.no v h y d
      · rw [List.mem_singleton.mp d]
        exact fun e => c (by rw [e])
  · rw [valV_put] at h
    by_cases c : kyO v = kyO (vl w q g x)
    · rw [if_pos c] at h
      cases h
      have e := kyO_inj c
      subst e
      exact ⟨⟨x, List.mem_append_right _ List.mem_cons_self, rfl⟩, a, rfl, ha⟩
    · rw [if_neg c] at h
      obtain ⟨⟨y, hy, e⟩, a', e', h'⟩ := C.so v z h
      refine ⟨⟨y, List.mem_append_left _ hy, e⟩, a', e', ?_⟩
      rw [cl_ne fun e => c (by rw [e])]
      exact h'
theorem CT.old {H : Hp} {w q : Nat} {g : List Row} {fm : Row} {kvs : List (List Key × V)} {l : List Row} (C : CT H w q g fm kvs l) (v : Row) {o : Option V} (ho : o = valV kvs (kyO v)) {z : Addr} (hz : H z = some (.lst ((mkr q fun _ => (0 : Int)).map V.int))) :
    ∃ a, o.getD (.ref z) = .ref a ∧ H a = some (.lst ((cl w q g fm l v).map V.int)) := by
  cases e : valV kvs (kyO v) with
  | none =>
    rw [ho, e]
    refine ⟨z, rfl, ?_⟩
    rw [cl_none (C.no v e)]
    exact hz
  | some y =>
    obtain ⟨_, a, e1, h1⟩ := C.so v y e
    rw [ho, e]
    exact ⟨a, e1, h1⟩
section
variable {K : PySem.W.Frag} {a : Addr} {g : TG} {te : TE} {vs : List Nat} {σ : L2.St} {H1 : Hp} {D : Addr} {Qd : Hp → Prop}
/-- one int for each row of a tuple -/
theorem lc_valT {xs : List V} {rs : List Row} (f : Row → Int) (hD : H1 D = none) (hn : rs.length ≤ 1000) (hS : H1 a = some (.tup xs)) (hR : Rows (RowT H1) xs rs)
    (hs : ∀ (x : V) (r : Row) (H : Hp) (N : VK), r ∈ rs → RowT H x r → Same H1 H → (∀ H4, Same H H4 → N (.int (f r)) H4) → g x (wipe σ vs) H fun σ2 H2 => wipe σ2 vs = wipe σ vs ∧ te σ2 H2 N)
    (hd : ∀ H, Same H1 H → H D = some (.lst ((rs.map f).map V.int)) → Qd H) :
    ∃ W : Nat → Nat → Hp → Prop, (∃ m, W 0 m (upd H1 D (.lst []))) ∧ ∀ i m H, W i m H →
      ((Itt K a).stop i H ∧ Qd H) ∨ ((Itt K a).go i H ∧ ∃ Nx : Hp → Prop, (∀ H', Nx H' → ∃ m', m' < m ∧ W (i + 1) m' H') ∧ ∀ x H', (Itt K a).yld i H x H' → g x (wipe σ vs) H' fun σ2 H2 => wipe σ2 vs = wipe σ vs ∧ tYes σ2 H2 fun b H3 =>
        if b = true then te σ2 H3 fun y H4 => ∃ acc, H4 D = some (.lst acc) ∧ acc.length < sizeLine ∧ Nx (upd H4 D (.lst (acc ++ [y]))) else Nx H3) := by
  refine lc_tup (K := K) (a := a) (xs := xs) (fun i H => Same H1 H ∧ i ≤ rs.length ∧ H D = some (.lst (((rs.take i).map f).map V.int))) ⟨same_new hD _, Nat.zero_le _, upd_same⟩ (fun i H _ h => SqT.of (h.1 _ _ hS)) (fun i x H hx ⟨s, hi, hd⟩ => ?_) (fun H ⟨s, _, h⟩ => hd H s (by rw [hR.1, List.take_length] at h; exact h))
  obtain ⟨r, hri, hx1⟩ := hR.get hx
  have hi' := (List.getElem?_eq_some_iff.mp hri).1
  refine hs x r H _ (List.mem_of_getElem? hri) (hx1.same s) s (fun H4 s4 => ?_)
  refine ⟨_, s4 _ _ hd, by rw [List.length_map, List.length_map, List.length_take]; exact small1000 (by omega), fun b o q => ?_, by omega, ?_⟩
  · rw [upd_ne (ne_of_none q hD)]
    exact s4 b o (s b o q)
  · rw [upd_same, List.take_add_one, hri, List.map_append, List.map_append]
    rfl
/-- some ints of a list -/
theorem lc_pick {tt : L2.TT} {r : Row} (pk : Int → Bool) (hD : H1 D = none) (hn : r.length ≤ 1000) (hS : SqL K H1 a (r.map V.int))
    (hs : ∀ (x : Int) (H : Hp) (N1 : VK) (N0 : Hp → Prop), x ∈ r → Same H1 H → (∀ H4, Same H H4 → pk x = true → N1 (.int x) H4) → (∀ H4, Same H H4 → pk x = false → N0 H4) →
      g (.int x) (wipe σ vs) H fun σ2 H2 => wipe σ2 vs = wipe σ vs ∧ tt σ2 H2 fun bb H3 => if bb = true then te σ2 H3 N1 else N0 H3)
    (hd : ∀ H, Same H1 H → H D = some (.lst ((r.filter pk).map V.int)) → Qd H) :
    ∃ W : Nat → Nat → Hp → Prop, (∃ m, W 0 m (upd H1 D (.lst []))) ∧ ∀ i m H, W i m H →
      ((Itl K a).stop i H ∧ Qd H) ∨ ((Itl K a).go i H ∧ ∃ Nx : Hp → Prop, (∀ H', Nx H' → ∃ m', m' < m ∧ W (i + 1) m' H') ∧ ∀ x H', (Itl K a).yld i H x H' → g x (wipe σ vs) H' fun σ2 H2 => wipe σ2 vs = wipe σ vs ∧ tt σ2 H2 fun b H3 =>
        if b = true then te σ2 H3 fun y H4 => ∃ acc, H4 D = some (.lst acc) ∧ acc.length < sizeLine ∧ Nx (upd H4 D (.lst (acc ++ [y]))) else Nx H3) := by
  refine lc_list (K := K) (a := a) (xs := r.map V.int) (fun i H => i ≤ r.length ∧ Same H1 H ∧ H D = some (.lst (((r.take i).filter pk).map V.int))) ⟨Nat.zero_le _, same_new hD _, upd_same⟩ (fun i H _ h => h.2.1.seq hS) (fun i x H hx ⟨_, s, hd⟩ => ?_) (fun H ⟨_, s, h⟩ => hd H s (by rw [List.length_map, List.take_length] at h; exact h))
  obtain ⟨z, rfl, hz⟩ := int_at hx
  have hi' := (List.getElem?_eq_some_iff.mp hz).1
  have e : (r.take (i + 1)).filter pk = (r.take i).filter pk ++ (if pk z = true then [z] else []) := by
    rw [List.take_add_one, hz, List.filter_append]
    congr 1
    show List.filter pk [z] = _
    rw [List.filter_cons]
    rfl
  have hlen : ((r.take i).filter pk).length ≤ 1000 := Nat.le_trans (List.length_filter_le _ _) (by rw [List.length_take]; omega)
  refine hs z H _ _ (List.mem_of_getElem? hz) s (fun H4 s4 c => ?_) (fun H4 s4 c => ⟨hi', fun b o q => s4 b o (s b o q), by rw [e, c, if_neg Bool.false_ne_true, List.append_nil]; exact s4 _ _ hd⟩)
  refine ⟨_, s4 _ _ hd, by rw [List.length_map]; exact small1000 (by omega), hi', fun b o q => ?_, ?_⟩
  · rw [upd_ne (ne_of_none q hD)]
    exact s4 b o (s b o q)
  · rw [upd_same, e, if_pos c, List.map_append]
    rfl
end
section
variable {d : Addr} {od : Obj} {kvs : List (List Key × V)} {g : TG} {te : TE} {vs : List Nat} {σ : L2.St} {H1 : Hp} {D : Addr} {Qd : Hp → Prop}
/-- a bool for each key of a locked dict with tuple keys -/
theorem lc_keysB (F : Row → Bool) (hk : ∀ p, p ∈ kvs → ∃ v, p.1 = kyO v) (hD : H1 D = none) (hn : kvs.length ≤ 1000) (hS : H1 d = some (.frz od (.dT kvs)))
    (hs : ∀ (v : Row) (t : Addr) (H : Hp) (N : VK), (∃ p, p ∈ kvs ∧ p.1 = kyO v) → H t = some (.tup (v.map V.int)) → Same H1 H → (∀ H4, Same H H4 → N (.bl (F v)) H4) → g (.ref t) (wipe σ vs) H fun σ2 H2 => wipe σ2 vs = wipe σ vs ∧ te σ2 H2 N)
    (hd : ∀ (H : Hp) (bs : List Bool), Same H1 H → H D = some (.lst (bs.map V.bl)) → (∀ b, b ∈ bs → ∃ p v, p ∈ kvs ∧ p.1 = kyO v ∧ b = F v) → (∀ p v, p ∈ kvs → p.1 = kyO v → F v ∈ bs) → Qd H) :
    ∃ W : Nat → Nat → Hp → Prop, (∃ m, W 0 m (upd H1 D (.lst []))) ∧ ∀ i m H, W i m H →
      ((Itkt d od kvs).stop i H ∧ Qd H) ∨ ((Itkt d od kvs).go i H ∧ ∃ Nx : Hp → Prop, (∀ H', Nx H' → ∃ m', m' < m ∧ W (i + 1) m' H') ∧ ∀ x H', (Itkt d od kvs).yld i H x H' → g x (wipe σ vs) H' fun σ2 H2 => wipe σ2 vs = wipe σ vs ∧ tYes σ2 H2 fun b H3 =>
        if b = true then te σ2 H3 fun y H4 => ∃ acc, H4 D = some (.lst acc) ∧ acc.length < sizeLine ∧ Nx (upd H4 D (.lst (acc ++ [y]))) else Nx H3) := by
  refine lc_it (walk_keysT (d := d) (o := od) (kvs := kvs)) (fun i H => Same H1 H ∧ ∃ bs : List Bool, H D = some (.lst (bs.map V.bl)) ∧ bs.length = i ∧ (∀ b, b ∈ bs → ∃ p v, p ∈ kvs ∧ p.1 = kyO v ∧ b = F v) ∧ ∀ p v, p ∈ kvs.take i → p.1 = kyO v → F v ∈ bs)
    ⟨same_new hD _, [], upd_same, rfl, fun b h => (by cases h), fun p v h => (by rw [List.take_zero] at h; cases h)⟩ (fun i H _ h => h.1 _ _ hS) ?_ ?_
  · rintro i x H H' hi ⟨s, bs, hdD, hlen, h1, h2⟩ ⟨rfl, ky, z, t, hki, rfl, ht⟩
    have hm := List.mem_of_getElem? hki
    obtain ⟨v, ev⟩ := hk _ hm
    have ev' : ky = kyO v := ev
    rw [ev', kyO_V] at ht
    refine hs v t H' _ ⟨_, hm, ev⟩ ht s (fun H4 s4 => ?_)
    refine ⟨_, s4 _ _ hdD, by rw [List.length_map]; exact small1000 (by omega), fun b o q => ?_, bs ++ [F v], by rw [upd_same, List.map_append]; rfl, by rw [List.length_append, hlen]; rfl, fun b hb => ?_, fun p u hp eu => ?_⟩
    · rw [upd_ne (ne_of_none q hD)]
      exact s4 b o (s b o q)
    · rcases List.mem_append.mp hb with c | c
      · exact h1 b c
      · rw [List.mem_singleton.mp c]
        exact ⟨_, v, hm, ev, rfl⟩
    · rw [List.take_add_one, hki] at hp
      rcases List.mem_append.mp hp with c | c
      · exact List.mem_append_left _ (h2 p u c eu)
      · have e : p = (ky, z) := List.mem_singleton.mp c
        rw [e] at eu
        have : v = u := kyO_inj (ev'.symm.trans eu)
        rw [this]
        exact List.mem_append_right _ List.mem_cons_self
  · rintro H ⟨s, bs, hdD, _, h1, h2⟩
    exact hd H bs s hdD h1 fun p v hp => h2 p v (by rw [List.take_length]; exact hp)
end
theorem bools_flat (bs : List Bool) : (bs.map V.bl).all flatV = true := by
  rw [List.all_map]
  exact List.all_eq_true.mpr fun _ _ => rfl
theorem inV_false (bs : List Bool) : inV (.bl false) (bs.map V.bl) = decide (false ∈ bs) := by
  unfold inV
  rw [List.any_map]
  by_cases h : false ∈ bs
  · rw [decide_eq_true h, List.any_eq_true]
    exact ⟨false, h, rfl⟩
  · rw [decide_eq_false h, List.any_eq_false]
    intro x hx
    cases x with
    | true => exact fun z => (by cases z)
    | false => exact absurd hx h
section
variable {P : Program} {w : World} {K : PySem.W.Frag} {mg : Str → Option Value} {base : Heap}
def spTry : Sp := fun vs H Q _ => ∃ (q w : Nat) (a f : Addr) (g : List Row) (fm : Row), vs = [.int q, .int w, .ref a, .ref f] ∧ q ∈ PL ∧ q < 8 ∧ w < 4 ∧ TT H a g ∧ H f = some (.tup (fm.map V.int)) ∧ (∀ r, r ∈ g → Res w q r) ∧ Res w q fm ∧ g.length ≤ 9 ∧
  ∀ (r : Int) (H' : Hp), (Fixed w q g fm → r = 1) → (¬ Fixed w q g fm → r = 0) → Same H H' → Q (.int r) H'
theorem ok_try (T : Top K mg) : FnOk P w K mg base CX0 2 T.f__law_by_trying T.d__law_by_trying ["q", "width", "rows", "form"] spTry := by
  have G__law_vectors := ok_vectors (P := P) (w := w) (base := base) T
  have G__law_product := ok_product (P := P) (w := w) (base := base) T
  refine T.F__law_by_trying.ok scLby_trying (fun vs H Q E h => ?_) (fun cdv A outer s H vs Q E hr h => ?_)
  · obtain ⟨_, _, _, _, _, _, rfl, _⟩ := h
    rfl
  obtain ⟨q, w, a, f, g, fm, rfl, hq, hq8, hw4, hT, hf, hg, hfr, hl, k⟩ := h
  have qr := pl_range q hq
  have q0 : (0 : Int) < q := by omega
  refine ⟨_, (pss_cons (ps_set (i := 4) scLby_trying.nd rfl (Or.inr rfl) pe_dnewT)
      (pss_cons (ps_for PassesOwn.never rfl (pi_list (pe_call G__law_vectors (hr.mono (by decide)) rfl T.m__law_vectors T.F__law_vectors.kp T.b__law_vectors .nil pass0 (pa_cons (pv 0) (pa_cons (pv 1) pa_nil)))) (pg_name (i := 5) scLby_trying.nd rfl (Or.inr rfl)) (pss_cons (ps_set (i := 6) scLby_trying.nd rfl (Or.inl rfl) (pe_callTy call_tuple_of (by rfl) T.z_tuple (by decide +kernel) (pa_cons (pe_lc (own := [("row", 7)]) (g := gName 7) (tt := tYes) rfl scLby_trying.nd (pi_tup (pv 2)) (blkOk_by (own := [("row", 7)]) (N := ["q", "width", "rows", "form", "counts", "x", "values", "row", "many", "at", "alone", "one", "even"]) (sc := defScope s_Lby_trying) (by decide +kernel)) (fun _ _ _ _ _ => (pg_name (i := 7) scLby_trying.nd rfl (Or.inl rfl))) (fun _ _ _ _ _ => pts_nil) (fun _ _ _ _ _ => (pe_call G__law_product (hr.mono (by decide)) rfl T.m__law_product T.F__law_product.kp T.b__law_product .nil pass0 (pa_cons (pv 0) (pa_cons (pv 7) (pa_cons (pv 5) pa_nil)))))) pa_nil)))
      (pss_cons (ps_set (i := 8) scLby_trying.nd rfl (Or.inl rfl) (pe_dget2 (hu_of hr) (pv 4) (pv 6) (pe_op op_rep (pe_lst (pa_cons pe_int pa_nil)) (pv 0)) ⟨by rfl, by rfl, by rfl, by rfl⟩))
      (pss_cons (ps_set (i := 9) scLby_trying.nd rfl (Or.inl rfl) (pe_call G__law_product (hr.mono (by decide)) rfl T.m__law_product T.F__law_product.kp T.b__law_product .nil pass0 (pa_cons (pv 0) (pa_cons (pv 3) (pa_cons (pv 5) pa_nil)))))
      (pss_one (ps_dput (hu_of hr) (pv 4) (pv 6) (pe_op op_cat (pe_op op_cat (pe_slice sl_list (pv 8) po_none (po_some (pv 9))) (pe_lst (pa_cons (pe_op op_add (pe_ix ix_list (pv 8) (pv 9) (fun _ _ => rfl)) pe_int) pa_nil))) (pe_slice sl_list (pv 8) (po_some (pe_op op_add (pv 9) pe_int)) po_none)) rfl))))))
      (pss_cons (ps_lock (ps_setLc (i := 10) (own := [("values", 6)]) (g := gName 6) (tt := tYes) rfl scLby_trying.nd rfl rfl (sw_true rfl rfl rfl (by decide +kernel)) (pi_keys (pv 4)) (blkOk_by (own := [("values", 6)]) (N := ["q", "width", "rows", "form", "counts", "x", "values", "row", "many", "at", "alone", "one", "even"]) (sc := defScope s_Lby_trying) (by decide +kernel)) (fun _ _ _ _ _ => (pg_name (i := 6) scLby_trying.nd rfl (Or.inl rfl))) (fun _ _ _ _ _ => pts_nil) (fun _ _ _ _ _ => (pe_cmpR op_eq (pe_callB (call_len_seqK K rfl) (by rfl) T.z_len PySem.boot_len (pa_cons (pe_lc (own := [("one", 11)]) (g := gName 11)  rfl scLby_trying.nd (pi_listK K rfl (pe_dget (hu_of hr) (pv 4) (pv 6) (fun _ _ => rfl))) (blkOk_by (own := [("one", 11)]) (N := ["q", "width", "rows", "form", "counts", "x", "values", "row", "many", "at", "alone", "one", "even"]) (sc := relS _ (defScope s_Lby_trying)) (by decide +kernel)) (fun _ _ _ _ _ => (pg_name (i := 11) scLby_trying.nd rfl (Or.inl rfl))) (fun _ _ _ _ _ => (pts_one (pt_cmpR op_gt (pv 11) pe_int (nomark _)))) (fun _ _ _ _ _ => (pv 11))) pa_nil)) pe_int (nomark _)))))
      (pss_cons (ps_lock (ps_setLc (i := 12) (own := [("values", 6)]) (g := gName 6) (tt := tYes) rfl scLby_trying.nd rfl rfl (sw_true rfl rfl rfl (by decide +kernel)) (pi_keys (pv 4)) (blkOk_by (own := [("values", 6)]) (N := ["q", "width", "rows", "form", "counts", "x", "values", "row", "many", "at", "alone", "one", "even"]) (sc := defScope s_Lby_trying) (by decide +kernel)) (fun _ _ _ _ _ => (pg_name (i := 6) scLby_trying.nd rfl (Or.inr rfl))) (fun _ _ _ _ _ => pts_nil) (fun _ _ _ _ _ => (pe_cmpR op_eq (pe_callB (call_len_seqK K rfl) (by rfl) T.z_len PySem.boot_len (pa_cons (pe_lc (own := [("one", 11)]) (g := gName 11)  rfl scLby_trying.nd (pi_listK K rfl (pe_dget (hu_of hr) (pv 4) (pv 6) (fun _ _ => rfl))) (blkOk_by (own := [("one", 11)]) (N := ["q", "width", "rows", "form", "counts", "x", "values", "row", "many", "at", "alone", "one", "even"]) (sc := relS _ (defScope s_Lby_trying)) (by decide +kernel)) (fun _ _ _ _ _ => (pg_name (i := 11) scLby_trying.nd rfl (Or.inl rfl))) (fun _ _ _ _ _ => (pts_one (pt_cmpR op_ne (pv 11) (pe_ix (show IxR _ (rIxL K) from ix_list) (pe_dget (hu_of hr) (pv 4) (pv 6) (fun _ _ => rfl)) pe_int (fun _ _ => rfl)) (nomark _)))) (fun _ _ _ _ _ => (pv 11))) pa_nil)) pe_int (nomark _)))))
      (pss_cons (ps_if (pt_cmpR op_notIn_seq pe_bl (pv 10) (by rfl)) (pss_one (ps_ret pe_int)) pss_nil)
      (pss_cons (ps_if (pt_cmpR op_notIn_seq pe_bl (pv 12) (by rfl)) (pss_one (ps_ret pe_int)) pss_nil)
      (pss_one (ps_ret pe_int)))))))), ?_⟩
  walk_at "ss"
  intro D hD
  have sD := same_new hD (.dT [])
  walk_at "ss"
  refine ⟨q, w, rfl, qr.1, hq8, hw4, fun p H1 hL hlen s1 => ?_⟩
  obtain ⟨xvs, hp, hX⟩ := id hL
  obtain ⟨gvs, hga, hgv⟩ := id ((hT.same sD).same s1)
  have hf1 := s1 _ _ (sD _ _ hf)
  have hd1 := s1 _ _ (upd_same : upd H D (.dT []) D = _)
  walk_at "ss"
  refine ⟨⟨_, SqL.of hp⟩, for_list (K := K) (a := p) (xs := xvs) (fun i σ H4 => ∃ (v5 v6 v7 v8 v9 : Option V) (kvs : List (List Key × V)), σ = [some (.int q), some (.int w), some (.ref a), some (.ref f), some (.ref D), v5, v6, v7, v8, v9, none, none, none] ∧ i ≤ xvs.length ∧ Same H H4 ∧ Keep D H1 H4 ∧ H4 D = some (.dT kvs) ∧ kvs.length ≤ i ∧ CT H4 w q g fm kvs ((vecs q w).take i))
    ⟨_, _, _, _, _, [], rfl, Nat.zero_le _, sD.trans s1, Keep.refl _, hd1, Nat.le_refl _, CT.start⟩ (fun i σ H4 _ ⟨_, _, _, _, _, _, _, _, _, k4, _⟩ => SqL.of (k4 _ _ hp (ne_of hp hd1 (by intro z; cases z)))) ?_ ?_⟩
  · rintro i y σ H4 hy ⟨v5, v6, v7, v8, v9, kvs, rfl, _, sH, k4, hd4, hkl, C⟩
    obtain ⟨x, hx, bx, rfl, hbx⟩ := hX.get hy
    have hil := (List.getElem?_eq_some_iff.mp hy).1
    have hxl := hX.1
    have hxr : Res w q x := (mem_vecs (by omega)).mp (List.mem_of_getElem? hx)
    have nt : ∀ {b : Addr} {xs : List V}, H1 b = some (.tup xs) → H4 b = some (.tup xs) := fun h => k4 _ _ h (ne_of h hd1 (by intro z; cases z))
    have hga4 := nt hga
    have hgv4 : Rows (RowT H4) gvs g := hgv.mono fun v r ⟨b, e, h⟩ => ⟨b, e, nt h⟩
    have hbx4 := nt hbx
    have hf4 := nt hf1
    walk_at "ss"
    refine ⟨⟨_, SqT.of hga4⟩, ?_⟩
    intro L hLn
    refine lc_valT (K := K) (a := a) (fun r => dot w r (gt x) % (q : Int)) hLn (by omega) hga4 hgv4 (fun y r H5 N hr ⟨c, e, hc⟩ s5 n => ?_) (fun H5 s5 hL5 => ?_)
    · subst e
      refine ⟨rfl, ?_⟩
      walk_at "ss"
      exact ⟨q, w, c, bx, r, x, rfl, hq, hc, .inl (s5 _ _ hbx4), hg r hr, hxr, by omega, n⟩
    have evl : g.map (fun r => dot w r (gt x) % (q : Int)) = vl w q g x := rfl
    rw [evl] at hL5
    walk_at "ss"
    refine ⟨_, _, rfl, .inl ⟨SqL.of hL5, fun t ht => ?_⟩⟩
    have st := same_new ht (.tup ((vl w q g x).map V.int))
    have s6 := s5.trans st
    walk_at "ss"
    refine ⟨.inr ⟨kvs, .inl (s6 _ _ hd4)⟩, ?_⟩
    walk_at "ss"
    intro z hz
    have sz := same_new hz (.lst [.int 0])
    walk_at "ss"
    refine ⟨z, q, [.int 0], rfl, rfl, upd_same, by omega, by omega, Nat.le_of_lt (small1000 (by rw [Int.toNat_natCast]; simp; omega)), fun Z hZ => ?_⟩
    rw [Int.toNat_natCast, rep_zero]
    have sZ := same_new hZ (.lst ((mkr q fun _ => (0 : Int)).map V.int))
    have s7 := s6.trans (sz.trans sZ)
    have ht7 := sZ _ _ (sz _ _ (upd_same : upd H5 t (.tup ((vl w q g x).map V.int)) t = _))
    refine ⟨valV kvs (kyO (vl w q g x)), .inr ⟨kvs, _, t, .inl (s7 _ _ hd4), rfl, by rw [kyO_V]; exact ht7, rfl⟩, ?_⟩
    obtain ⟨mA, emA, hmA⟩ := (C.mono (H' := _) fun a xs h => s7 _ _ h).old (vl w q g x) rfl (z := Z) upd_same
    rw [emA]
    obtain ⟨H7, eH7⟩ : ∃ H7, H7 = upd (upd (upd H5 t (.tup ((vl w q g x).map V.int))) z (.lst [.int 0])) Z (.lst ((mkr q fun _ => (0 : Int)).map V.int)) := ⟨_, rfl⟩
    rw [← eH7] at s7 ht7 hmA ⊢
    clear eH7 sZ sz hZ hz
    walk_at "ss"
    refine ⟨q, w, f, bx, fm, x, rfl, hq, s7 _ _ hf4, .inl (s7 _ _ hbx4), hfr, hxr, by omega, fun H8 s8 => ?_⟩
    have s78 := s7.trans s8
    have hmA8 := s8 _ _ hmA
    have ht8 := s8 _ _ ht7
    have fb := fat_rng (w := w) (fm := fm) (x := x) (show 0 < q by omega)
    obtain ⟨A, eA⟩ := Int.eq_ofNat_of_zero_le fb.1
    have efa : dot w fm (gt x) % (q : Int) = (A : Int) := eA
    have hAq : A < q := by have := fb.2; omega
    have hAl : A < (cl w q g fm ((vecs q w).take i) (vl w q g x)).length := by rw [cl_len]; exact hAq
    rw [efa]
    walk_at "ss"
    obtain ⟨cv, ecv⟩ : ∃ cv, cv = cl w q g fm ((vecs q w).take i) (vl w q g x) := ⟨_, rfl⟩
    rw [← ecv] at hmA hmA8 hAl
    have hcl : cv.length = q := by rw [ecv, cl_len]
    refine ⟨_, _, rfl, SqL.of hmA8, fun p1 hp1 => ?_⟩
    rw [cut_hi (k := A) _ rfl]
    have sp1 := same_new hp1 (.lst ((cv.map V.int).take A))
    walk_at "ss"
    refine ⟨_, _, _, _, rfl, rfl, SqL.of (sp1 _ _ hmA8), atI_intN hAl, ?_⟩
    walk_at "ss"
    intro p2 hp2
    have sp2 := same_new hp2 (.lst [.int (gt cv A + 1)])
    have sp12 := sp1.trans sp2
    refine ⟨_, _, _, _, rfl, rfl, sp2 _ _ upd_same, upd_same, Nat.le_of_lt (small1000 (by rw [List.length_take, List.length_map]; simp; omega)), fun p3 hp3 => ?_⟩
    have sp3 := same_new hp3 (.lst ((cv.map V.int).take A ++ [.int (gt cv A + 1)]))
    have sp13 := sp12.trans sp3
    walk_at "ss"
    refine ⟨_, _, rfl, SqL.of (sp13 _ _ hmA8), fun p4 hp4 => ?_⟩
    rw [cut_lo (k := A + 1) ((A : Int) + 1) (by omega)]
    have sp4 := same_new hp4 (.lst ((cv.map V.int).drop (A + 1)))
    have sp14 := sp13.trans sp4
    refine ⟨_, _, _, _, rfl, rfl, sp4 _ _ upd_same, upd_same, Nat.le_of_lt (small1000 (by rw [List.length_append, List.length_take, List.length_drop, List.length_map]; simp; omega)), fun p5 hp5 => ?_⟩
    have sp5 := same_new hp5 (.lst ((cv.map V.int).take A ++ [.int (gt cv A + 1)] ++ (cv.map V.int).drop (A + 1)))
    have sp15 := sp14.trans sp5
    have e5 : ((cv.map V.int).take A ++ [V.int (gt cv A + 1)] ++ (cv.map V.int).drop (A + 1)) = (cl w q g fm ((vecs q w).take (i + 1)) (vl w q g x)).map V.int := by
      rw [List.take_add_one, hx]
      show _ = (cl w q g fm ((vecs q w).take i ++ [x]) (vl w q g x)).map V.int
      rw [cl_eq (by omega), ← ecv, show (fat w q fm x).toNat = A by rw [eA]; rfl, cut_set hAl, List.map_append, List.map_cons, List.map_take, List.map_drop, List.append_assoc]
      rfl
    rw [e5] at sp5 sp15 ⊢
    have s8x := s78.trans sp15
    walk_at "ss"
    obtain ⟨H9, eH9⟩ : ∃ H9, H9 = upd (upd (upd (upd (upd H8 p1 (.lst ((cv.map V.int).take A))) p2 (.lst [.int (gt cv A + 1)])) p3 (.lst ((cv.map V.int).take A ++ [.int (gt cv A + 1)]))) p4 (.lst ((cv.map V.int).drop (A + 1)))) p5 (.lst ((cl w q g fm ((vecs q w).take (i + 1)) (vl w q g x)).map V.int)) := ⟨_, rfl⟩
    have hp5v : H9 p5 = some (.lst ((cl w q g fm ((vecs q w).take (i + 1)) (vl w q g x)).map V.int)) := by rw [eH9]; exact upd_same
    have ht9 : H9 t = some (.tup ((vl w q g x).map V.int)) := by rw [eH9]; exact sp15 _ _ ht8
    have s9 : Same H4 H9 := by rw [eH9]; exact s8x
    have hd9 := s9 _ _ hd4
    refine ⟨D, _, rfl, DPut.t (k := kyO (vl w q g x)) (by rw [← eH9]; exact hd9) (by rw [← eH9, kyO_V]; exact ht9) (small1000 (by omega)), ?_⟩
    rw [← eH9]
    clear eH9 sp5 sp15 sp14 sp13 sp12 sp1 sp2 sp3 sp4 s8x hp1 hp2 hp3 hp4 hp5
    have dD : H D = none := hD
    refine ⟨_, _, _, _, _, _, rfl, hil, fun b o e => ?_, (k4.trans (Keep.of s9)).put, upd_same, Nat.le_trans (length_putK _ _ _) (by omega), ?_⟩
    · rw [upd_ne (ne_of_none e dD)]
      exact s9 _ _ (sH _ _ e)
    · rw [List.take_add_one, hx] at hp5v ⊢
      refine ((C.mono fun b xs e => s9 _ _ e).step hp5v).mono fun b xs e => ?_
      rw [upd_ne (ne_of e hd9 (by intro z; cases z))]
      exact e
  · rintro σ H4 ⟨v5, v6, v7, v8, v9, kvs, rfl, _, sH, k4, hd4, hkl, C⟩
    rw [hX.1, List.take_length] at C
    rw [hX.1] at hkl
    walk_at "ss"
    refine ⟨D, _, hd4, trivial, fun od => ?_⟩
    walk_at "ss"
    refine ⟨D, od, rfl, .inr ⟨kvs, upd_same, ?_⟩⟩
    intro L hLn
    refine lc_keysB (fun v => decide (posn (cl w q g fm (vecs q w) v) = 1)) C.keys hLn (by omega) upd_same (fun v t H5 N ⟨pr, hpr, epr⟩ ht s5 n => ?_) (fun H5 bs s5 hL5 hb1 hb2 => ?_)
    · obtain ⟨zv, hzv⟩ := valV_memk hpr
      rw [epr] at hzv
      obtain ⟨_, m, em, hm⟩ := C.so v zv hzv
      subst em
      have hm5 := s5 m _ (by rw [upd_ne (ne_of hm hd4 (by intro z; cases z))]; exact hm)
      refine ⟨rfl, ?_⟩
      walk_at "ss"
      refine ⟨D, _, rfl, .inr ⟨kvs, kyO v, t, .inr ⟨od, s5 _ _ upd_same⟩, rfl, by rw [kyO_V]; exact ht, hzv.symm⟩, ?_⟩
      refine ⟨m, rfl, ⟨_, SqL.of hm5⟩, ?_⟩
      intro M hM
      refine lc_pick (fun z => decide (0 < z)) hM (by rw [cl_len]; omega) (SqL.of hm5) (fun z H6 N1 N0 hz s6 n1 n0 => ?_) (fun H6 s6 h6 => ?_)
      · refine ⟨rfl, ?_⟩
        walk_at "ss"
        refine ite2 (fun c => ?_) (fun c => ?_)
        · walk_at "ss"
          exact n1 H6 (Same.refl H6) c
        · exact n0 H6 (Same.refl H6) (Bool.eq_false_iff.mpr c)
      · walk_at "ss"
        have g1 := n H6 s6
        have e : decide (V.int (((((cl w q g fm (vecs q w) v).filter fun z => decide (0 < z)).map V.int).length : Nat) : Int) = V.int 1) = decide (posn (cl w q g fm (vecs q w) v) = 1) := by
          rw [List.length_map]
          refine decide_eq_decide.mpr ⟨fun z => ?_, fun z => ?_⟩
          · have := V.int.inj z
            unfold posn
            omega
          · unfold posn at z
            rw [z]
            rfl
        rw [← e] at g1
        exact g1
    · walk_at "ss"
      refine ⟨s5 _ _ upd_same, ?_⟩
      have hLD : L ≠ D := fun e => by
        rw [e, upd_same] at hLn
        cases hLn
      obtain ⟨H6, eH6⟩ : ∃ H6, H6 = upd H5 D (.dT kvs) := ⟨_, rfl⟩
      have hd6 : H6 D = some (.dT kvs) := by rw [eH6]; exact upd_same
      have hL6 : H6 L = some (.lst (bs.map V.bl)) := by rw [eH6, upd_ne hLD]; exact hL5
      have k6 : Keep D H4 H6 := fun b o e n => by
        rw [eH6, upd_ne n]
        exact s5 _ _ (by rw [upd_ne n]; exact e)
      rw [← eH6]
      walk_at "ss"
      refine ⟨D, _, hd6, trivial, fun od2 => ?_⟩
      walk_at "ss"
      refine ⟨D, od2, rfl, .inr ⟨kvs, upd_same, ?_⟩⟩
      intro L2 hL2
      refine lc_keysB (fun v => decide (evn (cl w q g fm (vecs q w) v) = 0)) C.keys hL2 (by omega) upd_same (fun v t H7 N ⟨pr, hpr, epr⟩ ht s7 n => ?_) (fun H7 cs s7 hL7 hc1 hc2 => ?_)
      · obtain ⟨zv, hzv⟩ := valV_memk hpr
        rw [epr] at hzv
        obtain ⟨_, m, em, hm⟩ := C.so v zv hzv
        subst em
        have hm7 := s7 m _ (by rw [upd_ne (ne_of hm hd4 (by intro z; cases z))]; exact k6 _ _ hm (ne_of hm hd4 (by intro z; cases z)))
        have hd7 := s7 _ _ upd_same
        refine ⟨rfl, ?_⟩
        walk_at "ss"
        refine ⟨D, _, rfl, .inr ⟨kvs, kyO v, t, .inr ⟨od2, hd7⟩, rfl, by rw [kyO_V]; exact ht, hzv.symm⟩, ?_⟩
        refine ⟨m, rfl, ⟨_, SqL.of hm7⟩, ?_⟩
        intro M hM
        refine lc_pick (fun z => decide (z ≠ gt (cl w q g fm (vecs q w) v) 0)) hM (by rw [cl_len]; omega) (SqL.of hm7) (fun z H8 N1 N0 hz s8 n1 n0 => ?_) (fun H8 s8 h8 => ?_)
        · refine ⟨rfl, ?_⟩
          walk_at "ss"
          refine ⟨D, _, rfl, .inr ⟨kvs, kyO v, t, .inr ⟨od2, s8 _ _ hd7⟩, rfl, by rw [kyO_V]; exact s8 _ _ ht, hzv.symm⟩, ?_⟩
          walk_at "ss"
          refine ⟨_, _, _, _, rfl, rfl, SqL.of (s8 _ _ hm7), atI_nat (j := 0) (show ((cl w q g fm (vecs q w) v).map V.int)[0]? = some (.int (gt (cl w q g fm (vecs q w) v) 0)) from ?_), ?_⟩
          · rw [List.getElem?_map, List.getElem?_eq_getElem (by rw [cl_len]; omega)]
            unfold gt
            rw [List.getD_eq_getElem?_getD, List.getElem?_eq_getElem (by rw [cl_len]; omega)]
            rfl
          walk_at "ss"
          refine ite2 (fun c => ?_) (fun c => ?_)
          · walk_at "ss"
            exact n1 H8 (Same.refl H8) (decide_eq_true (ne_yes c))
          · exact n0 H8 (Same.refl H8) (decide_eq_false fun z => z (ne_no c))
        · walk_at "ss"
          have g1 := n H8 s8
          have e : decide (V.int (((((cl w q g fm (vecs q w) v).filter fun z => decide (z ≠ gt (cl w q g fm (vecs q w) v) 0)).map V.int).length : Nat) : Int) = V.int 0) = decide (evn (cl w q g fm (vecs q w) v) = 0) := by
            rw [List.length_map]
            refine decide_eq_decide.mpr ⟨fun z => ?_, fun z => ?_⟩
            · have := V.int.inj z
              unfold evn
              omega
            · unfold evn at z
              rw [z]
              rfl
          rw [← e] at g1
          exact g1
      · walk_at "ss"
        refine ⟨s7 _ _ upd_same, ?_⟩
        have hL2D : L2 ≠ D := fun e => by
          rw [e, upd_same] at hL2
          cases hL2
        obtain ⟨H8, eH8⟩ : ∃ H8, H8 = upd H7 D (.dT kvs) := ⟨_, rfl⟩
        have hL8 : H8 L = some (.lst (bs.map V.bl)) := by rw [eH8, upd_ne hLD]; exact s7 _ _ (by rw [upd_ne hLD]; exact hL6)
        have hL28 : H8 L2 = some (.lst (cs.map V.bl)) := by rw [eH8, upd_ne hL2D]; exact hL7
        have sH8 : Same H H8 := fun b o e => by
          have n := ne_of_none e hD
          rw [eH8, upd_ne n]
          exact s7 _ _ (by rw [upd_ne n]; exact k6 _ _ (sH _ _ e) n)
        rw [← eH8]
        walk_at "ss"
        have hB : false ∈ bs → ¬ Fixed w q g fm := fun hm hf => by
          obtain ⟨p, v, hp, ep, e⟩ := hb1 _ hm
          obtain ⟨zv, hzv⟩ := valV_memk hp
          rw [ep] at hzv
          obtain ⟨⟨x, hx, rfl⟩, _⟩ := C.so v zv hzv
          rw [decide_eq_true (pos_fixed hq hf hx)] at e
          cases e
        have hB2 : ¬ Fixed w q g fm → false ∈ bs := fun hf => by
          obtain ⟨x, hx⟩ := vecs_some (q := q) (w := w) (by omega)
          cases e : valV kvs (kyO (vl w q g x)) with
          | none => exact absurd rfl (C.no _ e x hx)
          | some z =>
            obtain ⟨p, hp, ep⟩ := List.mem_map.mp (valV_in e)
            have := hb2 p _ hp ep
            rw [decide_eq_false (pos_not hq hf hx)] at this
            exact this
        have hC : ¬ Fixed w q g fm → false ∉ cs := fun hf hm => by
          obtain ⟨p, v, hp, ep, e⟩ := hc1 _ hm
          rw [decide_eq_true (evn_not hq hf)] at e
          cases e
        refine ⟨bools_flat bs, ?_⟩
        rw [inV_false, if_pos rfl]
        walk_at "ss"
        refine ite2 (fun c => ?_) (fun c => ?_)
        · have c' : false ∉ bs := fun m => by
            rw [decide_eq_true m] at c
            cases c
          walk_at "ss"
          exact k 1 H8 (fun _ => rfl) (fun hf => absurd (hB2 hf) c') sH8
        · have c' : false ∈ bs := Classical.byContradiction fun m => c (by rw [decide_eq_false m]; rfl)
          have nf := hB c'
          walk_at "ss"
          refine ⟨bools_flat cs, ?_⟩
          rw [inV_false, if_pos rfl]
          walk_at "ss"
          refine ite2 (fun c2 => ?_) (fun c2 => ?_)
          · walk_at "ss"
            exact k 0 H8 (fun hf => absurd hf nf) (fun _ => rfl) sH8
          · exact absurd (by rw [decide_eq_false (hC nf)]; rfl : (!decide (false ∈ cs)) = true) c2
end
theorem cat_row {K : PySem.W.Frag} {H : Hp} {p b f : Addr} {g : List Row} {fm : Row} {Q : VK} (hT : TT H p g) (hb : H b = some (.tup [.ref f])) (hf : H f = some (.tup (fm.map V.int))) (hl : g.length ≤ 900)
    (h : ∀ (z : Addr) (H' : Hp), Same H H' → TT H' z (g ++ [fm]) → Q (.ref z) H') : rCatA K (.ref p) (.ref b) H Q := by
  obtain ⟨vs, ha, hv⟩ := hT
  have hvl := hv.1
  refine ⟨p, b, vs, [.ref f], rfl, rfl, SqT.of ha, SqT.of hb, ?_, fun c => ?_, fun _ c => (by cases c), fun _ _ z hz => ?_⟩
  · exact Nat.le_of_lt (small1000 (by simp; omega))
  · subst c
    have e : g = [] := List.length_eq_zero_iff.mp (by rw [← hvl]; rfl)
    subst e
    exact h b H (Same.refl H) ⟨_, hb, Rows.one ⟨f, rfl, hf⟩⟩
  · have sz := same_new hz (.tup (vs ++ [.ref f]))
    exact h z _ sz ⟨_, upd_same, (hv.append (Rows.one ⟨f, rfl, hf⟩)).mono fun v r h => h.same sz⟩
def spLaw (K : PySem.W.Frag) : Sp := fun vs H Q _ => ∃ (a : Addr) (ns : List Int), vs = [.ref a] ∧ SqL K H a (ns.map V.int) ∧ ns.length ≤ 63 ∧ ∀ H', Q (.bl true) H'
section
variable {P : Program} {w : World} {K : PySem.W.Frag} {mg : Str → Option Value} {base : Heap}
theorem ok_law (T : Top K mg) : FnOk P w K mg base CX0 9 T.f_law T.d_law ["script"] (spLaw K) := by
  have G__law_pool := ok_pool (P := P) (w := w) (base := base) T
  have G__law_order := ok_order (P := P) (w := w) (base := base) T
  have G__law_take := ok_take (P := P) (w := w) (base := base) T
  have G__law_rows := ok_rows (P := P) (w := w) (base := base) T
  have G__law_form := ok_form (P := P) (w := w) (base := base) T
  have G__law_reduced := ok_lreduced (P := P) (w := w) (base := base) T
  have G_is_fixed := ok_fixed (P := P) (w := w) (base := base) T
  have G_rank := ok_rank (P := P) (w := w) (base := base) T
  have G__law_by_trying := ok_try (P := P) (w := w) (base := base) T
  refine T.F_law.ok sclaw (fun vs H Q E h => ?_) (fun cdv A outer s H vs Q E hr h => ?_)
  · obtain ⟨_, _, rfl, _⟩ := h
    rfl
  obtain ⟨a, ns, rfl, hS, h63, k⟩ := h
  refine ⟨_, (pss_cons (ps_set (i := 1) sclaw.nd rfl (Or.inl rfl) (pe_call G__law_pool (hr.mono (by decide)) rfl T.m__law_pool T.F__law_pool.kp T.b__law_pool .nil pass0 (pa_cons (pv 0) pa_nil)))
      (pss_cons (ps_set (i := 2) sclaw.nd rfl (Or.inl rfl) (pe_call G__law_order (hr.mono (by decide)) rfl T.m__law_order T.F__law_order.kp T.b__law_order .nil pass0 (pa_cons (pv 1) (pa_cons pe_int pa_nil))))
      (pss_cons (ps_set (i := 3) sclaw.nd rfl (Or.inl rfl) (pe_call G__law_take (hr.mono (by decide)) rfl T.m__law_take T.F__law_take.kp T.b__law_take .nil pass0 (pa_cons (pv 1) (pa_cons pe_int pa_nil))))
      (pss_cons (ps_set (i := 4) sclaw.nd rfl (Or.inl rfl) (pe_call G__law_take (hr.mono (by decide)) rfl T.m__law_take T.F__law_take.kp T.b__law_take .nil pass0 (pa_cons (pv 1) (pa_cons pe_int pa_nil))))
      (pss_cons (ps_if (pt_cmpR op_eq (pe_call G__law_take (hr.mono (by decide)) rfl T.m__law_take T.F__law_take.kp T.b__law_take .nil pass0 (pa_cons (pv 1) (pa_cons pe_int pa_nil))) pe_int (nomark _)) (pss_cons (ps_set (i := 3) sclaw.nd rfl (Or.inl rfl) (pe_op op_add pe_int (pe_call G__law_take (hr.mono (by decide)) rfl T.m__law_take T.F__law_take.kp T.b__law_take .nil pass0 (pa_cons (pv 1) (pa_cons pe_int pa_nil)))))
      (pss_one (ps_set (i := 4) sclaw.nd rfl (Or.inl rfl) (pe_op op_add pe_int (pe_call G__law_take (hr.mono (by decide)) rfl T.m__law_take T.F__law_take.kp T.b__law_take .nil pass0 (pa_cons (pv 1) (pa_cons pe_int pa_nil))))))) pss_nil)
      (pss_cons (ps_set (i := 5) sclaw.nd rfl (Or.inl rfl) (pe_call G__law_rows (hr.mono (by decide)) rfl T.m__law_rows T.F__law_rows.kp T.b__law_rows .nil pass0 (pa_cons (pv 1) (pa_cons (pv 2) (pa_cons (pv 3) (pa_cons (pv 4) pa_nil))))))
      (pss_cons (ps_for PassesOwn.never rfl (pi_range1 (by rfl) T.z_range (pa_cons pe_int pa_nil)) (pg_name (i := 6) sclaw.nd rfl (Or.inl rfl)) (pss_cons (ps_set (i := 7) sclaw.nd rfl (Or.inl rfl) (pe_call G__law_form (hr.mono (by decide)) rfl T.m__law_form T.F__law_form.kp T.b__law_form .nil pass0 (pa_cons (pv 1) (pa_cons (pv 2) (pa_cons (pv 3) (pa_cons (pv 5) pa_nil))))))
      (pss_cons (ps_set (i := 8) sclaw.nd rfl (Or.inl rfl) (pe_lst (pa_cons (pe_callB call_len_seq (by rfl) T.z_len PySem.boot_len (pa_cons (pe_ix ix_tup (pe_call G__law_reduced (hr.mono (by decide)) rfl T.m__law_reduced T.F__law_reduced.kp T.b__law_reduced .nil pass0 (pa_cons (pv 2) (pa_cons (pv 3) (pa_cons (pv 5) pa_nil)))) pe_int (fun _ _ => rfl)) pa_nil)) (pa_cons (pe_callB call_len_seq (by rfl) T.z_len PySem.boot_len (pa_cons (pe_ix ix_tup (pe_call G__law_reduced (hr.mono (by decide)) rfl T.m__law_reduced T.F__law_reduced.kp T.b__law_reduced .nil pass0 (pa_cons (pv 2) (pa_cons (pv 3) (pa_cons (pe_op op_catA (pv 5) (pe_tup (pa_cons (pv 7) pa_nil))) pa_nil)))) pe_int (fun _ _ => rfl)) pa_nil)) pa_nil))))
      (pss_cons (ps_set (i := 9) sclaw.nd rfl (Or.inl rfl) (pe_cmpR op_eq (pe_ix ix_list (pv 8) pe_int (fun _ _ => rfl)) (pe_ix ix_list (pv 8) pe_int (fun _ _ => rfl)) (nomark _)))
      (pss_cons (ps_set (i := 10) sclaw.nd rfl (Or.inl rfl) (pe_callK0 G_is_fixed (hr.mono (by decide)) rfl T.m_is_fixed T.F_is_fixed.kp T.k_is_fixed_0_q_width_rows_form pass0 (pk_cons (pv 2) (pk_cons (pv 3) (pk_cons (pv 5) (pk_cons (pv 7) pk_nil))))))
      (pss_cons (ps_if (PW.pt (pw_or (pt_not (pt_val (pe_callB call_isi (by rfl) T.z_isinstance (by decide +kernel) (pa_cons (pv 10) (pa_cons (pe_bltn (v := .ty "bool") (by rfl) T.z_bool (by decide +kernel) rfl) pa_nil))))) (pw_or (pt_cmpR op_ne (pv 10) (pv 9) (nomark _)) (pw_or1 (pt_cmpR op_ne (pe_call G_rank (hr.mono (by decide)) rfl T.m_rank T.F_rank.kp T.b_rank .nil pass0 (pa_cons (pv 2) (pa_cons (pv 3) (pa_cons (pe_op op_catA (pv 5) (pe_tup (pa_cons (pv 7) pa_nil))) pa_nil)))) (pe_ix ix_list (pv 8) pe_int (fun _ _ => rfl)) (nomark _)))))) (pss_one (ps_ret pe_bl)) pss_nil)
      (pss_one (ps_if (PW.pt (pw_and (pt_cmpR op_lt (pv 2) pe_int (nomark _)) (pw_and (pt_cmpR op_lt (pv 3) pe_int (nomark _)) (pw_and1 (pt_cmpR op_ne (pe_call G__law_by_trying (hr.mono (by decide)) rfl T.m__law_by_trying T.F__law_by_trying.kp T.b__law_by_trying .nil pass0 (pa_cons (pv 2) (pa_cons (pv 3) (pa_cons (pv 5) (pa_cons (pv 7) pa_nil))))) (pe_callTy call_int1 (by rfl) T.z_int (by decide +kernel) (pa_cons (pv 9) pa_nil)) (nomark _)))))) (pss_one (ps_ret pe_bl)) pss_nil))))))))
      (pss_one (ps_ret pe_bl))))))))), ?_⟩
  walk_at "ss"
  refine ⟨a, ns, rfl, hS, h63, fun b c H1 s1 B1 => ?_⟩
  walk_at "ss"
  refine ⟨b, c, rfl, B1, fun q H2 hq B2 k2 => ?_⟩
  have qr := pl_range q hq
  walk_at "ss"
  refine ⟨b, c, _, rfl, B2, by decide, by decide, fun r1 H3 r10 r11 B3 k3 => ?_⟩
  walk_at "ss"
  refine ⟨b, c, _, rfl, B3, by decide, by decide, fun r2 H4 r20 r21 B4 k4 => ?_⟩
  walk_at "ss"
  refine ⟨b, c, _, rfl, B4, by decide, by decide, fun r3 H5 r30 r31 B5 k5 => ?_⟩
  walk_at "ss"
  clear k2 k3 k4 k5 B1 B2 B3 B4 s1
  refine ite2 (fun c1 => ?_) (fun c1 => ?_)
  walk_at "ss"
  refine ⟨b, c, _, rfl, B5, by decide, by decide, fun r4 H6 r40 r41 B6 k6 => ?_⟩
  walk_at "ss"
  refine ⟨b, c, _, rfl, B6, by decide, by decide, fun r5 H7 r50 r51 B7 k7 => ?_⟩
  obtain ⟨w, hwE⟩ := Int.eq_ofNat_of_zero_le (show 0 ≤ 6 + r4 by omega)
  obtain ⟨m, hmE⟩ := Int.eq_ofNat_of_zero_le (show 0 ≤ 3 + r5 by omega)
  have hw : w ≤ 11 := by omega
  have hm : m ≤ 9 := by omega
  obtain ⟨wE, ewE⟩ : ∃ wE : Int, wE = 6 + r4 := ⟨_, rfl⟩
  have hwE' : wE = (w : Int) := ewE.trans hwE
  obtain ⟨Hx, eHx⟩ : ∃ Hx, Hx = H7 := ⟨_, rfl⟩
  subst eHx
  have B := B7
  rotate_left
  obtain ⟨w, hwE⟩ := Int.eq_ofNat_of_zero_le r10
  obtain ⟨m, hmE⟩ := Int.eq_ofNat_of_zero_le r20
  have hw : w ≤ 11 := by omega
  have hm : m ≤ 9 := by omega
  obtain ⟨wE, ewE⟩ : ∃ wE : Int, wE = r1 := ⟨_, rfl⟩
  have hwE' : wE = (w : Int) := ewE.trans hwE
  obtain ⟨Hx, eHx⟩ : ∃ Hx, Hx = H5 := ⟨_, rfl⟩
  subst eHx
  have B := B5
  all_goals
    walk_at "ss"
    refine ⟨b, c, q, w, m, by rw [← hwE, ← hmE]; rfl, B, hq, by omega, hm, fun pr g H8 hT hres hgl B8 k8 => ?_⟩
    walk_at "ss"
    refine for_range (n := 4) (fun i σ H2 => ∃ (v4 v6 v7 v8 v9 v10 : Option V), σ = [some (.ref a), some (.ref b), some (.int q), some (.int wE), v4, some (.ref pr), v6, v7, v8, v9, v10] ∧ PoolAt H2 b c ∧ TT H2 pr g)
      ⟨_, _, _, _, _, _, by rw [ewE]; rfl, B8, hT⟩ ?_ ?_
    · rintro i σ H2 hi ⟨v4, v6, v7, v8, v9, v10, rfl, B2, hT2⟩
      walk_at "ss"
      refine ⟨b, c, pr, q, w, g, by rw [← hwE']; rfl, B2, hq, hT2, hres, by omega, by omega, fun pf fm H9 hf hfm B9 k9 => ?_⟩
      have hT9 := hT2.keep k9 B2
      walk_at "ss"
      refine ⟨q, w, pr, g, by rw [← hwE']; rfl, hq, .inl hT9, hres, by omega, by omega, fun t pF pl F0 ps0 H10 htt hF0 _ I0 h0 hFl0 s10 => ?_⟩
      obtain ⟨f0vs, hF0a, hF0r⟩ := hF0
      have hf10 := s10 _ _ hf
      have hT10 := hT9.same s10
      have B10 := B9.same s10
      walk_at "ss"
      have el0 : ((f0vs.length : Nat) : Int) = (F0.length : Int) := by rw [hF0r.1]
      rw [el0]
      intro pt hpt
      have spt := same_new hpt (.tup [.ref pf])
      refine cat_row (hT10.same spt) upd_same (spt _ _ hf10) (by omega) (fun z H11 s11 hz => ?_)
      have s1011 := spt.trans s11
      have hgf : ∀ r, r ∈ g ++ [fm] → Res w q r := fun r hr => by
        rcases List.mem_append.mp hr with d | d
        · exact hres r d
        · rw [List.mem_singleton.mp d]
          exact hfm
      walk_at "ss"
      refine ⟨q, w, z, g ++ [fm], by rw [← hwE']; rfl, hq, .inl hz, hgf, by omega, by rw [List.length_append, List.length_singleton]; omega, fun t1 pF1 pl1 F1 ps1 H12 htt1 hF1 _ I1 h1 hFl1 s12 => ?_⟩
      obtain ⟨f1vs, hF1a, hF1r⟩ := hF1
      walk_at "ss"
      have el1 : ((f1vs.length : Nat) : Int) = (F1.length : Int) := by rw [hF1r.1]
      rw [el1]
      intro R hR
      have sR := same_new hR (.lst [.int F0.length, .int F1.length])
      have s1012 := s1011.trans s12
      have s1013 := s1012.trans sR
      have hRl : upd H12 R (.lst [.int F0.length, .int F1.length]) R = some (.lst [.int F0.length, .int F1.length]) := upd_same
      walk_at "ss"
      obtain ⟨d, ed⟩ : ∃ d, d = decide (V.int (F0.length : Int) = V.int (F1.length : Int)) := ⟨_, rfl⟩
      rw [← ed]
      have hdF : d = true ↔ Fixed w q g fm := by
        rw [ed, decide_eq_true_eq, ← fixed_iff (by omega) I0 h0 I1 h1]
        constructor
        · intro e
          have := V.int.inj e
          omega
        · intro e
          rw [e]
      have hT13 := hT10.same s1013
      have hf13 := s1013 _ _ hf10
      have B13 := B10.same s1013
      obtain ⟨H13, eH13⟩ : ∃ H13, H13 = upd H12 R (.lst [.int F0.length, .int F1.length]) := ⟨_, rfl⟩
      rw [← eH13] at hT13 hf13 B13 hRl ⊢
      clear eH13 s1013 sR hR
      walk_at "ss"
      refine ⟨q, w, pr, pf, g, fm, by rw [← hwE']; rfl, hq, hT13, hf13, hres, hfm, by omega, by omega, fun tb H14 htb s14 => ?_⟩
      have etb : tb = d := Bool.eq_iff_iff.mpr (htb.trans hdF.symm)
      subst etb
      walk_at "sa"
      refine ite2 (fun z => absurd z (by rw [decide_eq_true rfl]; exact Bool.false_ne_true)) (fun _ => ?_)
      have hT14 := hT13.same s14
      have hf14 := s14 _ _ hf13
      have B14 := B13.same s14
      have hR14 := s14 _ _ hRl
      walk_at "ss"
      intro pt2 hpt2
      have spt2 := same_new hpt2 (.tup [.ref pf])
      refine cat_row (hT14.same spt2) upd_same (spt2 _ _ hf14) (by omega) (fun z2 H15 s15 hz2 => ?_)
      have s1415 := spt2.trans s15
      walk_at "ss"
      refine ⟨q, w, z2, g ++ [fm], by rw [← hwE']; rfl, hq, hz2, hgf, by omega, by rw [List.length_append, List.length_singleton]; omega, fun R2 ps2 H16 I2 h2 s16 => ?_⟩
      have e2 : R2 = F1 := isr_unique (by omega) I2 I1 fun x => (h2 x).trans (h1 x).symm
      subst e2
      have s1416 := s1415.trans s16
      have hT16 := hT14.same s1416
      have hf16 := s1416 _ _ hf14
      have B16 := B14.same s1416
      have hR16 := s1416 _ _ hR14
      walk_at "ss"
      refine ite2 (fun z => absurd z (by rw [decide_eq_true rfl]; exact Bool.false_ne_true)) (fun _ => ?_)
      walk_at "ss"
      refine ite2 (fun c3 => ?_) (fun c3 => iteF ?_)
      · walk_at "ss"
        refine ite2 (fun c4 => ?_) (fun c4 => iteF ?_)
        · have c3' := of_decide_eq_true c3
          have c4' := of_decide_eq_true c4
          walk_at "ss"
          refine ⟨q, w, pr, pf, g, fm, by rw [← hwE']; rfl, hq, by omega, by omega, hT16, hf16, hres, hfm, by omega, fun rr H17 hr1 hr0 s17 => ?_⟩
          walk_at "ss"
          refine .inr ⟨_, rfl, ?_⟩
          have err : rr = if tb = true then 1 else 0 := by
            by_cases hF : Fixed w q g fm
            · rw [hr1 hF, if_pos (hdF.mpr hF)]
            · rw [hr0 hF, if_neg fun z => hF (hdF.mp z)]
          rw [← err]
          walk_at "ss"
          refine ite2 (fun z => absurd z (by rw [decide_eq_true rfl]; exact Bool.false_ne_true)) (fun _ => ?_)
          exact ⟨_, _, _, _, _, _, rfl, B16.same s17, hT16.same s17⟩
        · walk_at "ss"
          exact ⟨_, _, _, _, _, _, rfl, B16, hT16⟩
      · walk_at "ss"
        exact ⟨_, _, _, _, _, _, rfl, B16, hT16⟩
    · rintro σ H2 ⟨v4, v6, v7, v8, v9, v10, rfl, B2, hT2⟩
      walk_at "ss"
      exact k _
end
theorem all_mk {l : PySem.W.OpenLaw} {w : World} {K : PySem.W.Frag} {h : Heap} {mg : Str → Option Value} {fa : Addr} (X : K.In h) (G : h.Ns mainGlobals mg) (hfa : mg "law" = some (.ref fa))
    {f_inverse : Addr} {od_inverse an_inverse : Option Addr} {sl_inverse : Array (Option Value)} {oc_inverse kV_inverse dc_inverse pm_inverse cd_inverse ct_inverse : Value}
    {f__minus_multiple : Addr} {od__minus_multiple an__minus_multiple : Option Addr} {sl__minus_multiple : Array (Option Value)} {oc__minus_multiple kV__minus_multiple dc__minus_multiple pm__minus_multiple cd__minus_multiple ct__minus_multiple : Value}
    {f__row_with : Addr} {od__row_with an__row_with : Option Addr} {sl__row_with : Array (Option Value)} {oc__row_with kV__row_with dc__row_with pm__row_with cd__row_with ct__row_with : Value}
    {f__with_lead : Addr} {od__with_lead an__with_lead : Option Addr} {sl__with_lead : Array (Option Value)} {oc__with_lead kV__with_lead dc__with_lead pm__with_lead cd__with_lead ct__with_lead : Value}
    {f_reduced : Addr} {od_reduced an_reduced : Option Addr} {sl_reduced : Array (Option Value)} {oc_reduced kV_reduced dc_reduced pm_reduced cd_reduced ct_reduced : Value}
    {f_rank : Addr} {od_rank an_rank : Option Addr} {sl_rank : Array (Option Value)} {oc_rank kV_rank dc_rank pm_rank cd_rank ct_rank : Value}
    {f_is_fixed : Addr} {od_is_fixed an_is_fixed : Option Addr} {sl_is_fixed : Array (Option Value)} {oc_is_fixed kV_is_fixed dc_is_fixed pm_is_fixed cd_is_fixed ct_is_fixed : Value}
    {f__law_mixed : Addr} {od__law_mixed an__law_mixed : Option Addr} {sl__law_mixed : Array (Option Value)} {oc__law_mixed kV__law_mixed dc__law_mixed pm__law_mixed cd__law_mixed ct__law_mixed : Value}
    {f__law_pool : Addr} {od__law_pool an__law_pool : Option Addr} {sl__law_pool : Array (Option Value)} {oc__law_pool kV__law_pool dc__law_pool pm__law_pool cd__law_pool ct__law_pool : Value}
    {f__law_take : Addr} {od__law_take an__law_take : Option Addr} {sl__law_take : Array (Option Value)} {oc__law_take kV__law_take dc__law_take pm__law_take cd__law_take ct__law_take : Value}
    {f__law_is_prime : Addr} {od__law_is_prime an__law_is_prime : Option Addr} {sl__law_is_prime : Array (Option Value)} {oc__law_is_prime kV__law_is_prime dc__law_is_prime pm__law_is_prime cd__law_is_prime ct__law_is_prime : Value}
    {f__law_order : Addr} {od__law_order an__law_order : Option Addr} {sl__law_order : Array (Option Value)} {oc__law_order kV__law_order dc__law_order pm__law_order cd__law_order ct__law_order : Value}
    {f__law_entry : Addr} {od__law_entry an__law_entry : Option Addr} {sl__law_entry : Array (Option Value)} {oc__law_entry kV__law_entry dc__law_entry pm__law_entry cd__law_entry ct__law_entry : Value}
    {f__law_rows : Addr} {od__law_rows an__law_rows : Option Addr} {sl__law_rows : Array (Option Value)} {oc__law_rows kV__law_rows dc__law_rows pm__law_rows cd__law_rows ct__law_rows : Value}
    {f__law_reduced : Addr} {od__law_reduced an__law_reduced : Option Addr} {sl__law_reduced : Array (Option Value)} {oc__law_reduced kV__law_reduced dc__law_reduced pm__law_reduced cd__law_reduced ct__law_reduced : Value}
    {f__law_cleared : Addr} {od__law_cleared an__law_cleared : Option Addr} {sl__law_cleared : Array (Option Value)} {oc__law_cleared kV__law_cleared dc__law_cleared pm__law_cleared cd__law_cleared ct__law_cleared : Value}
    {f__law_inverse : Addr} {od__law_inverse an__law_inverse : Option Addr} {sl__law_inverse : Array (Option Value)} {oc__law_inverse kV__law_inverse dc__law_inverse pm__law_inverse cd__law_inverse ct__law_inverse : Value}
    {f__law_product : Addr} {od__law_product an__law_product : Option Addr} {sl__law_product : Array (Option Value)} {oc__law_product kV__law_product dc__law_product pm__law_product cd__law_product ct__law_product : Value}
    {f__law_vectors : Addr} {od__law_vectors an__law_vectors : Option Addr} {sl__law_vectors : Array (Option Value)} {oc__law_vectors kV__law_vectors dc__law_vectors pm__law_vectors cd__law_vectors ct__law_vectors : Value}
    {f__law_form : Addr} {od__law_form an__law_form : Option Addr} {sl__law_form : Array (Option Value)} {oc__law_form kV__law_form dc__law_form pm__law_form cd__law_form ct__law_form : Value}
    {f__law_by_trying : Addr} {od__law_by_trying an__law_by_trying : Option Addr} {sl__law_by_trying : Array (Option Value)} {oc__law_by_trying kV__law_by_trying dc__law_by_trying pm__law_by_trying cd__law_by_trying ct__law_by_trying : Value}
    {f_law : Addr} {od_law an_law : Option Addr} {sl_law : Array (Option Value)} {oc_law kV_law dc_law pm_law cd_law ct_law : Value}
    {c_NoInverse : Addr}
    
    
    
    
    
    {c_HushError : Addr}
    
    
    
    
    
    
    (a_inverse : PySem.W.nsIn K mainGlobals "inverse" = some (some (.ref f_inverse))) (l_inverse : K.lookup f_inverse = some ⟨oc_inverse, od_inverse, .func (PySem.W.fnOf "inverse" "inverse" (defArgs s_inverse) (defBody s_inverse) (defScope s_inverse) .none kV_inverse dc_inverse pm_inverse an_inverse cd_inverse ct_inverse), sl_inverse⟩) (c_inverse : PySem.W.codeIn K cd_inverse "inverse" = true) (k_inverse : PySem.W.keepIn K (.ref f_inverse) = true)
    (a__minus_multiple : PySem.W.nsIn K mainGlobals "_minus_multiple" = some (some (.ref f__minus_multiple))) (l__minus_multiple : K.lookup f__minus_multiple = some ⟨oc__minus_multiple, od__minus_multiple, .func (PySem.W.fnOf "_minus_multiple" "_minus_multiple" (defArgs s__minus_multiple) (defBody s__minus_multiple) (defScope s__minus_multiple) .none kV__minus_multiple dc__minus_multiple pm__minus_multiple an__minus_multiple cd__minus_multiple ct__minus_multiple), sl__minus_multiple⟩) (c__minus_multiple : PySem.W.codeIn K cd__minus_multiple "_minus_multiple" = true) (k__minus_multiple : PySem.W.keepIn K (.ref f__minus_multiple) = true)
    (a__row_with : PySem.W.nsIn K mainGlobals "_row_with" = some (some (.ref f__row_with))) (l__row_with : K.lookup f__row_with = some ⟨oc__row_with, od__row_with, .func (PySem.W.fnOf "_row_with" "_row_with" (defArgs s__row_with) (defBody s__row_with) (defScope s__row_with) .none kV__row_with dc__row_with pm__row_with an__row_with cd__row_with ct__row_with), sl__row_with⟩) (c__row_with : PySem.W.codeIn K cd__row_with "_row_with" = true) (k__row_with : PySem.W.keepIn K (.ref f__row_with) = true)
    (a__with_lead : PySem.W.nsIn K mainGlobals "_with_lead" = some (some (.ref f__with_lead))) (l__with_lead : K.lookup f__with_lead = some ⟨oc__with_lead, od__with_lead, .func (PySem.W.fnOf "_with_lead" "_with_lead" (defArgs s__with_lead) (defBody s__with_lead) (defScope s__with_lead) .none kV__with_lead dc__with_lead pm__with_lead an__with_lead cd__with_lead ct__with_lead), sl__with_lead⟩) (c__with_lead : PySem.W.codeIn K cd__with_lead "_with_lead" = true) (k__with_lead : PySem.W.keepIn K (.ref f__with_lead) = true)
    (a_reduced : PySem.W.nsIn K mainGlobals "reduced" = some (some (.ref f_reduced))) (l_reduced : K.lookup f_reduced = some ⟨oc_reduced, od_reduced, .func (PySem.W.fnOf "reduced" "reduced" (defArgs s_reduced) (defBody s_reduced) (defScope s_reduced) .none kV_reduced dc_reduced pm_reduced an_reduced cd_reduced ct_reduced), sl_reduced⟩) (c_reduced : PySem.W.codeIn K cd_reduced "reduced" = true) (k_reduced : PySem.W.keepIn K (.ref f_reduced) = true)
    (a_rank : PySem.W.nsIn K mainGlobals "rank" = some (some (.ref f_rank))) (l_rank : K.lookup f_rank = some ⟨oc_rank, od_rank, .func (PySem.W.fnOf "rank" "rank" (defArgs s_rank) (defBody s_rank) (defScope s_rank) .none kV_rank dc_rank pm_rank an_rank cd_rank ct_rank), sl_rank⟩) (c_rank : PySem.W.codeIn K cd_rank "rank" = true) (k_rank : PySem.W.keepIn K (.ref f_rank) = true)
    (a_is_fixed : PySem.W.nsIn K mainGlobals "is_fixed" = some (some (.ref f_is_fixed))) (l_is_fixed : K.lookup f_is_fixed = some ⟨oc_is_fixed, od_is_fixed, .func (PySem.W.fnOf "is_fixed" "is_fixed" (defArgs s_is_fixed) (defBody s_is_fixed) (defScope s_is_fixed) .none kV_is_fixed dc_is_fixed pm_is_fixed an_is_fixed cd_is_fixed ct_is_fixed), sl_is_fixed⟩) (c_is_fixed : PySem.W.codeIn K cd_is_fixed "is_fixed" = true) (k_is_fixed : PySem.W.keepIn K (.ref f_is_fixed) = true)
    (a__law_mixed : PySem.W.nsIn K mainGlobals "_law_mixed" = some (some (.ref f__law_mixed))) (l__law_mixed : K.lookup f__law_mixed = some ⟨oc__law_mixed, od__law_mixed, .func (PySem.W.fnOf "_law_mixed" "_law_mixed" (defArgs s_Lmixed) (defBody s_Lmixed) (defScope s_Lmixed) .none kV__law_mixed dc__law_mixed pm__law_mixed an__law_mixed cd__law_mixed ct__law_mixed), sl__law_mixed⟩) (c__law_mixed : PySem.W.codeIn K cd__law_mixed "_law_mixed" = true) (k__law_mixed : PySem.W.keepIn K (.ref f__law_mixed) = true)
    (a__law_pool : PySem.W.nsIn K mainGlobals "_law_pool" = some (some (.ref f__law_pool))) (l__law_pool : K.lookup f__law_pool = some ⟨oc__law_pool, od__law_pool, .func (PySem.W.fnOf "_law_pool" "_law_pool" (defArgs s_Lpool) (defBody s_Lpool) (defScope s_Lpool) .none kV__law_pool dc__law_pool pm__law_pool an__law_pool cd__law_pool ct__law_pool), sl__law_pool⟩) (c__law_pool : PySem.W.codeIn K cd__law_pool "_law_pool" = true) (k__law_pool : PySem.W.keepIn K (.ref f__law_pool) = true)
    (a__law_take : PySem.W.nsIn K mainGlobals "_law_take" = some (some (.ref f__law_take))) (l__law_take : K.lookup f__law_take = some ⟨oc__law_take, od__law_take, .func (PySem.W.fnOf "_law_take" "_law_take" (defArgs s_Ltake) (defBody s_Ltake) (defScope s_Ltake) .none kV__law_take dc__law_take pm__law_take an__law_take cd__law_take ct__law_take), sl__law_take⟩) (c__law_take : PySem.W.codeIn K cd__law_take "_law_take" = true) (k__law_take : PySem.W.keepIn K (.ref f__law_take) = true)
    (a__law_is_prime : PySem.W.nsIn K mainGlobals "_law_is_prime" = some (some (.ref f__law_is_prime))) (l__law_is_prime : K.lookup f__law_is_prime = some ⟨oc__law_is_prime, od__law_is_prime, .func (PySem.W.fnOf "_law_is_prime" "_law_is_prime" (defArgs s_Lis_prime) (defBody s_Lis_prime) (defScope s_Lis_prime) .none kV__law_is_prime dc__law_is_prime pm__law_is_prime an__law_is_prime cd__law_is_prime ct__law_is_prime), sl__law_is_prime⟩) (c__law_is_prime : PySem.W.codeIn K cd__law_is_prime "_law_is_prime" = true) (k__law_is_prime : PySem.W.keepIn K (.ref f__law_is_prime) = true)
    (a__law_order : PySem.W.nsIn K mainGlobals "_law_order" = some (some (.ref f__law_order))) (l__law_order : K.lookup f__law_order = some ⟨oc__law_order, od__law_order, .func (PySem.W.fnOf "_law_order" "_law_order" (defArgs s_Lorder) (defBody s_Lorder) (defScope s_Lorder) .none kV__law_order dc__law_order pm__law_order an__law_order cd__law_order ct__law_order), sl__law_order⟩) (c__law_order : PySem.W.codeIn K cd__law_order "_law_order" = true) (k__law_order : PySem.W.keepIn K (.ref f__law_order) = true)
    (a__law_entry : PySem.W.nsIn K mainGlobals "_law_entry" = some (some (.ref f__law_entry))) (l__law_entry : K.lookup f__law_entry = some ⟨oc__law_entry, od__law_entry, .func (PySem.W.fnOf "_law_entry" "_law_entry" (defArgs s_Lentry) (defBody s_Lentry) (defScope s_Lentry) .none kV__law_entry dc__law_entry pm__law_entry an__law_entry cd__law_entry ct__law_entry), sl__law_entry⟩) (c__law_entry : PySem.W.codeIn K cd__law_entry "_law_entry" = true) (k__law_entry : PySem.W.keepIn K (.ref f__law_entry) = true)
    (a__law_rows : PySem.W.nsIn K mainGlobals "_law_rows" = some (some (.ref f__law_rows))) (l__law_rows : K.lookup f__law_rows = some ⟨oc__law_rows, od__law_rows, .func (PySem.W.fnOf "_law_rows" "_law_rows" (defArgs s_Lrows) (defBody s_Lrows) (defScope s_Lrows) .none kV__law_rows dc__law_rows pm__law_rows an__law_rows cd__law_rows ct__law_rows), sl__law_rows⟩) (c__law_rows : PySem.W.codeIn K cd__law_rows "_law_rows" = true) (k__law_rows : PySem.W.keepIn K (.ref f__law_rows) = true)
    (a__law_reduced : PySem.W.nsIn K mainGlobals "_law_reduced" = some (some (.ref f__law_reduced))) (l__law_reduced : K.lookup f__law_reduced = some ⟨oc__law_reduced, od__law_reduced, .func (PySem.W.fnOf "_law_reduced" "_law_reduced" (defArgs s_Lreduced) (defBody s_Lreduced) (defScope s_Lreduced) .none kV__law_reduced dc__law_reduced pm__law_reduced an__law_reduced cd__law_reduced ct__law_reduced), sl__law_reduced⟩) (c__law_reduced : PySem.W.codeIn K cd__law_reduced "_law_reduced" = true) (k__law_reduced : PySem.W.keepIn K (.ref f__law_reduced) = true)
    (a__law_cleared : PySem.W.nsIn K mainGlobals "_law_cleared" = some (some (.ref f__law_cleared))) (l__law_cleared : K.lookup f__law_cleared = some ⟨oc__law_cleared, od__law_cleared, .func (PySem.W.fnOf "_law_cleared" "_law_cleared" (defArgs s_Lcleared) (defBody s_Lcleared) (defScope s_Lcleared) .none kV__law_cleared dc__law_cleared pm__law_cleared an__law_cleared cd__law_cleared ct__law_cleared), sl__law_cleared⟩) (c__law_cleared : PySem.W.codeIn K cd__law_cleared "_law_cleared" = true) (k__law_cleared : PySem.W.keepIn K (.ref f__law_cleared) = true)
    (a__law_inverse : PySem.W.nsIn K mainGlobals "_law_inverse" = some (some (.ref f__law_inverse))) (l__law_inverse : K.lookup f__law_inverse = some ⟨oc__law_inverse, od__law_inverse, .func (PySem.W.fnOf "_law_inverse" "_law_inverse" (defArgs s_Linverse) (defBody s_Linverse) (defScope s_Linverse) .none kV__law_inverse dc__law_inverse pm__law_inverse an__law_inverse cd__law_inverse ct__law_inverse), sl__law_inverse⟩) (c__law_inverse : PySem.W.codeIn K cd__law_inverse "_law_inverse" = true) (k__law_inverse : PySem.W.keepIn K (.ref f__law_inverse) = true)
    (a__law_product : PySem.W.nsIn K mainGlobals "_law_product" = some (some (.ref f__law_product))) (l__law_product : K.lookup f__law_product = some ⟨oc__law_product, od__law_product, .func (PySem.W.fnOf "_law_product" "_law_product" (defArgs s_Lproduct) (defBody s_Lproduct) (defScope s_Lproduct) .none kV__law_product dc__law_product pm__law_product an__law_product cd__law_product ct__law_product), sl__law_product⟩) (c__law_product : PySem.W.codeIn K cd__law_product "_law_product" = true) (k__law_product : PySem.W.keepIn K (.ref f__law_product) = true)
    (a__law_vectors : PySem.W.nsIn K mainGlobals "_law_vectors" = some (some (.ref f__law_vectors))) (l__law_vectors : K.lookup f__law_vectors = some ⟨oc__law_vectors, od__law_vectors, .func (PySem.W.fnOf "_law_vectors" "_law_vectors" (defArgs s_Lvectors) (defBody s_Lvectors) (defScope s_Lvectors) .none kV__law_vectors dc__law_vectors pm__law_vectors an__law_vectors cd__law_vectors ct__law_vectors), sl__law_vectors⟩) (c__law_vectors : PySem.W.codeIn K cd__law_vectors "_law_vectors" = true) (k__law_vectors : PySem.W.keepIn K (.ref f__law_vectors) = true)
    (a__law_form : PySem.W.nsIn K mainGlobals "_law_form" = some (some (.ref f__law_form))) (l__law_form : K.lookup f__law_form = some ⟨oc__law_form, od__law_form, .func (PySem.W.fnOf "_law_form" "_law_form" (defArgs s_Lform) (defBody s_Lform) (defScope s_Lform) .none kV__law_form dc__law_form pm__law_form an__law_form cd__law_form ct__law_form), sl__law_form⟩) (c__law_form : PySem.W.codeIn K cd__law_form "_law_form" = true) (k__law_form : PySem.W.keepIn K (.ref f__law_form) = true)
    (a__law_by_trying : PySem.W.nsIn K mainGlobals "_law_by_trying" = some (some (.ref f__law_by_trying))) (l__law_by_trying : K.lookup f__law_by_trying = some ⟨oc__law_by_trying, od__law_by_trying, .func (PySem.W.fnOf "_law_by_trying" "_law_by_trying" (defArgs s_Lby_trying) (defBody s_Lby_trying) (defScope s_Lby_trying) .none kV__law_by_trying dc__law_by_trying pm__law_by_trying an__law_by_trying cd__law_by_trying ct__law_by_trying), sl__law_by_trying⟩) (c__law_by_trying : PySem.W.codeIn K cd__law_by_trying "_law_by_trying" = true) (k__law_by_trying : PySem.W.keepIn K (.ref f__law_by_trying) = true)
    (a_law : PySem.W.nsIn K mainGlobals "law" = some (some (.ref f_law))) (l_law : K.lookup f_law = some ⟨oc_law, od_law, .func (PySem.W.fnOf "law" "law" (defArgs s_law) (defBody s_law) (defScope s_law) .none kV_law dc_law pm_law an_law cd_law ct_law), sl_law⟩) (c_law : PySem.W.codeIn K cd_law "law" = true) (k_law : PySem.W.keepIn K (.ref f_law) = true)
    (z_ValueError : PySem.W.nsIn K mainGlobals "ValueError" = some none)
    (z_bool : PySem.W.nsIn K mainGlobals "bool" = some none)
    (z_int : PySem.W.nsIn K mainGlobals "int" = some none)
    (z_isinstance : PySem.W.nsIn K mainGlobals "isinstance" = some none)
    (z_len : PySem.W.nsIn K mainGlobals "len" = some none)
    (z_list : PySem.W.nsIn K mainGlobals "list" = some none)
    (z_range : PySem.W.nsIn K mainGlobals "range" = some none)
    (z_str : PySem.W.nsIn K mainGlobals "str" = some none)
    (z_sum : PySem.W.nsIn K mainGlobals "sum" = some none)
    (z_tuple : PySem.W.nsIn K mainGlobals "tuple" = some none)
    (z_zip : PySem.W.nsIn K mainGlobals "zip" = some none)
    
    (a_NoInverse : PySem.W.nsIn K mainGlobals "NoInverse" = some (some (.ref c_NoInverse)))
    (kc_NoInverse : PySem.W.keepIn K (.ref c_NoInverse) = true)
    (s_NoInverse : PySem.W.subIn K (.ref c_NoInverse) (.type "BaseException") = some true)
    (t_NoInverse : PySem.W.typeIn K (.ref c_NoInverse) = some (.type "type"))
    (i_NoInverse : PySem.W.isClsIn K c_NoInverse = true)
    
    (a_HushError : PySem.W.nsIn K mainGlobals "HushError" = some (some (.ref c_HushError)))
    (x_NoInverse : PySem.W.excIn K c_NoInverse [.type "ValueError", .type "Exception", .type "BaseException", .type "object"] "ValueError.__new__" = true)
    (u_NoInverse : PySem.W.subIn K (.ref c_NoInverse) (.ref c_NoInverse) = some true)
    (uh_NoInverse : PySem.W.subIn K (.ref c_NoInverse) (.ref c_HushError) = some true)
    (uv_NoInverse : PySem.W.subIn K (.ref c_NoInverse) (.type "ValueError") = some true)
    (e1 : PySem.W.findIn K (.ref c_NoInverse) "__getattribute__" = some (some (.builtin "BaseException.__getattribute__")))
    (e2 : PySem.W.findIn K (.ref c_NoInverse) "__getattr__" = some none)
    (e4 : PySem.W.hasDictIn K c_NoInverse = true)
    (e5 : PySem.W.findIn K (.ref c_NoInverse) "__class__" = some (some (.builtin "object.__class__")))
    (e6 : PySem.W.specialIn K (.builtin "object.__class__") "__get__" = some (some (.builtin "getset_descriptor.__get__")))
    (e7 : PySem.W.takesIn K (.builtin "object.__class__") = some true)
    (e8 : PySem.W.mroIn K c_NoInverse (.type "object") = some true)
    : ∃ fd : FuncData, (∀ (s : Shared) (v : Value), BindsTo s fd ⟨[v], []⟩ [("script", v)]) ∧ ∀ base : Heap, K.In base → base.Ns mainGlobals mg → FnOk l.prog w K mg base CX0 9 fa fd ["script"] (spLaw K) := by
  have e := hfa.symm.trans (PySem.W.mg_of X G a_law)
  cases e
  let T : Top K mg := { f_inverse := f_inverse, d_inverse := _, F_inverse := fun_mk (st := s_inverse) l_inverse c_inverse k_inverse, m_inverse := PySem.W.mg_of X G a_inverse, b_inverse := (fun_mk (st := s_inverse) l_inverse c_inverse k_inverse).binds (ps := ["a", "q"]) (fun _ _ _ _ _ _ us hl => match us, hl with | [_, _], _ => rfl),
                        f__minus_multiple := f__minus_multiple, d__minus_multiple := _, F__minus_multiple := fun_mk (st := s__minus_multiple) l__minus_multiple c__minus_multiple k__minus_multiple, m__minus_multiple := PySem.W.mg_of X G a__minus_multiple, b__minus_multiple := (fun_mk (st := s__minus_multiple) l__minus_multiple c__minus_multiple k__minus_multiple).binds (ps := ["q", "row", "times", "lead"]) (fun _ _ _ _ _ _ us hl => match us, hl with | [_, _, _, _], _ => rfl),
                        f__row_with := f__row_with, d__row_with := _, F__row_with := fun_mk (st := s__row_with) l__row_with c__row_with k__row_with, m__row_with := PySem.W.mg_of X G a__row_with, b__row_with := (fun_mk (st := s__row_with) l__row_with c__row_with k__row_with).binds (ps := ["grid", "top", "column"]) (fun _ _ _ _ _ _ us hl => match us, hl with | [_, _, _], _ => rfl),
                        f__with_lead := f__with_lead, d__with_lead := _, F__with_lead := fun_mk (st := s__with_lead) l__with_lead c__with_lead k__with_lead, m__with_lead := PySem.W.mg_of X G a__with_lead, b__with_lead := (fun_mk (st := s__with_lead) l__with_lead c__with_lead k__with_lead).binds (ps := ["q", "grid", "top", "at", "column"]) (fun _ _ _ _ _ _ us hl => match us, hl with | [_, _, _, _, _], _ => rfl),
                        f_reduced := f_reduced, d_reduced := _, F_reduced := fun_mk (st := s_reduced) l_reduced c_reduced k_reduced, m_reduced := PySem.W.mg_of X G a_reduced, b_reduced := (fun_mk (st := s_reduced) l_reduced c_reduced k_reduced).binds (ps := ["q", "width", "rows"]) (fun _ _ _ _ _ _ us hl => match us, hl with | [_, _, _], _ => rfl),
                        f_rank := f_rank, d_rank := _, F_rank := fun_mk (st := s_rank) l_rank c_rank k_rank, m_rank := PySem.W.mg_of X G a_rank, b_rank := (fun_mk (st := s_rank) l_rank c_rank k_rank).binds (ps := ["q", "width", "rows"]) (fun _ _ _ _ _ _ us hl => match us, hl with | [_, _, _], _ => rfl),
                        f_is_fixed := f_is_fixed, d_is_fixed := _, F_is_fixed := fun_mk (st := s_is_fixed) l_is_fixed c_is_fixed k_is_fixed, m_is_fixed := PySem.W.mg_of X G a_is_fixed, b_is_fixed := (fun_mk (st := s_is_fixed) l_is_fixed c_is_fixed k_is_fixed).binds (ps := ["q", "width", "rows", "form"]) (fun _ _ _ _ _ _ us hl => match us, hl with | [_, _, _, _], _ => rfl),
                        f__law_mixed := f__law_mixed, d__law_mixed := _, F__law_mixed := fun_mk (st := s_Lmixed) l__law_mixed c__law_mixed k__law_mixed, m__law_mixed := PySem.W.mg_of X G a__law_mixed, b__law_mixed := (fun_mk (st := s_Lmixed) l__law_mixed c__law_mixed k__law_mixed).binds (ps := ["number", "turn", "many"]) (fun _ _ _ _ _ _ us hl => match us, hl with | [_, _, _], _ => rfl),
                        f__law_pool := f__law_pool, d__law_pool := _, F__law_pool := fun_mk (st := s_Lpool) l__law_pool c__law_pool k__law_pool, m__law_pool := PySem.W.mg_of X G a__law_pool, b__law_pool := (fun_mk (st := s_Lpool) l__law_pool c__law_pool k__law_pool).binds (ps := ["script"]) (fun _ _ _ _ _ _ us hl => match us, hl with | [_], _ => rfl),
                        f__law_take := f__law_take, d__law_take := _, F__law_take := fun_mk (st := s_Ltake) l__law_take c__law_take k__law_take, m__law_take := PySem.W.mg_of X G a__law_take, b__law_take := (fun_mk (st := s_Ltake) l__law_take c__law_take k__law_take).binds (ps := ["pool", "many"]) (fun _ _ _ _ _ _ us hl => match us, hl with | [_, _], _ => rfl),
                        f__law_is_prime := f__law_is_prime, d__law_is_prime := _, F__law_is_prime := fun_mk (st := s_Lis_prime) l__law_is_prime c__law_is_prime k__law_is_prime, m__law_is_prime := PySem.W.mg_of X G a__law_is_prime, b__law_is_prime := (fun_mk (st := s_Lis_prime) l__law_is_prime c__law_is_prime k__law_is_prime).binds (ps := ["n"]) (fun _ _ _ _ _ _ us hl => match us, hl with | [_], _ => rfl),
                        f__law_order := f__law_order, d__law_order := _, F__law_order := fun_mk (st := s_Lorder) l__law_order c__law_order k__law_order, m__law_order := PySem.W.mg_of X G a__law_order, b__law_order := (fun_mk (st := s_Lorder) l__law_order c__law_order k__law_order).binds (ps := ["pool", "most"]) (fun _ _ _ _ _ _ us hl => match us, hl with | [_, _], _ => rfl),
                        f__law_entry := f__law_entry, d__law_entry := _, F__law_entry := fun_mk (st := s_Lentry) l__law_entry c__law_entry k__law_entry, m__law_entry := PySem.W.mg_of X G a__law_entry, b__law_entry := (fun_mk (st := s_Lentry) l__law_entry c__law_entry k__law_entry).binds (ps := ["pool", "q"]) (fun _ _ _ _ _ _ us hl => match us, hl with | [_, _], _ => rfl),
                        f__law_rows := f__law_rows, d__law_rows := _, F__law_rows := fun_mk (st := s_Lrows) l__law_rows c__law_rows k__law_rows, m__law_rows := PySem.W.mg_of X G a__law_rows, b__law_rows := (fun_mk (st := s_Lrows) l__law_rows c__law_rows k__law_rows).binds (ps := ["pool", "q", "width", "many"]) (fun _ _ _ _ _ _ us hl => match us, hl with | [_, _, _, _], _ => rfl),
                        f__law_reduced := f__law_reduced, d__law_reduced := _, F__law_reduced := fun_mk (st := s_Lreduced) l__law_reduced c__law_reduced k__law_reduced, m__law_reduced := PySem.W.mg_of X G a__law_reduced, b__law_reduced := (fun_mk (st := s_Lreduced) l__law_reduced c__law_reduced k__law_reduced).binds (ps := ["q", "width", "rows"]) (fun _ _ _ _ _ _ us hl => match us, hl with | [_, _, _], _ => rfl),
                        f__law_cleared := f__law_cleared, d__law_cleared := _, F__law_cleared := fun_mk (st := s_Lcleared) l__law_cleared c__law_cleared k__law_cleared, m__law_cleared := PySem.W.mg_of X G a__law_cleared, b__law_cleared := (fun_mk (st := s_Lcleared) l__law_cleared c__law_cleared k__law_cleared).binds (ps := ["q", "row", "lead", "column"]) (fun _ _ _ _ _ _ us hl => match us, hl with | [_, _, _, _], _ => rfl),
                        f__law_inverse := f__law_inverse, d__law_inverse := _, F__law_inverse := fun_mk (st := s_Linverse) l__law_inverse c__law_inverse k__law_inverse, m__law_inverse := PySem.W.mg_of X G a__law_inverse, b__law_inverse := (fun_mk (st := s_Linverse) l__law_inverse c__law_inverse k__law_inverse).binds (ps := ["a", "q"]) (fun _ _ _ _ _ _ us hl => match us, hl with | [_, _], _ => rfl),
                        f__law_product := f__law_product, d__law_product := _, F__law_product := fun_mk (st := s_Lproduct) l__law_product c__law_product k__law_product, m__law_product := PySem.W.mg_of X G a__law_product, b__law_product := (fun_mk (st := s_Lproduct) l__law_product c__law_product k__law_product).binds (ps := ["q", "row", "x"]) (fun _ _ _ _ _ _ us hl => match us, hl with | [_, _, _], _ => rfl),
                        f__law_vectors := f__law_vectors, d__law_vectors := _, F__law_vectors := fun_mk (st := s_Lvectors) l__law_vectors c__law_vectors k__law_vectors, m__law_vectors := PySem.W.mg_of X G a__law_vectors, b__law_vectors := (fun_mk (st := s_Lvectors) l__law_vectors c__law_vectors k__law_vectors).binds (ps := ["q", "width"]) (fun _ _ _ _ _ _ us hl => match us, hl with | [_, _], _ => rfl),
                        f__law_form := f__law_form, d__law_form := _, F__law_form := fun_mk (st := s_Lform) l__law_form c__law_form k__law_form, m__law_form := PySem.W.mg_of X G a__law_form, b__law_form := (fun_mk (st := s_Lform) l__law_form c__law_form k__law_form).binds (ps := ["pool", "q", "width", "rows"]) (fun _ _ _ _ _ _ us hl => match us, hl with | [_, _, _, _], _ => rfl),
                        f__law_by_trying := f__law_by_trying, d__law_by_trying := _, F__law_by_trying := fun_mk (st := s_Lby_trying) l__law_by_trying c__law_by_trying k__law_by_trying, m__law_by_trying := PySem.W.mg_of X G a__law_by_trying, b__law_by_trying := (fun_mk (st := s_Lby_trying) l__law_by_trying c__law_by_trying k__law_by_trying).binds (ps := ["q", "width", "rows", "form"]) (fun _ _ _ _ _ _ us hl => match us, hl with | [_, _, _, _], _ => rfl),
                        f_law := fa, d_law := _, F_law := fun_mk (st := s_law) l_law c_law k_law, m_law := PySem.W.mg_of X G a_law, b_law := (fun_mk (st := s_law) l_law c_law k_law).binds (ps := ["script"]) (fun _ _ _ _ _ _ us hl => match us, hl with | [_], _ => rfl),
                        k_is_fixed_0_q_width_rows_form := fun_kbinds (fun_mk (st := s_is_fixed) l_is_fixed c_is_fixed k_is_fixed) g_is_fixed_0_q_width_rows_form_rel (fun _ _ _ _ _ _ us ws hl => match us, ws, hl with | [], [_, _, _, _], _ => rfl),
                        z_ValueError := PySem.W.mg_none_of X G z_ValueError,
                        z_bool := PySem.W.mg_none_of X G z_bool,
                        z_int := PySem.W.mg_none_of X G z_int,
                        z_isinstance := PySem.W.mg_none_of X G z_isinstance,
                        z_len := PySem.W.mg_none_of X G z_len,
                        z_list := PySem.W.mg_none_of X G z_list,
                        z_range := PySem.W.mg_none_of X G z_range,
                        z_str := PySem.W.mg_none_of X G z_str,
                        z_sum := PySem.W.mg_none_of X G z_sum,
                        z_tuple := PySem.W.mg_none_of X G z_tuple,
                        z_zip := PySem.W.mg_none_of X G z_zip,
                        c_NoInverse := c_NoInverse,
                        m_NoInverse := PySem.W.mg_of X G a_NoInverse,
                        kc_NoInverse := kc_NoInverse,
                        s_NoInverse := s_NoInverse,
                        t_NoInverse := t_NoInverse,
                        i_NoInverse := i_NoInverse,
                        c_HushError := c_HushError,
                        m_HushError := PySem.W.mg_of X G a_HushError,
                        x_NoInverse := x_NoInverse,
                        u_NoInverse := u_NoInverse,
                        uh_NoInverse := uh_NoInverse,
                        uv_NoInverse := uv_NoInverse,
                        xc_NoInverse := ⟨e1, e2, s_NoInverse, e4, e5, e6, e7, e8⟩ }
  refine ⟨T.d_law, fun s v => .of_eq rfl, fun base _ _ => ?_⟩
  exact ok_law T
theorem walk {l : PySem.W.OpenLaw} {q : Program} {loose : List Str} {XP : (Str → Option Value) → Heap → Prop} {YP : World → Heap → Prop} {d : DefRec} {K : Params → PySem.W.Frag} (hn : l.most = some 63) (hdf : d.params.defaults = [])
    (hY : ∀ (w : World) (h : Heap), YP w h → (K w.params).In h)
    (F : ∀ (w : World) (mg : Str → Option Value) (fa : Addr) (h : Heap), (K w.params).In h → h.Ns mainGlobals mg → mg d.name = some (.ref fa) →
      ∃ fd : FuncData, (∀ (s : Shared) (u : Value), BindsTo s fd ⟨[u], []⟩ [("script", u)]) ∧ ∀ base : Heap, (K w.params).In base → base.Ns mainGlobals mg → FnOk l.prog w (K w.params) mg base CX0 9 fa fd ["script"] (spLaw (K w.params))) :
    PySem.W.WalkO q loose XP YP l.row.toRowW d [] (fun f vs => PySem.call f vs) :=
  L2.walk_of (n := 63) (k := 9) (x := "script") (CX := fun _ => CX0) (sp := fun w => spLaw (K w.params)) hn (by decide) hdf ⟨rfl, by decide, by decide⟩ hY F (fun _ _ a ns hl _ hS => ⟨a, ns, rfl, hS, hl, fun _ => rfl⟩) fun _ _ _ _ _ z => z
end Toy
open PySem PySem.W PyProof.Rows
set_option maxRecDepth 100000 in
set_option maxHeartbeats 0 in
theorem PySem.Challenge.cw_hushpapers_k11_fixed_forms_holds : PySem.Challenge.rw_hushpapers_k11_fixed_forms.Holds := by
  w_on; o_law; k_head; (case hw => w_witness2)
  k_fill
  refine Toy.walk (l := PySem.Challenge.rw_hushpapers_k11_fixed_forms) rfl rfl (fun w h Y => PySem.W.kIn_of Y) ?F
  case F =>
    intro w mg fa h KX G hmg
    refine' Toy.all_mk KX G hmg ?a_inverse ?l_inverse ?c_inverse ?k_inverse ?a__minus_multiple ?l__minus_multiple ?c__minus_multiple ?k__minus_multiple ?a__row_with ?l__row_with ?c__row_with ?k__row_with ?a__with_lead ?l__with_lead ?c__with_lead ?k__with_lead ?a_reduced ?l_reduced ?c_reduced ?k_reduced ?a_rank ?l_rank ?c_rank ?k_rank ?a_is_fixed ?l_is_fixed ?c_is_fixed ?k_is_fixed ?a__law_mixed ?l__law_mixed ?c__law_mixed ?k__law_mixed ?a__law_pool ?l__law_pool ?c__law_pool ?k__law_pool ?a__law_take ?l__law_take ?c__law_take ?k__law_take ?a__law_is_prime ?l__law_is_prime ?c__law_is_prime ?k__law_is_prime ?a__law_order ?l__law_order ?c__law_order ?k__law_order ?a__law_entry ?l__law_entry ?c__law_entry ?k__law_entry ?a__law_rows ?l__law_rows ?c__law_rows ?k__law_rows ?a__law_reduced ?l__law_reduced ?c__law_reduced ?k__law_reduced ?a__law_cleared ?l__law_cleared ?c__law_cleared ?k__law_cleared ?a__law_inverse ?l__law_inverse ?c__law_inverse ?k__law_inverse ?a__law_product ?l__law_product ?c__law_product ?k__law_product ?a__law_vectors ?l__law_vectors ?c__law_vectors ?k__law_vectors ?a__law_form ?l__law_form ?c__law_form ?k__law_form ?a__law_by_trying ?l__law_by_trying ?c__law_by_trying ?k__law_by_trying ?a_law ?l_law ?c_law ?k_law ?z_ValueError ?z_bool ?z_int ?z_isinstance ?z_len ?z_list ?z_range ?z_str ?z_sum ?z_tuple ?z_zip ?a_NoInverse ?kc_NoInverse ?s_NoInverse ?t_NoInverse ?i_NoInverse ?a_HushError ?x_NoInverse ?u_NoInverse ?uh_NoInverse ?uv_NoInverse ?e1 ?e2 ?e4 ?e5 ?e6 ?e7 ?e8
    (case a_inverse => k_is)
    (case l_inverse => k_is)
    (case c_inverse => k_is)
    (case k_inverse => k_is)
    (case a__minus_multiple => k_is)
    (case l__minus_multiple => k_is)
    (case c__minus_multiple => k_is)
    (case k__minus_multiple => k_is)
    (case a__row_with => k_is)
    (case l__row_with => k_is)
    (case c__row_with => k_is)
    (case k__row_with => k_is)
    (case a__with_lead => k_is)
    (case l__with_lead => k_is)
    (case c__with_lead => k_is)
    (case k__with_lead => k_is)
    (case a_reduced => k_is)
    (case l_reduced => k_is)
    (case c_reduced => k_is)
    (case k_reduced => k_is)
    (case a_rank => k_is)
    (case l_rank => k_is)
    (case c_rank => k_is)
    (case k_rank => k_is)
    (case a_is_fixed => k_is)
    (case l_is_fixed => k_is)
    (case c_is_fixed => k_is)
    (case k_is_fixed => k_is)
    (case a__law_mixed => k_is)
    (case l__law_mixed => k_is)
    (case c__law_mixed => k_is)
    (case k__law_mixed => k_is)
    (case a__law_pool => k_is)
    (case l__law_pool => k_is)
    (case c__law_pool => k_is)
    (case k__law_pool => k_is)
    (case a__law_take => k_is)
    (case l__law_take => k_is)
    (case c__law_take => k_is)
    (case k__law_take => k_is)
    (case a__law_is_prime => k_is)
    (case l__law_is_prime => k_is)
    (case c__law_is_prime => k_is)
    (case k__law_is_prime => k_is)
    (case a__law_order => k_is)
    (case l__law_order => k_is)
    (case c__law_order => k_is)
    (case k__law_order => k_is)
    (case a__law_entry => k_is)
    (case l__law_entry => k_is)
    (case c__law_entry => k_is)
    (case k__law_entry => k_is)
    (case a__law_rows => k_is)
    (case l__law_rows => k_is)
    (case c__law_rows => k_is)
    (case k__law_rows => k_is)
    (case a__law_reduced => k_is)
    (case l__law_reduced => k_is)
    (case c__law_reduced => k_is)
    (case k__law_reduced => k_is)
    (case a__law_cleared => k_is)
    (case l__law_cleared => k_is)
    (case c__law_cleared => k_is)
    (case k__law_cleared => k_is)
    (case a__law_inverse => k_is)
    (case l__law_inverse => k_is)
    (case c__law_inverse => k_is)
    (case k__law_inverse => k_is)
    (case a__law_product => k_is)
    (case l__law_product => k_is)
    (case c__law_product => k_is)
    (case k__law_product => k_is)
    (case a__law_vectors => k_is)
    (case l__law_vectors => k_is)
    (case c__law_vectors => k_is)
    (case k__law_vectors => k_is)
    (case a__law_form => k_is)
    (case l__law_form => k_is)
    (case c__law_form => k_is)
    (case k__law_form => k_is)
    (case a__law_by_trying => k_is)
    (case l__law_by_trying => k_is)
    (case c__law_by_trying => k_is)
    (case k__law_by_trying => k_is)
    (case a_law => k_is)
    (case l_law => k_is)
    (case c_law => k_is)
    (case k_law => k_is)
    (case z_ValueError => k_is)
    (case z_bool => k_is)
    (case z_int => k_is)
    (case z_isinstance => k_is)
    (case z_len => k_is)
    (case z_list => k_is)
    (case z_range => k_is)
    (case z_str => k_is)
    (case z_sum => k_is)
    (case z_tuple => k_is)
    (case z_zip => k_is)
    (case a_NoInverse => k_is)
    (case kc_NoInverse => k_is)
    (case s_NoInverse => k_is)
    (case t_NoInverse => k_is)
    (case i_NoInverse => k_is)
    (case a_HushError => k_is)
    (case x_NoInverse => k_exc)
    (case u_NoInverse => k_is)
    (case uh_NoInverse => k_is)
    (case uv_NoInverse => k_is)
    (case e1 => k_is)
    (case e2 => k_is)
    (case e4 => k_is)
    (case e5 => k_is)
    (case e6 => k_is)
    (case e7 => k_is)
    (case e8 => k_is)
