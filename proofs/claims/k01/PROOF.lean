import PyProof.Rows.All
import Wide.All
import OpenK.AllK
import Wide.FinOn
import HandS.ForMost
import HandS.Wide
import HandS.IsInst
import HandS.Gcd
import HandS.NoneIn
import HandS.ForExc
import HandS.ExcIs
import PySem.Challenge.RW_hushpapers_k01_inverses
set_option Elab.async false
set_option maxRecDepth 100000
set_option maxHeartbeats 4000000
namespace Toy
open PySem L2
def top (i : Nat) : Stmt := PySem.Challenge.pw_hushpapers_k01_inverses.main.body.getD i (.Pass ⟨0, 0, 0, 0⟩)
abbrev s_is_prime : Stmt := top 4
theorem scis_prime : FnScope ["n", "divisor"] ["n"] (defScope s_is_prime) := ⟨rfl, rfl, rfl, by decide +kernel, rfl, by decide +kernel, by decide +kernel⟩
abbrev s_inverse : Stmt := top 5
theorem scinverse : FnScope ["a", "q", "larger", "smaller", "larger_factor", "smaller_factor", "times"] ["a", "q"] (defScope s_inverse) := ⟨rfl, rfl, rfl, by decide +kernel, rfl, by decide +kernel, by decide +kernel⟩
abbrev s_Lmix : Stmt := top 7
theorem scLmix : FnScope ["cell", "salt", "one"] ["cell", "salt"] (defScope s_Lmix) := ⟨rfl, rfl, rfl, by decide +kernel, rfl, by decide +kernel, by decide +kernel⟩
abbrev s_Lbox : Stmt := top 8
theorem scLbox : FnScope ["script", "at", "cell"] ["script", "at"] (defScope s_Lbox) := ⟨rfl, rfl, rfl, by decide +kernel, rfl, by decide +kernel, by decide +kernel⟩
abbrev s_Ldraw : Stmt := top 9
theorem scLdraw : FnScope ["box", "many", "cell", "drawn"] ["box", "many"] (defScope s_Ldraw) := ⟨rfl, rfl, rfl, by decide +kernel, rfl, by decide +kernel, by decide +kernel⟩
abbrev s_Lalike : Stmt := top 10
theorem scLalike : FnScope ["told", "due", "k"] ["told", "due"] (defScope s_Lalike) := ⟨rfl, rfl, rfl, by decide +kernel, rfl, by decide +kernel, by decide +kernel⟩
abbrev s_Lis_prime : Stmt := top 11
theorem scLis_prime : FnScope ["n", "k"] ["n"] (defScope s_Lis_prime) := ⟨rfl, rfl, rfl, by decide +kernel, rfl, by decide +kernel, by decide +kernel⟩
abbrev s_Lprime : Stmt := top 12
theorem scLprime : FnScope ["box", "low", "high", "at", "turn", "n"] ["box", "low", "high"] (defScope s_Lprime) := ⟨rfl, rfl, rfl, by decide +kernel, rfl, by decide +kernel, by decide +kernel⟩
abbrev s_Lgreat : Stmt := top 13
theorem scLgreat : FnScope ["box", "size", "number", "k"] ["box"] (defScope s_Lgreat) := ⟨rfl, rfl, rfl, by decide +kernel, rfl, by decide +kernel, by decide +kernel⟩
abbrev s_Lasked : Stmt := top 14
theorem scLasked : FnScope ["a", "q", "e"] ["a", "q"] (defScope s_Lasked) := ⟨rfl, rfl, rfl, by decide +kernel, rfl, by decide +kernel, by decide +kernel⟩
abbrev s_Ldue : Stmt := top 15
theorem scLdue : FnScope ["a", "q", "rest", "b"] ["a", "q"] (defScope s_Ldue) := ⟨rfl, rfl, rfl, by decide +kernel, rfl, by decide +kernel, by decide +kernel⟩
abbrev s_Lright : Stmt := top 16
theorem scLright : FnScope ["a", "q", "due"] ["a", "q"] (defScope s_Lright) := ⟨rfl, rfl, rfl, by decide +kernel, rfl, by decide +kernel, by decide +kernel⟩
abbrev s_Lby_trial : Stmt := top 17
theorem scLby_trial : FnScope ["n", "k"] ["n"] (defScope s_Lby_trial) := ⟨rfl, rfl, rfl, by decide +kernel, rfl, by decide +kernel, by decide +kernel⟩
abbrev s_law : Stmt := top 18
theorem sclaw : FnScope ["script", "box", "far", "q", "a", "great", "turn", "n", "m"] ["script"] (defScope s_law) := ⟨rfl, rfl, rfl, by decide +kernel, rfl, by decide +kernel, by decide +kernel⟩
/-! ### calls by keywords alone -/
section
open PySem.Spec PyProof.Rows
variable {X : Cx} {CX : CXT} {k : Nat} {f : Addr} {fd : FuncData} {ps ks : List Str} {sp : Sp} {E : XK} {x : Str} {p pos : Pos} {kws : List Keyword} {tk : TA} {g : List Value → List Value → List Value} {gV : List V → List V → List V}
theorem pe_callK0 (F : FnOk X.prog X.w X.K X.mg X.base CX k f fd ps sp) (hr : Room k X.A) (hg : Gl X x) (hm : X.mg x = some (.ref f)) (hk : PySem.W.keepIn X.K (.ref f) = true) (hb : KBinds X.K fd ps ks g gV) (hx : Passes CX X E)
    (hkw : PK X kws tk) (hall : (backToKw pos (keywordEach kws X.env)).all (·.1.isSome) = true := by rfl) (hks : (backToKw pos (keywordEach kws X.env)).filterMap (·.1) = ks := by rfl)
    (hdb : (x == ("__debug__" : Str)) = false := by decide)
    (hpl : ((backTo pos (starEach [] X.env)).any (·.1) || (backToKw pos (keywordEach kws X.env)).any (·.1.isNone)) = false := by rfl) :
    PE X (.Call (.Name x p) [] kws pos) (tCallK sp gV E tNil tk) := by
  refine ⟨fun pins s σ H Q I h => ?_⟩
  refine wpAny_Call_Name_kw (ld_glob I hg hm ?_ hdb)
  refine PySem.W.callWith_KW0 (h₀ := X.base) I.ok.mod.kin hk hall ?_ hpl
  refine thn (hkw.run pos pins s σ H _ I h) fun ws s2 ⟨zs, H2, I2, rz, q2⟩ => ⟨I2.kIn, ?_⟩
  rw [hks]
  exact run_fnk (us := []) (vs := []) F hr hb hx I2 .nil rz q2
end
theorem fun_kbinds {K : PySem.W.Frag} {x qual : Str} {st : Stmt} {f : Addr} {fd : FuncData} {ps ks : List Str} {g : List Value → List Value → List Value} {gV : List V → List V → List V} (F : Fun K x qual st f fd)
    (hrel : ∀ {vs : List V} {us : List Value} {zs : List V} {ws : List Value}, Vals vs us → Vals zs ws → Vals (gV vs zs) (g us ws))
    (h : ∀ (kV doc pm : Value) (an : Option Addr) (cdv ct : Value) (us ws : List Value), (g us ws).length = ps.length → bindArgs (PySem.W.fnOf x qual (defArgs st) (defBody st) (defScope st) .none kV doc pm an cdv ct) ⟨us, ks.zip ws⟩ = pure (ps.zip (g us ws))) : KBinds K fd ps ks g gV := by
  obtain ⟨oc, od, kV, doc, pm, an, cdv, ct, osl, rfl, lk, hcd⟩ := F.ex
  exact ⟨fun s us ws _ hl => .of_eq (h kV doc pm an cdv ct us ws hl), hrel⟩
/-! ### errors of one's own, made without arguments -/
section
open PySem.Spec PyProof.Rows
variable {X : Cx}
theorem pmk_own0 {C : Addr} {bmB : List Value} {B newId initId : String} {x : Str} {p pos : Pos} (F : ExcBaseFacts B newId initId bmB) (q : PySem.W.excIn X.K C bmB newId = true) (gC : X.mg x = some (.ref C))
    (kC : PySem.W.keepIn X.K (.ref C) = true) (r : Raises X (.ref C)) (hg : Gl X x) (hdb : (x == ("__debug__" : Str)) = false := by decide) :
    PMk X (.Call (.Name x p) [] [] pos) (fun _ H Q => Q (.ref C) none H) := by
  intro pins s σ H Q I h
  refine wpAny_Call_Name_kw (ld_glob I hg gC ?_ hdb)
  refine PySem.W.callWith_K0 (first := []) I.kIn kC ?_
  show wpAny _ _ (call (.ref C) []) _ _ _
  have X0 := I.kIn
  obtain ⟨bm, N, nm, qn, bs, hdct, sn, sub, ab, col, dd, k0, k1, k2, k3, k5, mN, hC, hN, hni, T⟩ := exc_obj X0 q
  refine wpAny_call_exc_subT F T hC hN hni (fun h' e hm => ?_) (Nat.zero_le _)
  exact mk_of I hm r h (I.hok.gone hm.new)
theorem pss_given {st : List Stmt} {t : TS} {φ : Prop} (h : φ → PSs X st t) : PSs X st (fun D σ H => φ ∧ t D σ H) := ⟨fun pins s σ H D I q => (h q.1).run pins s σ H D I q.2⟩
end
theorem kit_own {K : PySem.W.Frag} {D C : Addr} {b : Bool} (i : PySem.W.isClsIn K C = true) (t : PySem.W.typeIn K (.ref C) = some (.type "type")) (s : PySem.W.subIn K (.ref D) (.ref C) = some b) (h : D = C → b = true) : PySem.W.kitOne K (.ref D) (.ref C) = some b := by
  unfold PySem.W.kitOne
  by_cases e : D = C
  · rw [if_pos (by rw [e]; exact beq_self_eq_true _), h e]
  · have ne : (Value.ref D == Value.ref C) = false := beq_eq_false_iff_ne.mpr (fun z => e (Value.ref.inj z))
    rw [if_neg (by rw [ne]; exact Bool.false_ne_true)]
    show (if ((PySem.W.clsIn K C).isSome && PySem.W.typeIn K (.ref C) == some (.type "type")) = true then PySem.W.subIn K (.ref D) (.ref C) else none) = some b
    have i' : (PySem.W.clsIn K C).isSome = true := i
    rw [i', t, if_pos (by rfl)]
    exact s
theorem kit_val {K : PySem.W.Frag} {D : Addr} {b : Bool} (s : PySem.W.subIn K (.ref D) (.type "ValueError") = some b) : PySem.W.kitOne K (.ref D) (.type "ValueError") = some b := by
  unfold PySem.W.kitOne
  have ne : (Value.ref D == Value.type "ValueError") = false := beq_eq_false_iff_ne.mpr (fun z => nomatch z)
  rw [if_neg (by rw [ne]; exact Bool.false_ne_true)]
  show (if PySem.W.kitMeta "ValueError" = true then PySem.W.subIn K (.ref D) (.type "ValueError") else none) = some b
  rw [if_pos (by decide +kernel)]
  exact s
def g_inverse_0_a_q {α : Type} (us ws : List α) : List α := match us, ws with | [], [w0, w1] => [w0, w1] | _, _ => []
theorem g_inverse_0_a_q_rel {vs : List V} {us : List Value} {zs : List V} {ws : List Value} (r : Vals vs us) (q : Vals zs ws) : Vals (g_inverse_0_a_q vs zs) (g_inverse_0_a_q us ws) := by
  unfold g_inverse_0_a_q
  split
  · match r, q with | .nil, (.cons q0 (.cons q1 .nil)) => exact (.cons q0 (.cons q1 .nil))
  · next h =>
    split
    · match r, q with | .nil, (.cons q0 (.cons q1 .nil)) => exact (h _ _ rfl rfl).elim
    · exact .nil
theorem g_inverse_0_a_q_rel' : True := True.intro
def g_is_prime_0_n {α : Type} (us ws : List α) : List α := match us, ws with | [], [w0] => [w0] | _, _ => []
theorem g_is_prime_0_n_rel {vs : List V} {us : List Value} {zs : List V} {ws : List Value} (r : Vals vs us) (q : Vals zs ws) : Vals (g_is_prime_0_n vs zs) (g_is_prime_0_n us ws) := by
  unfold g_is_prime_0_n
  split
  · match r, q with | .nil, (.cons q0 .nil) => exact (.cons q0 .nil)
  · next h =>
    split
    · match r, q with | .nil, (.cons q0 .nil) => exact (h _ rfl rfl).elim
    · exact .nil
theorem g_is_prime_0_n_rel' : True := True.intro
structure Top (K : PySem.W.Frag) (mg : Str → Option Value) where
  f_is_prime : Addr
  d_is_prime : FuncData
  F_is_prime : Fun K "is_prime" "is_prime" s_is_prime f_is_prime d_is_prime
  m_is_prime : mg "is_prime" = some (.ref f_is_prime)
  b_is_prime : Binds K d_is_prime ["n"] []
  f_inverse : Addr
  d_inverse : FuncData
  F_inverse : Fun K "inverse" "inverse" s_inverse f_inverse d_inverse
  m_inverse : mg "inverse" = some (.ref f_inverse)
  b_inverse : Binds K d_inverse ["a", "q"] []
  f__law_mix : Addr
  d__law_mix : FuncData
  F__law_mix : Fun K "_law_mix" "_law_mix" s_Lmix f__law_mix d__law_mix
  m__law_mix : mg "_law_mix" = some (.ref f__law_mix)
  b__law_mix : Binds K d__law_mix ["cell", "salt"] []
  f__law_box : Addr
  d__law_box : FuncData
  F__law_box : Fun K "_law_box" "_law_box" s_Lbox f__law_box d__law_box
  m__law_box : mg "_law_box" = some (.ref f__law_box)
  b__law_box : Binds K d__law_box ["script", "at"] []
  f__law_draw : Addr
  d__law_draw : FuncData
  F__law_draw : Fun K "_law_draw" "_law_draw" s_Ldraw f__law_draw d__law_draw
  m__law_draw : mg "_law_draw" = some (.ref f__law_draw)
  b__law_draw : Binds K d__law_draw ["box", "many"] []
  f__law_alike : Addr
  d__law_alike : FuncData
  F__law_alike : Fun K "_law_alike" "_law_alike" s_Lalike f__law_alike d__law_alike
  m__law_alike : mg "_law_alike" = some (.ref f__law_alike)
  b__law_alike : Binds K d__law_alike ["told", "due"] []
  f__law_is_prime : Addr
  d__law_is_prime : FuncData
  F__law_is_prime : Fun K "_law_is_prime" "_law_is_prime" s_Lis_prime f__law_is_prime d__law_is_prime
  m__law_is_prime : mg "_law_is_prime" = some (.ref f__law_is_prime)
  b__law_is_prime : Binds K d__law_is_prime ["n"] []
  f__law_prime : Addr
  d__law_prime : FuncData
  F__law_prime : Fun K "_law_prime" "_law_prime" s_Lprime f__law_prime d__law_prime
  m__law_prime : mg "_law_prime" = some (.ref f__law_prime)
  b__law_prime : Binds K d__law_prime ["box", "low", "high"] []
  f__law_great : Addr
  d__law_great : FuncData
  F__law_great : Fun K "_law_great" "_law_great" s_Lgreat f__law_great d__law_great
  m__law_great : mg "_law_great" = some (.ref f__law_great)
  b__law_great : Binds K d__law_great ["box"] []
  f__law_asked : Addr
  d__law_asked : FuncData
  F__law_asked : Fun K "_law_asked" "_law_asked" s_Lasked f__law_asked d__law_asked
  m__law_asked : mg "_law_asked" = some (.ref f__law_asked)
  b__law_asked : Binds K d__law_asked ["a", "q"] []
  f__law_due : Addr
  d__law_due : FuncData
  F__law_due : Fun K "_law_due" "_law_due" s_Ldue f__law_due d__law_due
  m__law_due : mg "_law_due" = some (.ref f__law_due)
  b__law_due : Binds K d__law_due ["a", "q"] []
  f__law_right : Addr
  d__law_right : FuncData
  F__law_right : Fun K "_law_right" "_law_right" s_Lright f__law_right d__law_right
  m__law_right : mg "_law_right" = some (.ref f__law_right)
  b__law_right : Binds K d__law_right ["a", "q"] []
  f__law_by_trial : Addr
  d__law_by_trial : FuncData
  F__law_by_trial : Fun K "_law_by_trial" "_law_by_trial" s_Lby_trial f__law_by_trial d__law_by_trial
  m__law_by_trial : mg "_law_by_trial" = some (.ref f__law_by_trial)
  b__law_by_trial : Binds K d__law_by_trial ["n"] []
  f_law : Addr
  d_law : FuncData
  F_law : Fun K "law" "law" s_law f_law d_law
  m_law : mg "law" = some (.ref f_law)
  b_law : Binds K d_law ["script"] []
  k_inverse_0_a_q : KBinds K d_inverse ["a", "q"] ["a", "q"] (g_inverse_0_a_q) (g_inverse_0_a_q)
  k_is_prime_0_n : KBinds K d_is_prime ["n"] ["n"] (g_is_prime_0_n) (g_is_prime_0_n)
  z_ValueError : mg "ValueError" = none
  z_bool : mg "bool" = none
  z_int : mg "int" = none
  z_isinstance : mg "isinstance" = none
  z_len : mg "len" = none
  z_list : mg "list" = none
  z_range : mg "range" = none
  z_str : mg "str" = none
  z_tuple : mg "tuple" = none
  c_NoInverse : Addr
  m_NoInverse : mg "NoInverse" = some (.ref c_NoInverse)
  kc_NoInverse : PySem.W.keepIn K (.ref c_NoInverse) = true
  s_NoInverse : PySem.W.subIn K (.ref c_NoInverse) (.type "BaseException") = some true
  t_NoInverse : PySem.W.typeIn K (.ref c_NoInverse) = some (.type "type")
  i_NoInverse : PySem.W.isClsIn K c_NoInverse = true
  c_HushError : Addr
  m_HushError : mg "HushError" = some (.ref c_HushError)
  kc_HushError : PySem.W.keepIn K (.ref c_HushError) = true
  s_HushError : PySem.W.subIn K (.ref c_HushError) (.type "BaseException") = some true
  t_HushError : PySem.W.typeIn K (.ref c_HushError) = some (.type "type")
  i_HushError : PySem.W.isClsIn K c_HushError = true
  x_NoInverse : PySem.W.excIn K c_NoInverse [.type "ValueError", .type "Exception", .type "BaseException", .type "object"] "ValueError.__new__" = true
  u_NoInverse : PySem.W.subIn K (.ref c_NoInverse) (.ref c_NoInverse) = some true
  uh_NoInverse : PySem.W.subIn K (.ref c_NoInverse) (.ref c_HushError) = some true
  uv_NoInverse : PySem.W.subIn K (.ref c_NoInverse) (.type "ValueError") = some true
  xc_NoInverse : ExcC K c_NoInverse
/-! ### lookups, steps -/
theorem iteE {c : Prop} [Decidable c] {A B : Prop} (h1 : c → A) (h2 : ¬ c → B) : if c then A else B := ite2 h1 h2
theorem fm {x m : Int} (h : 0 < m) : 0 ≤ x.fmod m ∧ x.fmod m < m := ⟨Int.fmod_nonneg_of_pos x h, Int.fmod_lt_of_pos x h⟩
def Keep (b : Addr) (H H' : Hp) : Prop := ∀ a o, H a = some o → a ≠ b → H' a = some o
theorem Keep.refl {b : Addr} (H : Hp) : Keep b H H := fun _ _ h _ => h
theorem Keep.trans {b : Addr} {H H1 H2 : Hp} (a : Keep b H H1) (k : Keep b H1 H2) : Keep b H H2 := fun c o h n => k c o (a c o h n) n
theorem Keep.of {b : Addr} {H H1 : Hp} (a : Same H H1) : Keep b H H1 := fun c o h _ => a c o h
theorem Keep.put {b : Addr} {H H1 : Hp} {o : HO} (a : Keep b H H1) : Keep b H (upd H1 b o) := fun c u h n => by
  rw [upd_ne n]
  exact a c u h n
theorem same_new {H : Hp} {p : Addr} (h : H p = none) (o : HO) : Same H (upd H p o) := fun b u q => by rw [upd_ne (ne_of_none q h)]; exact q
theorem Same.fr {H H' : Hp} (e : Same H H') {l : Addr} (h : H' l = Option.none) : H l = Option.none := e.free h
/-- a box: five ints and the list of the cells -/
structure BoxAt (H : Hp) (b c : Addr) : Prop where
  ne : b ≠ c
  ex : ∃ (cs : List Int) (x0 x1 x2 x3 x4 : Int), 0 ≤ x2 ∧ H b = some (.lst [.int x0, .int x1, .int x2, .int x3, .int x4, .ref c]) ∧ H c = some (.lst (cs.map V.int))
theorem BoxAt.mk1 {H : Hp} {b c : Addr} {cs : List Int} {x0 x1 x2 x3 x4 : Int} (hb : H b = some (.lst [.int x0, .int x1, .int x2, .int x3, .int x4, .ref c])) (hc : H c = some (.lst (cs.map V.int))) (h2 : 0 ≤ x2) (ne : b ≠ c) : BoxAt H b c :=
  ⟨ne, cs, x0, x1, x2, x3, x4, h2, hb, hc⟩
theorem BoxAt.keep {H H' : Hp} {b c d : Addr} (B : BoxAt H b c) (k : Keep d H H') (h1 : b ≠ d) (h2 : c ≠ d) : BoxAt H' b c := by
  obtain ⟨ne, cs, x0, x1, x2, x3, x4, h, hb, hc⟩ := B
  exact ⟨ne, cs, x0, x1, x2, x3, x4, h, k _ _ hb h1, k _ _ hc h2⟩
theorem BoxAt.same {H H' : Hp} {b c : Addr} (B : BoxAt H b c) (k : Same H H') : BoxAt H' b c := by
  obtain ⟨ne, cs, x0, x1, x2, x3, x4, h, hb, hc⟩ := B
  exact ⟨ne, cs, x0, x1, x2, x3, x4, h, k _ _ hb, k _ _ hc⟩
theorem BoxAt.got {H : Hp} {b c : Addr} (B : BoxAt H b c) : ∃ o, H b = some o := by
  obtain ⟨ne, cs, x0, x1, x2, x3, x4, h, hb, hc⟩ := B
  exact ⟨_, hb⟩
/-- nothing is new ahead of what a box's change leaves new -/
theorem Keep.fr {b c : Addr} {H H' : Hp} (k : Keep b H H') (B : BoxAt H' b c) {p : Addr} (h : H' p = Option.none) : H p = Option.none := by
  cases q : H p with
  | none => rfl
  | some o =>
    obtain ⟨u, hu⟩ := B.got
    have n : p ≠ b := by
      intro e
      rw [e, hu] at h
      cases h
    rw [k p o q n] at h
    cases h
theorem atI_cell' {ns : List Int} {i : Int} (h0 : 0 ≤ i) (h : i < ns.length) : ∃ v : Int, atI (ns.map V.int) i = some (.int v) := by
  have hk : i.toNat < ns.length := by omega
  have ei : i = ((i.toNat : Nat) : Int) := by omega
  refine ⟨ns[i.toNat], ?_⟩
  have q : atI (ns.map V.int) ((i.toNat : Nat) : Int) = some (.int ns[i.toNat]) := atI_nat (by rw [List.getElem?_map]; simp [List.getElem?_eq_getElem hk])
  rwa [← ei] at q
theorem atI0 {xs : List V} {i : Nat} {v : V} (h : xs[i]? = some v) : atI xs (0 + (i : Int)) = some v := by
  rw [Int.zero_add]
  exact atI_nat h
local macro_rules | `(tactic| walk_at "lk") => `(tactic| first
  | assumption | exact upd_same
  | (rw [upd_ne (by assumption)]; walk_at "lk")
  | (rw [upd_ne (Ne.symm (by assumption))]; walk_at "lk"))
local macro_rules | `(tactic| walk_at "kp") => `(tactic| first | exact Keep.refl _ | (refine Keep.put ?_; walk_at "kp"))
local macro_rules | `(tactic| walk_at "s") => `(tactic| first
  | refine ⟨_, rfl, ?_⟩
  | refine ⟨_, _, rfl, rfl, ?_⟩
  | refine And.intro rfl ?_
  | refine And.intro (Or.inr ⟨by decide, by decide⟩) ?_
  | refine And.intro (Or.inl ⟨by decide, by decide⟩) ?_
  | refine And.intro (Or.inl ⟨by omega, by omega⟩) ?_
  | refine And.intro ⟨by decide, by decide, by decide⟩ ?_
  | refine And.intro ⟨by omega, by omega⟩ ?_
  | refine And.intro (Nat.le_of_lt (small1000 (by simp only [List.length_cons, List.length_nil]; decide))) ?_
  | refine And.intro (by first | decide | (dsimp only; decide) | omega | (dsimp only; omega)) ?_
  | refine Or.inl ⟨_, rfl, ?_⟩
  | refine ⟨_, _, _, _, rfl, rfl, SqL.of (by walk_at "lk"), by rfl, ?_⟩
  | refine ⟨_, _, _, _, rfl, rfl, SqT.of (by walk_at "lk"), by rfl, ?_⟩
  | refine ⟨_, _, _, _, rfl, rfl, by walk_at "lk", by rfl, ?_⟩
  | refine ⟨_, _, rfl, .inl (SqL.of (by walk_at "lk")), ?_⟩
  | refine ⟨_, _, rfl, .inr (SqT.of (by walk_at "lk")), ?_⟩)
local macro_rules | `(tactic| walk_at "ss") => `(tactic| repeat (walk_at "s"))
local macro_rules | `(tactic| walk_at "s1") => `(tactic| first
  | refine ⟨_, _, _, _, _, rfl, .ty _, .base (by first | exact .int _ | exact .bl _ | exact .non | exact .str _ | exact .tup (by assumption) | exact .lst (by assumption)), kit_ty (r := false) (by decide +kernel), ?_⟩
  | refine ⟨_, _, _, _, _, rfl, .ty _, .base (by first | exact .int _ | exact .bl _ | exact .non | exact .str _ | exact .tup (by assumption) | exact .lst (by assumption)), kit_ty (r := true) (by decide +kernel), ?_⟩
  | walk_at "s")
local macro_rules | `(tactic| walk_at "sa") => `(tactic| repeat (walk_at "s1"))
/-! ### the law's own draws -/
def spMix : Sp := fun vs H Q _ => ∃ c s : Int, vs = [.int c, .int s] ∧ ∀ r : Int, 0 ≤ r → Q (.int r) H
def spDraw : Sp := fun vs H Q _ => ∃ (b c : Addr) (m : Int), vs = [.ref b, .int m] ∧ BoxAt H b c ∧ 0 < m ∧ m < 1073741824 ∧
  ∀ (r : Int) (H' : Hp), 0 ≤ r → r < m → BoxAt H' b c → Keep b H H' → Q (.int r) H'
section
variable {P : Program} {w : World} {K : PySem.W.Frag} {mg : Str → Option Value} {base : Heap}
theorem ok_mix (T : Top K mg) : FnOk P w K mg base CX0 1 T.f__law_mix T.d__law_mix ["cell", "salt"] spMix := by
  refine T.F__law_mix.ok scLmix (fun vs H Q E h => ?_) (fun cdv A outer s H vs Q E hr h => ?_)
  · obtain ⟨_, _, rfl, _⟩ := h
    rfl
  obtain ⟨c, z, rfl, q⟩ := h
  refine ⟨_, (pss_cons (ps_set (i := 2) scLmix.nd rfl (Or.inl rfl) (pe_op op_modN (pe_callTy call_int1 (by rfl) T.z_int (by decide +kernel) (pa_cons (pe_op op_add (pe_op op_add (pe_op op_mul (pv 0) pe_int) (pe_op op_mul (pv 1) pe_int)) pe_int) pa_nil)) pe_int))
      (pss_one (ps_ret (pe_op op_modN (pe_callTy call_int1 (by rfl) T.z_int (by decide +kernel) (pa_cons (pe_op op_add (pe_op op_add (pe_op op_mul (pv 2) (pv 2)) (pe_op op_mul (pv 2) pe_int)) (pe_op op_mul (pv 1) pe_int)) pa_nil)) pe_int)))), ?_⟩
  walk_at "ss"
  have h1 := fm (x := c * 48271 + z * 69621 + 12345) (m := 2147483647) (by decide)
  refine ⟨.inl ⟨Int.lt_of_lt_of_le (by decide) h1.1, Int.lt_trans h1.2 (by decide)⟩, ?_⟩
  walk_at "ss"
  exact q _ (fm (x := _) (m := 2147483629) (by decide)).1
set_option hygiene false in
local macro_rules | `(tactic| walk_at "dfin") => `(tactic| first
  | exact q _ _ (fm hm).1 (fm hm).2 (BoxAt.mk1 (by exact upd_same) (by walk_at "lk") (by first | assumption | omega | (dsimp only; omega)) ne) (by walk_at "kp")
  | (refine ⟨_, _, rfl, fun r h0 => ?_⟩; walk_at "ss"; walk_at "dfin")
  | (refine ite2 (fun _ => ?_) (fun _ => ?_) <;> walk_at "ss" <;> walk_at "dfin"))
theorem ok_draw (T : Top K mg) : FnOk P w K mg base CX0 2 T.f__law_draw T.d__law_draw ["box", "many"] spDraw := by
  have G__law_mix := ok_mix (P := P) (w := w) (base := base) T
  refine T.F__law_draw.ok scLdraw (fun vs H Q E h => ?_) (fun cdv A outer s H vs Q E hr h => ?_)
  · obtain ⟨_, _, _, rfl, _⟩ := h
    rfl
  obtain ⟨b, c, m, rfl, B, hm, hm2, q⟩ := h
  refine ⟨_, (pss_cons (ps_if (PW.pt (pw_and (pt_cmpR op_eq (pe_ix ix_list (pv 0) pe_int (fun _ _ => rfl)) pe_int (nomark _)) (pw_and1 (pt_cmpR op_lt (pe_ix ix_list (pv 0) pe_int (fun _ _ => rfl)) (pe_callB call_len_seq (by rfl) T.z_len PySem.boot_len (pa_cons (pe_ix ix_list (pv 0) pe_int (fun _ _ => rfl)) pa_nil)) (nomark _))))) (pss_cons (ps_set (i := 2) scLdraw.nd rfl (Or.inl rfl) (pe_ix ix_list (pe_ix ix_list (pv 0) pe_int (fun _ _ => rfl)) (pe_ix ix_list (pv 0) pe_int (fun _ _ => rfl)) (fun _ _ => rfl)))
      (pss_cons (ps_asg (pe_op op_add (pe_ix ix_list (pv 0) pe_int (fun _ _ => rfl)) pe_int) (pg_sub (pv 0) pe_int set_list))
      (pss_cons (ps_asg (pe_op op_modN (pe_callTy call_int1 (by rfl) T.z_int (by decide +kernel) (pa_cons (pe_op op_add (pe_op op_mul (pe_ix ix_list (pv 0) pe_int (fun _ _ => rfl)) pe_int) (pv 2)) pa_nil)) pe_int) (pg_sub (pv 0) pe_int set_list))
      (pss_one (ps_if (pt_cmpR op_ge (pv 2) (pe_op op_pow pe_int pe_int) (nomark _)) (pss_cons (ps_asg (pe_op op_sub (pv 2) (pe_op op_pow pe_int pe_int)) (pg_sub (pv 0) pe_int set_list))
      (pss_one (ps_asg pe_int (pg_sub (pv 0) pe_int set_list)))) pss_nil))))) pss_nil)
      (pss_cons (ps_if (PW.pt (pw_and (pt_cmpR op_gt (pe_ix ix_list (pv 0) pe_int (fun _ _ => rfl)) pe_int (nomark _)) (pw_and1 (pt_cmpR op_gt (pe_ix ix_list (pv 0) pe_int (fun _ _ => rfl)) pe_int (nomark _))))) (pss_cons (ps_set (i := 3) scLdraw.nd rfl (Or.inl rfl) (pe_op op_modN (pe_callTy call_int1 (by rfl) T.z_int (by decide +kernel) (pa_cons (pe_ix ix_list (pv 0) pe_int (fun _ _ => rfl)) pa_nil)) (pv 1)))
      (pss_cons (ps_asg (pe_op op_fdivN (pe_ix ix_list (pv 0) pe_int (fun _ _ => rfl)) (pv 1)) (pg_sub (pv 0) pe_int set_list))
      (pss_cons (ps_asg (pe_op op_sub (pe_ix ix_list (pv 0) pe_int (fun _ _ => rfl)) pe_int) (pg_sub (pv 0) pe_int set_list))
      (pss_one (ps_ret (pv 3)))))) pss_nil)
      (pss_cons (ps_asg pe_int (pg_sub (pv 0) pe_int set_list))
      (pss_cons (ps_asg (pe_op op_add (pe_ix ix_list (pv 0) pe_int (fun _ _ => rfl)) pe_int) (pg_sub (pv 0) pe_int set_list))
      (pss_one (ps_ret (pe_op op_modN (pe_callTy call_int1 (by rfl) T.z_int (by decide +kernel) (pa_cons (pe_call G__law_mix (hr.mono (by decide)) rfl T.m__law_mix T.F__law_mix.kp T.b__law_mix .nil pass0 (pa_cons (pe_ix ix_list (pv 0) pe_int (fun _ _ => rfl)) (pa_cons (pe_ix ix_list (pv 0) pe_int (fun _ _ => rfl)) pa_nil))) pa_nil)) (pv 1)))))))), ?_⟩
  obtain ⟨ne, cs, x0, x1, x2, x3, x4, h2, hb, hc⟩ := B
  walk_at "ss"
  refine ite2 (fun c1 => ?_) (fun c1 => iteF ?_)
  · walk_at "ss"
    refine ite2 (fun c2 => ?_) (fun c2 => ?_)
    · have c2' := of_decide_eq_true c2
      rw [List.length_map] at c2'
      obtain ⟨v, hv⟩ := atI_cell' h2 c2'
      walk_at "ss"
      refine ⟨_, _, _, _, rfl, rfl, SqL.of hc, hv, ?_⟩
      walk_at "ss"
      refine ite2 (fun c3 => ?_) (fun c3 => ?_)
      all_goals (walk_at "ss"; walk_at "dfin")
    · walk_at "ss"
      walk_at "dfin"
  · walk_at "ss"
    walk_at "dfin"
/-! ### two data that are alike -/
inductive Al (H : Hp) : Nat → V → V → Prop where
  | int (n : Nat) (i : Int) : Al H n (.int i) (.int i)
  | bl (n : Nat) (b : Bool) : Al H n (.bl b) (.bl b)
  | non (n : Nat) : Al H n .non .non
  | str (n : Nat) (z : Str) : Al H n (.str z) (.str z)
  | tup {n : Nat} {p q : Addr} {xs ys : List V} (hp : H p = some (.tup xs)) (hq : H q = some (.tup ys)) (hl : xs.length = ys.length) (hz : ys.length ≤ 4096)
      (h : ∀ (i : Nat) (x y : V), xs[i]? = some x → ys[i]? = some y → Al H n x y) : Al H (n + 1) (.ref p) (.ref q)
  | lst {n : Nat} {p q : Addr} {xs ys : List V} (hp : H p = some (.lst xs)) (hq : H q = some (.lst ys)) (hl : xs.length = ys.length) (hz : ys.length ≤ 4096)
      (h : ∀ (i : Nat) (x y : V), xs[i]? = some x → ys[i]? = some y → Al H n x y) : Al H (n + 1) (.ref p) (.ref q)
theorem Al.same {H H' : Hp} (s : Same H H') : ∀ {n : Nat} {x y : V}, Al H n x y → Al H' n x y := by
  intro n x y h
  induction h with
  | int n i => exact .int n i
  | bl n b => exact .bl n b
  | non n => exact .non n
  | str n z => exact .str n z
  | tup hp hq hl hz _ ih => exact .tup (s _ _ hp) (s _ _ hq) hl hz ih
  | lst hp hq hl hz _ ih => exact .lst (s _ _ hp) (s _ _ hq) hl hz ih
theorem Al.tup0 {H : Hp} {n : Nat} {p q : Addr} (hp : H p = some (.tup [])) (hq : H q = some (.tup [])) : Al H (n + 1) (.ref p) (.ref q) := .tup hp hq rfl (by simp) (fun i x y h => by simp at h)
theorem Al.tup2 {H : Hp} {n : Nat} {p q : Addr} {x1 x2 y1 y2 : V} (hp : H p = some (.tup [x1, x2])) (hq : H q = some (.tup [y1, y2])) (h1 : Al H n x1 y1) (h2 : Al H n x2 y2) : Al H (n + 1) (.ref p) (.ref q) :=
  .tup hp hq rfl (by simp) (fun i x y hx hy => by
    match i, hx, hy with
    | 0, hx, hy => cases hx; cases hy; exact h1
    | 1, hx, hy => cases hx; cases hy; exact h2
    | i + 2, hx, hy => simp at hx)
theorem Al.tup3 {H : Hp} {n : Nat} {p q : Addr} {x1 x2 x3 y1 y2 y3 : V} (hp : H p = some (.tup [x1, x2, x3])) (hq : H q = some (.tup [y1, y2, y3])) (h1 : Al H n x1 y1) (h2 : Al H n x2 y2) (h3 : Al H n x3 y3) : Al H (n + 1) (.ref p) (.ref q) :=
  .tup hp hq rfl (by simp) (fun i x y hx hy => by
    match i, hx, hy with
    | 0, hx, hy => cases hx; cases hy; exact h1
    | 1, hx, hy => cases hx; cases hy; exact h2
    | 2, hx, hy => cases hx; cases hy; exact h3
    | i + 3, hx, hy => simp at hx)
/-- tuples of the same ints -/
theorem Al.ints {H : Hp} {n : Nat} {p q : Addr} {xs : List Int} (hz : xs.length ≤ 4096) (hp : H p = some (.tup (xs.map V.int))) (hq : H q = some (.tup (xs.map V.int))) : Al H (n + 1) (.ref p) (.ref q) :=
  .tup hp hq rfl (by rw [List.length_map]; exact hz) (fun i x y hx hy => by
    rw [hx] at hy
    cases hy
    rw [List.getElem?_map] at hx
    cases e : xs[i]? with
    | none => rw [e] at hx; cases hx
    | some z =>
      rw [e] at hx
      cases hx
      exact .int n z)
def spAl : Nat → Sp
  | 0 => fun _ _ _ _ => False
  | n + 1 => fun vs H Q _ => ∃ x y : V, vs = [x, y] ∧ Al H n x y ∧ ∀ H', Same H H' → Q (.bl true) H'
theorem ty_tl (K : PySem.W.Frag) (t : String) (b1 b2 : Bool) (h1 : kitB t "tuple" = some b1) (h2 : kitB t "list" = some b2) : PySem.W.kitAny K (.type t) [.type "tuple", .type "list"] = some (b1 || b2) := by
  cases b1 with
  | true => exact kitAny_cons (kit_ty h1) (fun z => by cases z) (fun _ => rfl)
  | false => exact kitAny_cons (kit_ty h1) (fun _ => kitAny_cons (kit_ty h2) (fun z => by rw [z]; rfl) (fun z => by rw [z]; rfl)) (fun z => by cases z)
theorem ok_alike (T : Top K mg) : ∀ n : Nat, FnOk P w K mg base CX0 n T.f__law_alike T.d__law_alike ["told", "due"] (spAl n)
  | 0 => ⟨fun _ _ _ _ h => h.elim, fun _ _ _ _ _ _ _ _ _ _ _ _ _ h => h.elim⟩
  | n + 1 => by
    have G__law_alike := ok_alike T n
    refine T.F__law_alike.ok scLalike (fun vs H Q E h => ?_) (fun cdv A outer s H vs Q E hr h => ?_)
    · obtain ⟨_, _, rfl, _⟩ := h
      rfl
    obtain ⟨x, y, rfl, a, q⟩ := h
    refine ⟨_, (pss_cons (ps_if (pt_val (pe_callB call_isiT (by rfl) T.z_isinstance (by decide +kernel) (pa_cons (pv 1) (pa_cons (pe_tup (pa_cons (pe_bltn (v := .ty "tuple") (by rfl) T.z_tuple (by decide +kernel) rfl) (pa_cons (pe_bltn (v := .ty "list") (by rfl) T.z_list (by decide +kernel) rfl) pa_nil))) pa_nil)))) (pss_cons (ps_if (PW.pt (pw_or (pt_cmpR op_ne (pe_callB call_isi (by rfl) T.z_isinstance (by decide +kernel) (pa_cons (pv 0) (pa_cons (pe_bltn (v := .ty "tuple") (by rfl) T.z_tuple (by decide +kernel) rfl) pa_nil))) (pe_callB call_isi (by rfl) T.z_isinstance (by decide +kernel) (pa_cons (pv 1) (pa_cons (pe_bltn (v := .ty "tuple") (by rfl) T.z_tuple (by decide +kernel) rfl) pa_nil))) (nomark _)) (pw_or1 (pt_cmpR op_ne (pe_callB call_isi (by rfl) T.z_isinstance (by decide +kernel) (pa_cons (pv 0) (pa_cons (pe_bltn (v := .ty "list") (by rfl) T.z_list (by decide +kernel) rfl) pa_nil))) (pe_callB call_isi (by rfl) T.z_isinstance (by decide +kernel) (pa_cons (pv 1) (pa_cons (pe_bltn (v := .ty "list") (by rfl) T.z_list (by decide +kernel) rfl) pa_nil))) (nomark _))))) (pss_one (ps_ret pe_bl)) pss_nil)
      (pss_cons (ps_if (pt_cmpR op_ne (pe_callB call_len_seq (by rfl) T.z_len PySem.boot_len (pa_cons (pv 0) pa_nil)) (pe_callB call_len_seq (by rfl) T.z_len PySem.boot_len (pa_cons (pv 1) pa_nil)) (nomark _)) (pss_one (ps_ret pe_bl)) pss_nil)
      (pss_cons (ps_for PassesOwn.never rfl (pi_range1 (by rfl) T.z_range (pa_cons (pe_callB call_len_seq (by rfl) T.z_len PySem.boot_len (pa_cons (pv 1) pa_nil)) pa_nil)) (pg_name (i := 2) scLalike.nd rfl (Or.inl rfl)) (pss_one (ps_if (pt_not (pt_val (pe_call G__law_alike hr rfl T.m__law_alike T.F__law_alike.kp T.b__law_alike .nil pass0 (pa_cons (pe_ix ix_seq (pv 0) (pv 2) (fun _ _ => rfl)) (pa_cons (pe_ix ix_seq (pv 1) (pv 2) (fun _ _ => rfl)) pa_nil))))) (pss_one (ps_ret pe_bl)) pss_nil)))
      (pss_one (ps_ret pe_bl))))) pss_nil)
      (pss_cons (ps_if (pt_cmpR op_isN (pv 1) pe_non (nomark _)) (pss_one (ps_ret (pe_cmpR op_isN (pv 0) pe_non (nomark _)))) pss_nil)
      (pss_cons (ps_if (pt_val (pe_callB call_isi (by rfl) T.z_isinstance (by decide +kernel) (pa_cons (pv 1) (pa_cons (pe_bltn (v := .ty "bool") (by rfl) T.z_bool (by decide +kernel) rfl) pa_nil)))) (pss_one (ps_ret (pe_and (pe_callB call_isi (by rfl) T.z_isinstance (by decide +kernel) (pa_cons (pv 0) (pa_cons (pe_bltn (v := .ty "bool") (by rfl) T.z_bool (by decide +kernel) rfl) pa_nil))) (pe_one (pe_cmpR op_eq (pv 0) (pv 1) (nomark _)))))) pss_nil)
      (pss_cons (ps_if (pt_val (pe_callB call_isi (by rfl) T.z_isinstance (by decide +kernel) (pa_cons (pv 1) (pa_cons (pe_bltn (v := .ty "str") (by rfl) T.z_str (by decide +kernel) rfl) pa_nil)))) (pss_one (ps_ret (pe_and (pe_callB call_isi (by rfl) T.z_isinstance (by decide +kernel) (pa_cons (pv 0) (pa_cons (pe_bltn (v := .ty "str") (by rfl) T.z_str (by decide +kernel) rfl) pa_nil))) (pe_one (pe_cmpR op_eq (pv 0) (pv 1) (nomark _)))))) pss_nil)
      (pss_one (ps_ret (pe_and (pe_callB call_isi (by rfl) T.z_isinstance (by decide +kernel) (pa_cons (pv 0) (pa_cons (pe_bltn (v := .ty "int") (by rfl) T.z_int (by decide +kernel) rfl) pa_nil))) (pe_and (pe_not (pe_callB call_isi (by rfl) T.z_isinstance (by decide +kernel) (pa_cons (pv 0) (pa_cons (pe_bltn (v := .ty "bool") (by rfl) T.z_bool (by decide +kernel) rfl) pa_nil)))) (pe_one (pe_cmpR op_eq (pv 0) (pv 1) (nomark _))))))))))), ?_⟩
    walk_at "ss"
    intro t ht
    have s0 := same_new ht (HO.tup [V.ty "tuple", V.ty "list"])
    have q0 := q _ s0
    cases a with
    | int _ i =>
      refine ⟨_, _, _, _, _, _, rfl, upd_same, .cons (.ty _) (.cons (.ty _) .nil), .base (.int _), ty_tl _ "int" false false (by decide +kernel) (by decide +kernel), ?_⟩
      walk_at "sa"
      show Q (.bl (decide (V.int i = V.int i))) _
      rw [decide_eq_true rfl]
      exact q0
    | bl _ z =>
      refine ⟨_, _, _, _, _, _, rfl, upd_same, .cons (.ty _) (.cons (.ty _) .nil), .base (.bl _), ty_tl _ "bool" false false (by decide +kernel) (by decide +kernel), ?_⟩
      walk_at "sa"
      show Q (.bl (decide (V.bl z = V.bl z))) _
      rw [decide_eq_true rfl]
      exact q0
    | non _ =>
      refine ⟨_, _, _, _, _, _, rfl, upd_same, .cons (.ty _) (.cons (.ty _) .nil), .base .non, ty_tl _ "NoneType" false false (by decide +kernel) (by decide +kernel), ?_⟩
      walk_at "sa"
      exact q0
    | str _ z =>
      refine ⟨_, _, _, _, _, _, rfl, upd_same, .cons (.ty _) (.cons (.ty _) .nil), .base (.str _), ty_tl _ "str" false false (by decide +kernel) (by decide +kernel), ?_⟩
      walk_at "sa"
      show Q (.bl (decide (V.str z = V.str z))) _
      rw [decide_eq_true rfl]
      exact q0
    | @tup m p1 p2 xs ys h1 h2 hl hz hi =>
      have g1 := s0 _ _ h1
      have g2 := s0 _ _ h2
      refine ⟨_, _, _, _, _, _, rfl, upd_same, .cons (.ty _) (.cons (.ty _) .nil), .base (.tup g2), ty_tl _ "tuple" true false (by decide +kernel) (by decide +kernel), ?_⟩
      walk_at "sa"
      refine iteNS (by rw [hl]) ?_
      walk_at "sa"
      refine for_range (n := ys.length) (fun i σ H2 => ∃ v, σ = [some (.ref p1), some (.ref p2), v] ∧ Same H H2) ⟨_, rfl, s0⟩ ?_ ?_
      · rintro i σ H2 hin ⟨v, rfl, s2⟩
        have k1 := s2 _ _ h1
        have k2 := s2 _ _ h2
        have hin' : i < xs.length := by omega
        walk_at "ss"
        refine .inr (.inl ⟨_, _, _, _, rfl, rfl, SqT.of k1, atI0 (List.getElem?_eq_getElem hin'), ?_⟩)
        walk_at "ss"
        refine .inr (.inl ⟨_, _, _, _, rfl, rfl, SqT.of k2, atI0 (List.getElem?_eq_getElem hin), ?_⟩)
        refine ⟨_, _, rfl, (hi i _ _ (List.getElem?_eq_getElem hin') (List.getElem?_eq_getElem hin)).same s2, fun H3 s3 => ?_⟩
        exact ⟨_, rfl, _, rfl, s2.trans s3⟩
      · rintro σ H2 ⟨v, rfl, s2⟩
        exact q _ s2
    | @lst m p1 p2 xs ys h1 h2 hl hz hi =>
      have g1 := s0 _ _ h1
      have g2 := s0 _ _ h2
      refine ⟨_, _, _, _, _, _, rfl, upd_same, .cons (.ty _) (.cons (.ty _) .nil), .base (.lst g2), ty_tl _ "list" false true (by decide +kernel) (by decide +kernel), ?_⟩
      walk_at "sa"
      refine iteNS (by rw [hl]) ?_
      walk_at "sa"
      refine for_range (n := ys.length) (fun i σ H2 => ∃ v, σ = [some (.ref p1), some (.ref p2), v] ∧ Same H H2) ⟨_, rfl, s0⟩ ?_ ?_
      · rintro i σ H2 hin ⟨v, rfl, s2⟩
        have k1 := s2 _ _ h1
        have k2 := s2 _ _ h2
        have hin' : i < xs.length := by omega
        walk_at "ss"
        refine .inl ⟨_, _, _, _, rfl, rfl, SqL.of k1, atI0 (List.getElem?_eq_getElem hin'), ?_⟩
        walk_at "ss"
        refine .inl ⟨_, _, _, _, rfl, rfl, SqL.of k2, atI0 (List.getElem?_eq_getElem hin), ?_⟩
        refine ⟨_, _, rfl, (hi i _ _ (List.getElem?_eq_getElem hin') (List.getElem?_eq_getElem hin)).same s2, fun H3 s3 => ?_⟩
        exact ⟨_, rfl, _, rfl, s2.trans s3⟩
      · rintro σ H2 ⟨v, rfl, s2⟩
        exact q _ s2
/-! ### a box made of the script -/
def spBox (K : PySem.W.Frag) : Sp := fun vs H Q _ => ∃ (a : Addr) (ns : List Int) (i : Int), vs = [.ref a, .int i] ∧ SqL K H a (ns.map V.int) ∧ ns.length ≤ 63 ∧ 0 ≤ i ∧
  ∀ (b c : Addr) (H' : Hp), Same H H' → H b = none → H c = none → BoxAt H' b c → Q (.ref b) H'
theorem ok_box (T : Top K mg) : FnOk P w K mg base CX0 1 T.f__law_box T.d__law_box ["script", "at"] (spBox K) := by
  refine T.F__law_box.ok scLbox (fun vs H Q E h => ?_) (fun cdv A outer s H vs Q E hr h => ?_)
  · obtain ⟨_, _, _, rfl, _⟩ := h
    rfl
  obtain ⟨a, ns, i, rfl, hS, h63, h0, q⟩ := h
  refine ⟨_, (pss_one (ps_ret (pe_lst (pa_cons pe_int (pa_cons pe_int (pa_cons (pv 1) (pa_cons pe_int (pa_cons (pv 1) (pa_cons (pe_lc (own := [("cell", 2)]) (g := gName 2) (tt := tYes) rfl scLbox.nd (pi_list (pv 0)) (blkOk_by (own := [("cell", 2)]) (N := ["script", "at", "cell"]) (sc := defScope s_Lbox) (by decide +kernel)) (fun _ _ _ _ _ => (pg_name (i := 2) scLbox.nd rfl (Or.inl rfl))) (fun _ _ _ _ _ => pts_nil) (fun _ _ _ _ _ => (pe_callTy call_int1 (by rfl) T.z_int (by decide +kernel) (pa_cons (pv 2) pa_nil)))) pa_nil))))))))), ?_⟩
  walk_at "ss"
  refine ⟨⟨_, hS⟩, fun D hD => ?_⟩
  refine lc_list (K := K) (a := a) (xs := ns.map V.int) (fun i H2 => Same H H2 ∧ ∃ acc : List Int, acc.length = i ∧ H2 D = some (.lst (acc.map V.int))) ⟨same_new hD _, [], rfl, upd_same⟩ (fun i H2 _ g => g.1.seq hS) ?_ ?_
  · rintro i x H2 hi ⟨s2, acc, hacc, hd⟩
    have hil := (List.getElem?_eq_some_iff.mp hi).1
    rw [List.length_map] at hil
    obtain ⟨z, rfl⟩ : ∃ z, x = V.int z := by
      rw [List.getElem?_map] at hi
      cases e : ns[i]? with
      | none => rw [e] at hi; cases hi
      | some z => rw [e] at hi; exact ⟨z, (Option.some.inj hi).symm⟩
    refine ⟨rfl, ?_⟩
    walk_at "ss"
    refine ⟨_, hd, by rw [List.length_map]; exact small1000 (by omega), ?_⟩
    refine ⟨?_, acc ++ [z], by rw [List.length_append, hacc]; rfl, by rw [List.map_append]; exact upd_same⟩
    intro b o e
    rw [upd_ne (ne_of_none e hD)]
    exact s2 b o e
  · rintro H2 ⟨s2, acc, hacc, hd⟩
    walk_at "ss"
    intro p hp
    have npD : p ≠ D := (ne_of_none hd hp).symm
    refine q p D _ (fun b o e => ?_) (s2.free hp) hD (BoxAt.mk1 (by exact upd_same) (by rw [upd_ne npD.symm]; exact hd) h0 npD)
    rw [upd_ne (ne_of_none (s2 b o e) hp)]
    exact s2 b o e
end
/-! ### the mathematics: primes and inverses -/
def PL : List Nat := [3, 5, 7, 11, 13, 17, 19, 23, 29, 31, 37, 41, 43, 47, 53, 59, 61, 67, 71, 73, 79, 83, 89, 97, 101, 103, 107, 109, 113, 127]
/-- no divisor up to the root -/
def Pr (n : Nat) : Prop := 2 ≤ n ∧ ∀ d, 2 ≤ d → d * d ≤ n → n % d ≠ 0
theorem pl_range : ∀ q, q ∈ PL → 3 ≤ q ∧ q ≤ 127 := by decide +kernel
theorem pl_gcd0 : ∀ q, q ∈ PL → ∀ r, r < q → 0 < r → Nat.gcd q r = 1 := by decide +kernel
theorem pl_inv : ∀ q, q ∈ PL → ∀ r, r < q → 0 < r → ∃ b, b < q ∧ (r * b) % q = 1 := by decide +kernel
theorem pl_of00 : ∀ n, n < 128 → (3 ≤ n ∧ (List.range 12).all (fun d => !(decide (2 ≤ d ∧ d * d ≤ n ∧ n % d = 0))) = true) → n ∈ PL := by decide +kernel
theorem pl_of0 (n : Nat) (h1 : n < 128) (h2 : 3 ≤ n) (h : ∀ d, d < 12 → 2 ≤ d → d * d ≤ n → n % d ≠ 0) : n ∈ PL := by
  refine pl_of00 n h1 ⟨h2, List.all_eq_true.mpr fun d hd => ?_⟩
  have hd' := List.mem_range.mp hd
  rw [Bool.not_eq_true', decide_eq_false_iff_not]
  rintro ⟨a, b, c⟩
  exact h d hd' a b c
theorem pl_of {n : Nat} (h1 : 3 ≤ n) (h2 : n ≤ 127) (p : Pr n) : n ∈ PL := pl_of0 n (by omega) h1 fun d _ h3 h4 => p.2 d h3 h4
theorem pl_pr0 : ∀ q, q ∈ PL → ∀ d, d < 12 → 2 ≤ d → d * d ≤ q → q % d ≠ 0 := by decide +kernel
theorem sq_lt {d n m : Nat} (h : d * d ≤ n) (hm : n < m * m) : d < m := by
  refine Nat.lt_of_not_le fun c => ?_
  have := Nat.mul_le_mul c c
  omega
theorem pl_pr {q : Nat} (h : q ∈ PL) : Pr q := by
  have r := pl_range q h
  refine ⟨by omega, fun d h2 h3 => ?_⟩
  have hd : d < 12 := sq_lt h3 (by omega)
  exact pl_pr0 q h d hd h2 h3
theorem inv_uniq {q r b c : Nat} (hb : b < q) (hc : c < q) (h1 : (r * b) % q = 1) (h2 : (r * c) % q = 1) : b = c := by
  have e1 : (c * (r * b)) % q = c := by
    rw [Nat.mul_mod, h1, Nat.mul_one, Nat.mod_mod]
    exact Nat.mod_eq_of_lt hc
  have e2 : (b * (r * c)) % q = b := by
    rw [Nat.mul_mod, h2, Nat.mul_one, Nat.mod_mod]
    exact Nat.mod_eq_of_lt hb
  have e3 : c * (r * b) = b * (r * c) := by ac_rfl
  rw [e3, e2] at e1
  exact e1
/-- a product is no prime -/
theorem not_pr_mul {a b : Nat} (ha : 2 ≤ a) (hb : 2 ≤ b) : ¬ Pr (a * b) := by
  rintro ⟨_, h⟩
  rcases Nat.le_total a b with c | c
  · exact h a ha (Nat.mul_le_mul_left a c) (Nat.mul_mod_right a b)
  · exact h b hb (Nat.mul_le_mul_right b c) (Nat.mul_mod_left a b)
/-- trial by odd numbers -/
theorem trial_found {n k : Nat} (hn : n % 2 = 1) (h2 : 2 ≤ n) (hk : 1 ≤ k) (hd : n % (2 * k + 1) = 0) (hno : ∀ j, 1 ≤ j → j < k → n % (2 * j + 1) ≠ 0) : Pr n ↔ n = 2 * k + 1 := by
  constructor
  · rintro ⟨_, h⟩
    obtain ⟨c, hc⟩ : ∃ c, n = (2 * k + 1) * c := ⟨n / (2 * k + 1), (Nat.mul_div_cancel' (Nat.dvd_of_mod_eq_zero hd)).symm⟩
    by_cases c1 : c = 1
    · rw [hc, c1, Nat.mul_one]
    · exfalso
      have c0 : c ≠ 0 := by
        rintro rfl
        omega
      have c2 : 2 ≤ c := by omega
      rcases Nat.le_total (2 * k + 1) c with q | q
      · refine h (2 * k + 1) (by omega) ?_ hd
        rw [hc]
        exact Nat.mul_le_mul_left _ q
      · refine h c c2 ?_ ?_
        · rw [hc]
          exact Nat.mul_le_mul_right _ q
        · rw [hc]
          exact Nat.mul_mod_left _ _
  · intro e
    refine ⟨h2, fun d d2 dd z => ?_⟩
    have dn : d ≤ n := Nat.le_trans (Nat.le_mul_of_pos_left d (by omega)) dd
    have dodd : d % 2 = 1 := by
      have hdv := Nat.dvd_of_mod_eq_zero z
      rcases Nat.mod_two_eq_zero_or_one d with c | c
      · have : 2 ∣ n := Nat.dvd_trans (Nat.dvd_of_mod_eq_zero c) hdv
        omega
      · exact c
    obtain ⟨j, hj⟩ : ∃ j, d = 2 * j + 1 := ⟨d / 2, by omega⟩
    have dlt : d < n := by
      refine Nat.lt_of_le_of_ne dn fun c => ?_
      rw [c] at dd
      have : 2 * n ≤ n * n := Nat.mul_le_mul_right n h2
      omega
    rw [hj] at z
    exact hno j (by omega) (by omega) z
theorem trial_none {n : Nat} (hn : n % 2 = 1) (h2 : 2 ≤ n) (hm : n < 1001 * 1001) (hno : ∀ j, 1 ≤ j → j < 500 → n % (2 * j + 1) ≠ 0) : Pr n := by
  refine ⟨h2, fun d d2 dd z => ?_⟩
  have dodd : d % 2 = 1 := by
    have hdv := Nat.dvd_of_mod_eq_zero z
    rcases Nat.mod_two_eq_zero_or_one d with c | c
    · have : 2 ∣ n := Nat.dvd_trans (Nat.dvd_of_mod_eq_zero c) hdv
      omega
    · exact c
  have hd : d < 1001 := sq_lt dd hm
  obtain ⟨j, hj⟩ : ∃ j, d = 2 * j + 1 := ⟨d / 2, by omega⟩
  rw [hj] at z
  exact hno j (by omega) (by omega) z
theorem pr_even {n : Nat} (h : n % 2 = 0) : Pr n ↔ n = 2 := by
  constructor
  · rintro ⟨h2, p⟩
    by_cases c : n = 2
    · exact c
    · exact absurd h (p 2 (by omega) (by omega))
  · rintro rfl
    exact ⟨by omega, fun d d2 dd => by
      have : 2 * 2 ≤ d * d := Nat.mul_le_mul d2 d2
      omega⟩
/-- Euclid's steps with factors: what stands before each turn -/
structure Eg (q a : Int) (l s lf sf : Int) : Prop where
  s1 : 1 ≤ s
  ls : s < l
  lq : l ≤ q
  g : Int.gcd l s = 1
  hl : (lf * a - l) % q = 0
  hs : (sf * a - s) % q = 0
theorem eg_turn {q a l s lf sf : Int} (h : Eg q a l s lf sf) (hs1 : s ≠ 1) : Eg q a s (l - l / s * s) sf (lf - l / s * sf) := by
  have hs := h.s1
  have hsp : 0 < s := by omega
  have e : l - l / s * s = l % s := by
    have := Int.emod_def l s
    rw [Int.mul_comm s] at this
    omega
  have r0 := Int.emod_nonneg l (show s ≠ 0 by omega)
  have r1 := Int.emod_lt_of_pos l hsp
  have hg : Int.gcd s (l % s) = 1 := by
    have := h.g
    rw [Int.gcd_comm] at this
    rw [← this]
    have e3 : l % s = l - s * (l / s) := Int.emod_def l s
    rw [e3, Int.mul_comm s, Int.gcd_sub_mul_right_right]
  have rne : l % s ≠ 0 := by
    intro z
    rw [z, Int.gcd_zero_right] at hg
    omega
  refine ⟨by omega, by omega, by have := h.lq; have := h.ls; omega, by rw [e]; exact hg, h.hs, ?_⟩
  have e2 : (lf - l / s * sf) * a - (l - l / s * s) = (lf * a - l) - l / s * (sf * a - s) := by
    rw [Int.sub_mul, Int.mul_sub, Int.mul_assoc]
    omega
  rw [e2, Int.sub_emod, h.hl, Int.mul_emod, h.hs]
  simp
/-! ### the law's numbers -/
theorem BoxAt.ne_tup {H : Hp} {b c a : Addr} {xs : List V} (B : BoxAt H b c) (h : H a = some (.tup xs)) : a ≠ b := by
  obtain ⟨ne, cs, x0, x1, x2, x3, x4, h2, hb, hc⟩ := B
  exact ne_of h hb (by intro z; cases z)
theorem BoxAt.ne_lst {H : Hp} {b c a : Addr} {xs : List V} (B : BoxAt H b c) (h : H a = some (.lst xs)) (hl : xs.length ≠ 6) : a ≠ b := by
  obtain ⟨ne, cs, x0, x1, x2, x3, x4, h2, hb, hc⟩ := B
  refine ne_of h hb (fun z => ?_)
  cases z
  exact hl rfl
theorem BoxAt.ne_new {H : Hp} {b c p : Addr} (B : BoxAt H b c) (h : H p = none) : p ≠ b := by
  obtain ⟨o, ho⟩ := B.got
  exact (ne_of_none ho h).symm
theorem pow10_le {i : Nat} (h : i ≤ 50) : 10 ^ i ≤ 100000000000000000000000000000000000000000000000000 := Nat.le_trans (Nat.pow_le_pow_right (by decide) h) (by decide +kernel)
def spGreat : Sp := fun vs H Q _ => ∃ (b c : Addr), vs = [.ref b] ∧ BoxAt H b c ∧
  ∀ (n : Int) (H' : Hp), -100000000000000000000000000000000000000000000000000 < n → n < 100000000000000000000000000000000000000000000000000 → BoxAt H' b c → Keep b H H' → Q (.int n) H'
section
variable {P : Program} {w : World} {K : PySem.W.Frag} {mg : Str → Option Value} {base : Heap}
theorem ok_great (T : Top K mg) : FnOk P w K mg base CX0 3 T.f__law_great T.d__law_great ["box"] spGreat := by
  have G__law_draw := ok_draw (P := P) (w := w) (base := base) T
  refine T.F__law_great.ok scLgreat (fun vs H Q E h => ?_) (fun cdv A outer s H vs Q E hr h => ?_)
  · obtain ⟨_, _, rfl, _⟩ := h
    rfl
  obtain ⟨b, c, rfl, B, q⟩ := h
  refine ⟨_, (pss_cons (ps_set (i := 1) scLgreat.nd rfl (Or.inl rfl) (pe_ix ix_list (pe_lst (pa_cons pe_int (pa_cons pe_int (pa_cons pe_int (pa_cons pe_int pa_nil))))) (pe_call G__law_draw (hr.mono (by decide)) rfl T.m__law_draw T.F__law_draw.kp T.b__law_draw .nil pass0 (pa_cons (pv 0) (pa_cons pe_int pa_nil))) (fun _ _ => rfl)))
      (pss_cons (ps_set (i := 2) scLgreat.nd rfl (Or.inl rfl) pe_int)
      (pss_cons (ps_for PassesOwn.never rfl (pi_range1 (by rfl) T.z_range (pa_cons (pv 1) pa_nil)) (pg_name (i := 3) scLgreat.nd rfl (Or.inl rfl)) (pss_one (ps_set (i := 2) scLgreat.nd rfl (Or.inl rfl) (pe_op op_add (pe_op op_mul (pv 2) pe_int) (pe_call G__law_draw (hr.mono (by decide)) rfl T.m__law_draw T.F__law_draw.kp T.b__law_draw .nil pass0 (pa_cons (pv 0) (pa_cons pe_int pa_nil)))))))
      (pss_one (ps_ret (pe_ix ix_list (pe_lst (pa_cons (pv 2) (pa_cons (pe_op op_sub pe_int (pv 2)) pa_nil))) (pe_call G__law_draw (hr.mono (by decide)) rfl T.m__law_draw T.F__law_draw.kp T.b__law_draw .nil pass0 (pa_cons (pv 0) (pa_cons pe_int pa_nil))) (fun _ _ => rfl))))))), ?_⟩
  walk_at "ss"
  intro p hp
  have pb := B.ne_new hp
  walk_at "ss"
  refine ⟨b, c, _, rfl, B.same (same_new hp _), by decide, by decide, fun r H1 h0 h1 B1 k1 => ?_⟩
  obtain ⟨v, hv, hv0, hv1⟩ : ∃ v : Int, atI [V.int 1, V.int 3, V.int 20, V.int 50] r = some (.int v) ∧ 0 ≤ v ∧ v ≤ 50 := by
    have : r = 0 ∨ r = 1 ∨ r = 2 ∨ r = 3 := by omega
    rcases this with rfl | rfl | rfl | rfl <;> exact ⟨_, rfl, by decide, by decide⟩
  refine ⟨_, _, _, _, rfl, rfl, SqL.of (k1 _ _ upd_same pb), hv, ?_⟩
  walk_at "ss"
  have kH1 : Keep b H H1 := (Keep.of (same_new hp _)).trans k1
  refine for_range (n := v.toNat) (fun i σ H2 => ∃ (m : Nat) (z : Option V), σ = [some (.ref b), some (.int v), some (.int m), z] ∧ m < 10 ^ i ∧ BoxAt H2 b c ∧ Keep b H H2) ⟨0, _, rfl, by decide, B1, kH1⟩ ?_ ?_
  · rintro i σ H2 hi ⟨m, z, rfl, hm, B2, k2⟩
    walk_at "ss"
    refine ⟨b, c, _, rfl, B2, by decide, by decide, fun r H3 g0 g1 B3 k3 => ?_⟩
    walk_at "ss"
    refine ⟨m * 10 + r.toNat, some (.int (0 + (i : Int))), ?_, ?_, B3, k2.trans k3⟩
    · have e : (m : Int) * 10 + r = ((m * 10 + r.toNat : Nat) : Int) := by omega
      show List.set _ 2 (some (V.int ((m : Int) * 10 + r))) = _
      rw [e]
      rfl
    · rw [Nat.pow_succ]
      omega
  · rintro σ H2 ⟨m, z, rfl, hm, B2, k2⟩
    have hm2 := pow10_le (i := v.toNat) (by omega)
    walk_at "ss"
    intro p2 hp2
    have pb2 := B2.ne_new hp2
    walk_at "ss"
    refine ⟨b, c, _, rfl, B2.same (same_new hp2 _), by decide, by decide, fun r H3 g0 g1 B3 k3 => ?_⟩
    obtain ⟨u, hu, hu0, hu1⟩ : ∃ u : Int, atI [V.int (m : Int), V.int (0 - (m : Int))] r = some (.int u) ∧ -100000000000000000000000000000000000000000000000000 < u ∧ u < 100000000000000000000000000000000000000000000000000 := by
      have : r = 0 ∨ r = 1 := by omega
      rcases this with rfl | rfl
      · exact ⟨_, rfl, by omega, by omega⟩
      · exact ⟨_, rfl, by omega, by omega⟩
    refine ⟨_, _, _, _, rfl, rfl, SqL.of (k3 _ _ upd_same pb2), hu, ?_⟩
    exact q u H3 hu0 hu1 B3 (k2.trans ((Keep.of (same_new hp2 _)).trans k3))
end
section
variable {P : Program} {w : World} {K : PySem.W.Frag} {mg : Str → Option Value} {base : Heap}
/-- b tells whether n is a prime -/
def Tells (b : Bool) (n : Int) : Prop := b = true ↔ (2 ≤ n ∧ Pr n.toNat)
theorem Tells.uniq {a b : Bool} {n : Int} (h : Tells a n) (k : Tells b n) : a = b := by
  unfold Tells at h k
  cases a <;> cases b <;> simp_all
def spPrime (m : Int) : Sp := fun vs H Q _ => ∃ n : Int, vs = [.int n] ∧ n < m ∧ ∀ b, Tells b n → Q (.bl b) H
theorem fmod_eq {x m : Int} (h : 0 < m) : x.fmod m = x % m := Int.fmod_eq_emod_of_nonneg _ (by omega)
theorem ok_is_prime (T : Top K mg) : FnOk P w K mg base CX0 1 T.f_is_prime T.d_is_prime ["n"] (spPrime 4294967296) := by
  refine T.F_is_prime.ok scis_prime (fun vs H Q E h => ?_) (fun cdv A outer s H vs Q E hr h => ?_)
  · obtain ⟨_, rfl, _⟩ := h
    rfl
  obtain ⟨n, rfl, hm, q⟩ := h
  refine ⟨_, (pss_cons (ps_if (pt_cmpR op_lt (pv 0) pe_int (nomark _)) (pss_one (ps_ret pe_bl)) pss_nil)
      (pss_cons (ps_set (i := 1) scis_prime.nd rfl (Or.inl rfl) pe_int)
      (pss_cons (ps_while PassesOwn.never (pt_cmpR op_le (pe_op op_mul (pv 1) (pv 1)) (pv 0) (nomark _)) (pss_cons (ps_if (pt_cmpR op_eq (pe_op op_modN (pv 0) (pv 1)) pe_int (nomark _)) (pss_one (ps_ret pe_bl)) pss_nil)
      (pss_one (ps_aug (i := 1) scis_prime.nd rfl (.inl rfl) pe_int ip_add))))
      (pss_one (ps_ret pe_bl))))), ?_⟩
  walk_at "ss"
  refine ite2 (fun c => ?_) (fun c => ?_)
  · have c' := of_decide_eq_true c
    exact q false ⟨fun h => (by cases h), fun h => by omega⟩
  · have c' : ¬ n < 2 := fun h => c (decide_eq_true h)
    walk_at "ss"
    refine while_by (fun σ H2 => ∃ d : Int, σ = [some (.int n), some (.int d)] ∧ H2 = H ∧ 2 ≤ d ∧ d ≤ n + 1 ∧ ∀ e : Nat, 2 ≤ e → (e : Int) < d → e * e ≤ n.toNat → n.toNat % e ≠ 0)
      (fun σ _ => match σ with | [_, some (.int d)] => (n + 2 - d).toNat | _ => 0) ⟨2, rfl, rfl, by omega, by omega, fun e h1 h2 => by omega⟩ ?_ ?_
    · rintro σ H2 ⟨d, rfl, rfl, h1, h2, h3⟩
      walk_at "ss"
      refine ite2 (fun c2 => ?_) (fun c2 => ?_)
      · have c3 := of_decide_eq_true c2
        have dn : d ≤ n := Int.le_trans (by have := Int.mul_le_mul_of_nonneg_left (show (1 : Int) ≤ d by omega) (show (0 : Int) ≤ d by omega); omega) c3
        walk_at "ss"
        refine ite2 (fun c4 => ?_) (fun c4 => ?_)
        · have c5 : n.fmod d = 0 := by
            have := of_decide_eq_true c4
            injection this
          rw [fmod_eq (by omega)] at c5
          refine q false ⟨fun h => (by cases h), fun h => ?_⟩
          exfalso
          refine h.2.2 d.toNat (by omega) ?_ ?_
          · have : ((d.toNat * d.toNat : Nat) : Int) ≤ ((n.toNat : Nat) : Int) := by
              rw [Int.natCast_mul, Int.toNat_of_nonneg (by omega), Int.toNat_of_nonneg (by omega)]
              exact c3
            omega
          · have : ((n.toNat % d.toNat : Nat) : Int) = 0 := by
              rw [Int.natCast_emod, Int.toNat_of_nonneg (by omega), Int.toNat_of_nonneg (by omega)]
              exact c5
            omega
        · have c5 : n % d ≠ 0 := by
            intro z
            apply c4
            show decide (V.int (n.fmod d) = V.int 0) = true
            rw [fmod_eq (by omega), z]
            rfl
          walk_at "ss"
          refine ⟨⟨d + 1, rfl, rfl, by omega, by omega, fun e e1 e2 e3 => ?_⟩, ?_⟩
          · by_cases ed : (e : Int) = d
            · intro z
              apply c5
              have : ((n.toNat % e : Nat) : Int) = 0 := by rw [z]; rfl
              rw [Int.natCast_emod, Int.toNat_of_nonneg (by omega), ed] at this
              exact this
            · exact h3 e e1 (by omega) e3
          · show (n + 2 - (d + 1)).toNat < (n + 2 - d).toNat
            omega
      · have c3 : ¬ d * d ≤ n := fun h => c2 (decide_eq_true h)
        refine q true ⟨fun _ => ⟨by omega, by omega, fun e e1 e2 => ?_⟩, fun _ => rfl⟩
        refine h3 e e1 ?_ e2
        refine Int.lt_of_not_ge fun c4 => c3 ?_
        have e4 : ((e * e : Nat) : Int) ≤ n := by omega
        rw [Int.natCast_mul] at e4
        exact Int.le_trans (Int.mul_le_mul c4 c4 (by omega) (by omega)) e4
    · rintro σ H2 Q1 Q2 hm h
      obtain ⟨v, hv, v2, hv2, i, j, e1, e2, hc, u, hu, i2, j2, e3, e4, k, e5, q⟩ := h
      exact ⟨v, hv, v2, hv2, i, j, e1, e2, hc, u, hu, i2, j2, e3, e4, k, e5, hm _ _ q⟩
theorem ok_lis (T : Top K mg) : FnOk P w K mg base CX0 1 T.f__law_is_prime T.d__law_is_prime ["n"] (spPrime 1600) := by
  refine T.F__law_is_prime.ok scLis_prime (fun vs H Q E h => ?_) (fun cdv A outer s H vs Q E hr h => ?_)
  · obtain ⟨_, rfl, _⟩ := h
    rfl
  obtain ⟨n, rfl, hm, q⟩ := h
  refine ⟨_, (pss_cons (ps_if (pt_cmpR op_lt (pv 0) pe_int (nomark _)) (pss_one (ps_ret pe_bl)) pss_nil)
      (pss_cons (ps_for PassesOwn.never rfl (pi_range2 (by rfl) T.z_range (pa_cons pe_int (pa_cons pe_int pa_nil))) (pg_name (i := 1) scLis_prime.nd rfl (Or.inl rfl)) (pss_cons (ps_if (pt_cmpR op_gt (pe_op op_mul (pv 1) (pv 1)) (pv 0) (nomark _)) (pss_one (ps_ret pe_bl)) pss_nil)
      (pss_one (ps_if (pt_cmpR op_eq (pe_op op_modN (pe_callTy call_int1 (by rfl) T.z_int (by decide +kernel) (pa_cons (pv 0) pa_nil)) (pv 1)) pe_int (nomark _)) (pss_one (ps_ret pe_bl)) pss_nil))))
      (pss_one (ps_ret pe_bl)))), ?_⟩
  walk_at "ss"
  refine ite2 (fun c => ?_) (fun c => ?_)
  · have c' := of_decide_eq_true c
    exact q false ⟨fun h => (by cases h), fun h => by omega⟩
  · have c' : ¬ n < 2 := fun h => c (decide_eq_true h)
    walk_at "ss"
    refine ⟨_, _, rfl, ⟨by decide, by decide, by decide, by decide⟩, ?_⟩
    refine for_range (n := 38) (fun i σ H2 => ∃ v, σ = [some (.int n), v] ∧ H2 = H ∧ ∀ e : Nat, 2 ≤ e → e < 2 + i → e * e ≤ n.toNat → n.toNat % e ≠ 0) ⟨none, rfl, rfl, fun e h1 h2 => by omega⟩ ?_ ?_
    · rintro i σ H2 hi ⟨v, rfl, rfl, h3⟩
      walk_at "ss"
      have ek : (2 : Int) + (i : Int) = ((2 + i : Nat) : Int) := by omega
      refine ite2 (fun c2 => ?_) (fun c2 => ?_)
      · have c3 := of_decide_eq_true c2
        refine q true ⟨fun _ => ⟨by omega, by omega, fun e e1 e2 => ?_⟩, fun _ => rfl⟩
        refine h3 e e1 ?_ e2
        refine sq_lt e2 ?_
        have c4 : n < ((2 + i : Nat) : Int) * ((2 + i : Nat) : Int) := by rw [← ek]; exact c3
        rw [← Int.natCast_mul] at c4
        omega
      · have c3 : ¬ n < (2 + (i : Int)) * (2 + (i : Int)) := fun h => c2 (decide_eq_true h)
        walk_at "ss"
        refine ite2 (fun c4 => ?_) (fun c4 => ?_)
        · have c5 : n.fmod (2 + (i : Int)) = 0 := by
            have := of_decide_eq_true c4
            injection this
          rw [fmod_eq (by omega), ek] at c5
          rw [ek, ← Int.natCast_mul] at c3
          refine q false ⟨fun h => (by cases h), fun h => ?_⟩
          exfalso
          refine h.2.2 (2 + i) (by omega) (by omega) ?_
          have : ((n.toNat % (2 + i) : Nat) : Int) = 0 := by
            rw [Int.natCast_emod, Int.toNat_of_nonneg (by omega)]
            exact c5
          omega
        · have c5 : n % ((2 + i : Nat) : Int) ≠ 0 := by
            intro z
            apply c4
            show decide (V.int (n.fmod (2 + (i : Int))) = V.int 0) = true
            rw [fmod_eq (by omega), ek, z]
            rfl
          refine ⟨_, rfl, rfl, fun e e1 e2 e3 => ?_⟩
          by_cases ed : e = 2 + i
          · intro z
            apply c5
            have : ((n.toNat % e : Nat) : Int) = 0 := by rw [z]; rfl
            rw [Int.natCast_emod, Int.toNat_of_nonneg (by omega), ed] at this
            exact this
          · exact h3 e e1 (by omega) e3
    · rintro σ H2 ⟨v, rfl, rfl, h3⟩
      refine q true ⟨fun _ => ⟨by omega, by omega, fun e e1 e2 => ?_⟩, fun _ => rfl⟩
      exact h3 e e1 (sq_lt (m := 40) e2 (by omega)) e2
def spGetPrime : Sp := fun vs H Q _ => ∃ (b c : Addr), vs = [.ref b, .int 3, .int 127] ∧ BoxAt H b c ∧ ∀ (q : Nat) (H' : Hp), q ∈ PL → BoxAt H' b c → Keep b H H' → Q (.int q) H'
theorem ok_lprime (T : Top K mg) : FnOk P w K mg base CX0 3 T.f__law_prime T.d__law_prime ["box", "low", "high"] spGetPrime := by
  have G__law_draw := ok_draw (P := P) (w := w) (base := base) T
  have G__law_is_prime := ok_lis (P := P) (w := w) (base := base) T
  refine T.F__law_prime.ok scLprime (fun vs H Q E h => ?_) (fun cdv A outer s H vs Q E hr h => ?_)
  · obtain ⟨_, _, rfl, _⟩ := h
    rfl
  obtain ⟨b, c, rfl, B, q⟩ := h
  refine ⟨_, (pss_cons (ps_set (i := 3) scLprime.nd rfl (Or.inl rfl) (pe_call G__law_draw (hr.mono (by decide)) rfl T.m__law_draw T.F__law_draw.kp T.b__law_draw .nil pass0 (pa_cons (pv 0) (pa_cons (pe_op op_add (pe_op op_sub (pv 2) (pv 1)) pe_int) pa_nil))))
      (pss_cons (ps_for PassesOwn.never rfl (pi_range1 (by rfl) T.z_range (pa_cons (pe_op op_add (pe_op op_sub (pv 2) (pv 1)) pe_int) pa_nil)) (pg_name (i := 4) scLprime.nd rfl (Or.inl rfl)) (pss_cons (ps_set (i := 5) scLprime.nd rfl (Or.inl rfl) (pe_op op_add (pv 1) (pe_op op_modN (pe_callTy call_int1 (by rfl) T.z_int (by decide +kernel) (pa_cons (pe_op op_add (pv 3) (pv 4)) pa_nil)) (pe_op op_add (pe_op op_sub (pv 2) (pv 1)) pe_int))))
      (pss_one (ps_if (pt_val (pe_call G__law_is_prime (hr.mono (by decide)) rfl T.m__law_is_prime T.F__law_is_prime.kp T.b__law_is_prime .nil pass0 (pa_cons (pv 5) pa_nil))) (pss_one (ps_ret (pv 5))) pss_nil))))
      (pss_one (ps_ret pe_int)))), ?_⟩
  walk_at "ss"
  refine ⟨b, c, _, rfl, B, by decide, by decide, fun r H1 h0 h1 B1 k1 => ?_⟩
  walk_at "ss"
  refine for_range (n := 125) (fun i σ H2 => ∃ v u, σ = [some (.ref b), some (.int 3), some (.int 127), some (.int r), v, u] ∧ H2 = H1) ⟨_, _, rfl, rfl⟩ ?_ ?_
  · rintro i σ H2 hi ⟨v, u, rfl, rfl⟩
    walk_at "ss"
    have e1 := fm (x := r + (0 + (i : Int))) (m := 127 - 3 + 1) (by decide)
    refine ⟨by omega, fun t ht => ?_⟩
    walk_at "ss"
    refine ite2 (fun c => ?_) (fun c => ?_)
    · walk_at "ss"
      have p := ht.mp c
      have e2 : (3 : Int) + (r + (0 + (i : Int))).fmod (127 - 3 + 1) = (((3 : Int) + (r + (0 + (i : Int))).fmod (127 - 3 + 1)).toNat : Int) := by omega
      have g := q _ H2 (pl_of (by omega) (by omega) p.2) B1 k1
      rw [← e2] at g
      exact g
    · exact ⟨_, _, rfl, rfl⟩
  · rintro σ H2 ⟨v, u, rfl, rfl⟩
    exact q 3 H2 (by decide) B1 k1
def spTrial : Sp := fun vs H Q _ => ∃ n : Int, vs = [.int n] ∧ 0 ≤ n ∧ n ≤ 1000000 ∧ ∀ b, Tells b n → Q (.bl b) H
theorem ok_trial (T : Top K mg) : FnOk P w K mg base CX0 1 T.f__law_by_trial T.d__law_by_trial ["n"] spTrial := by
  refine T.F__law_by_trial.ok scLby_trial (fun vs H Q E h => ?_) (fun cdv A outer s H vs Q E hr h => ?_)
  · obtain ⟨_, rfl, _⟩ := h
    rfl
  obtain ⟨n, rfl, hn, hm, q⟩ := h
  refine ⟨_, (pss_cons (ps_if (PW.pt (pw_or (pt_cmpR op_lt (pv 0) pe_int (nomark _)) (pw_or1 (pt_cmpR op_eq (pe_op op_modN (pe_callTy call_int1 (by rfl) T.z_int (by decide +kernel) (pa_cons (pv 0) pa_nil)) pe_int) pe_int (nomark _))))) (pss_one (ps_ret (pe_cmpR op_eq (pv 0) pe_int (nomark _)))) pss_nil)
      (pss_cons (ps_for PassesOwn.never rfl (pi_range2 (by rfl) T.z_range (pa_cons pe_int (pa_cons pe_int pa_nil))) (pg_name (i := 1) scLby_trial.nd rfl (Or.inl rfl)) (pss_one (ps_if (pt_cmpR op_eq (pe_op op_modN (pe_callTy call_int1 (by rfl) T.z_int (by decide +kernel) (pa_cons (pv 0) pa_nil)) (pe_op op_add (pe_op op_mul pe_int (pv 1)) pe_int)) pe_int (nomark _)) (pss_one (ps_ret (pe_cmpR op_eq (pv 0) (pe_op op_add (pe_op op_mul pe_int (pv 1)) pe_int) (nomark _)))) pss_nil)))
      (pss_one (ps_ret pe_bl)))), ?_⟩
  have n2 : ((n.toNat % 2 : Nat) : Int) = n % 2 := by omega
  walk_at "ss"
  have small : n < 2 ∨ n % 2 = 0 → Tells (decide (V.int n = V.int 2)) n := fun h => by
    constructor
    · intro z
      have := of_decide_eq_true z
      injection this with e
      subst e
      exact ⟨by decide, pr_even (n := 2) rfl |>.mpr rfl⟩
    · rintro ⟨z1, z2⟩
      have e : n.toNat = 2 := (pr_even (by omega)).mp z2
      have : n = 2 := by omega
      subst this
      rfl
  refine ite2 (fun c => ?_) (fun c => ?_)
  · have c' := of_decide_eq_true c
    walk_at "ss"
    exact q _ (small (.inl c'))
  · have c' : ¬ n < 2 := fun h => c (decide_eq_true h)
    walk_at "ss"
    refine ite2 (fun c2 => ?_) (fun c2 => ?_)
    · have c3 : n.fmod 2 = 0 := by
        have := of_decide_eq_true c2
        injection this
      rw [fmod_eq (by decide)] at c3
      walk_at "ss"
      exact q _ (small (.inr c3))
    · have c3 : n % 2 ≠ 0 := by
        intro z
        apply c2
        show decide (V.int (n.fmod 2) = V.int 0) = true
        rw [fmod_eq (by decide), z]
        rfl
      walk_at "ss"
      refine ⟨_, _, rfl, ⟨by decide, by decide, by decide, by decide⟩, ?_⟩
      refine for_range (n := 499) (fun i σ H2 => ∃ v, σ = [some (.int n), v] ∧ H2 = H ∧ ∀ j : Nat, 1 ≤ j → j < 1 + i → n.toNat % (2 * j + 1) ≠ 0) ⟨none, rfl, rfl, fun e h1 h2 => by omega⟩ ?_ ?_
      · rintro i σ H2 hi ⟨v, rfl, rfl, h3⟩
        have ek : 2 * ((1 : Int) + (i : Int)) + 1 = ((2 * (1 + i) + 1 : Nat) : Int) := by omega
        walk_at "ss"
        refine ite2 (fun c4 => ?_) (fun c4 => ?_)
        · have c5 : n.fmod (2 * (1 + (i : Int)) + 1) = 0 := by
            have := of_decide_eq_true c4
            injection this
          rw [fmod_eq (by omega), ek] at c5
          have c6 : n.toNat % (2 * (1 + i) + 1) = 0 := by
            have : ((n.toNat % (2 * (1 + i) + 1) : Nat) : Int) = 0 := by
              rw [Int.natCast_emod, Int.toNat_of_nonneg hn]
              exact c5
            omega
          have tf := trial_found (n := n.toNat) (k := 1 + i) (by omega) (by omega) (by omega) c6 h3
          walk_at "ss"
          refine q _ ⟨fun z => ?_, fun z => ?_⟩
          · have := of_decide_eq_true z
            injection this with e
            exact ⟨by omega, tf.mpr (by omega)⟩
          · have e := tf.mp z.2
            have : n = 2 * (1 + (i : Int)) + 1 := by omega
            exact decide_eq_true (congrArg V.int this)
        · have c5 : n % ((2 * (1 + i) + 1 : Nat) : Int) ≠ 0 := by
            intro z
            apply c4
            show decide (V.int (n.fmod (2 * (1 + (i : Int)) + 1)) = V.int 0) = true
            rw [fmod_eq (by omega), ek, z]
            rfl
          refine ⟨_, rfl, rfl, fun e e1 e2 => ?_⟩
          by_cases ed : e = 1 + i
          · intro z
            apply c5
            have : ((n.toNat % (2 * e + 1) : Nat) : Int) = 0 := by rw [z]; rfl
            rw [Int.natCast_emod, Int.toNat_of_nonneg hn, ed] at this
            exact this
          · exact h3 e e1 (by omega)
      · rintro σ H2 ⟨v, rfl, rfl, h3⟩
        exact q true ⟨fun _ => ⟨by omega, trial_none (by omega) (by omega) (by omega) h3⟩, fun _ => rfl⟩
end
section
variable {P : Program} {w : World} {K : PySem.W.Frag} {mg : Str → Option Value} {base : Heap}
/-- b is the inverse of a -/
def IsInv (q : Nat) (a : Int) (b : Nat) : Prop := b < q ∧ ((a % (q : Int)).toNat * b) % q = 1
theorem IsInv.uniq {q : Nat} {a : Int} {b c : Nat} (h : IsInv q a b) (k : IsInv q a c) : b = c := inv_uniq h.1 k.1 h.2 k.2
theorem two_int {a b : Int} (h : a = b) : [V.int a, V.int b] = [V.int a, V.int a] := by rw [h]
theorem IsInv.mul {q : Nat} {a : Int} {b : Nat} (h : IsInv q a b) : a * (b : Int) % (q : Int) = 1 := by
  have q0 : 0 < q := by have := h.1; omega
  have a0 := Int.emod_nonneg a (show (q : Int) ≠ 0 by omega)
  have e : (((a % (q : Int)).toNat * b % q : Nat) : Int) = 1 := by rw [h.2]; rfl
  rw [Int.natCast_emod, Int.natCast_mul, Int.toNat_of_nonneg a0] at e
  rw [Int.mul_emod, Int.emod_emod_of_dvd _ (Int.dvd_refl _), ← Int.mul_emod] at e
  exact e
theorem IsInv.nz {q : Nat} {a : Int} {b : Nat} (h : IsInv q a b) (hq : q ∈ PL) (z : (b : Int) % (q : Int) = 0) : False := by
  have r := pl_range q hq
  have e : ((b % q : Nat) : Int) = 0 := by rw [Int.natCast_emod]; exact z
  have e2 : b % q = 0 := by omega
  have h2 := h.2
  rw [Nat.mul_mod, e2, Nat.mul_zero, Nat.zero_mod] at h2
  omega
theorem IsInv.symm {q : Nat} {a : Int} {b : Nat} (h : IsInv q a b) (hq : q ∈ PL) : IsInv q (b : Int) (a % (q : Int)).toNat := by
  have r := pl_range q hq
  have a1 := Int.emod_lt_of_pos a (show 0 < (q : Int) by omega)
  have a0 := Int.emod_nonneg a (show (q : Int) ≠ 0 by omega)
  refine ⟨by omega, ?_⟩
  have e : ((b : Int) % (q : Int)).toNat = b := by
    rw [← Int.natCast_emod, Int.toNat_natCast, Nat.mod_eq_of_lt h.1]
  rw [e, Nat.mul_comm]
  exact h.2
/-- inverse hands back the inverse, or raises NoInverse -/
def spInverse (C : Addr) : Sp := fun vs H Q E => ∃ (a : Int) (q : Nat), vs = [.int a, .int q] ∧ q ∈ PL ∧ (a % (q : Int) ≠ 0 → ∀ (b : Nat) (H' : Hp), IsInv q a b → Same H H' → Q (.int b) H') ∧ (a % (q : Int) = 0 → E (.ref C) none H)
theorem to_inv {q : Nat} {a x : Int} (hq : q ∈ PL) (h : (x * a - 1) % (q : Int) = 0) : IsInv q a (x % (q : Int)).toNat := by
  have r := pl_range q hq
  have hx0 := Int.emod_nonneg x (show (q : Int) ≠ 0 by omega)
  have hx1 := Int.emod_lt_of_pos x (show 0 < (q : Int) by omega)
  have ha0 := Int.emod_nonneg a (show (q : Int) ≠ 0 by omega)
  refine ⟨by omega, ?_⟩
  have e : (((a % (q : Int)).toNat * (x % (q : Int)).toNat % q : Nat) : Int) = 1 := by
    rw [Int.natCast_emod, Int.natCast_mul, Int.toNat_of_nonneg ha0, Int.toNat_of_nonneg hx0, ← Int.mul_emod, Int.mul_comm]
    have h2 : x * a % (q : Int) = ((x * a - 1) + 1) % (q : Int) := by
      congr 1
      omega
    rw [h2, Int.add_emod, h, Int.zero_add, Int.emod_emod_of_dvd _ (Int.dvd_refl _)]
    exact Int.emod_eq_of_lt (by decide) (by omega)
  omega
theorem eg_start {q : Nat} {a : Int} (hq : q ∈ PL) (h : a % (q : Int) ≠ 0) : Eg q a q (a % q) 0 1 := by
  have r := pl_range q hq
  have h0 := Int.emod_nonneg a (show (q : Int) ≠ 0 by omega)
  have h1 := Int.emod_lt_of_pos a (show 0 < (q : Int) by omega)
  refine ⟨by omega, h1, Int.le_refl _, ?_, ?_, ?_⟩
  · have := pl_gcd0 q hq (a % (q : Int)).toNat (by omega) (by omega)
    have e : (a % (q : Int)) = (((a % (q : Int)).toNat : Nat) : Int) := by omega
    rw [e, Int.gcd_natCast_natCast]
    exact this
  · rw [Int.zero_mul, Int.zero_sub, Int.neg_emod_self]
  · rw [Int.one_mul, Int.sub_emod, Int.emod_emod_of_dvd _ (Int.dvd_refl _), Int.sub_self]
    rfl
theorem ok_inverse (T : Top K mg) : FnOk P w K mg base (L2.CX P w) 1 T.f_inverse T.d_inverse ["a", "q"] (spInverse T.c_NoInverse) := by
  refine T.F_inverse.okX scinverse (fun vs H Q E h => ?_) (fun cdv A outer s H vs Q E hr h => ?_)
  · obtain ⟨_, _, rfl, _⟩ := h
    rfl
  obtain ⟨a, q, rfl, hq, h1, h2⟩ := h
  have r := pl_range q hq
  have fe : a.fmod (q : Int) = a % (q : Int) := Int.fmod_eq_emod_of_nonneg _ (by omega)
  refine ⟨_, (pss_cons (ps_par (i := 2) (j := 3) (by rfl) scinverse.nd rfl rfl (by decide) rfl rfl (pa_cons (pv 1) (pa_cons (pe_op op_modN (pv 0) (pv 1)) pa_nil)) (by rfl))
      (pss_cons (ps_if (pt_cmpR op_eq (pv 3) pe_int (nomark _)) (pss_one (ps_raise rfl (takes_of rfl rfl rfl rfl) (pmk_own0 PySem.F.excBase_ValueError T.x_NoInverse T.m_NoInverse T.kc_NoInverse (raises_own T.s_NoInverse T.t_NoInverse) rfl))) pss_nil)
      (pss_cons (ps_asg (pe_tup (pa_cons pe_int (pa_cons pe_int pa_nil))) (pg_tup (by rfl) (pgs_cons (pg_name (i := 4) scinverse.nd rfl (Or.inl rfl)) (pgs_cons (pg_name (i := 5) scinverse.nd rfl (Or.inl rfl)) pgs_nil))))
      (pss_cons (ps_while (passes_of rfl) (pt_cmpR op_ne (pv 3) pe_int (nomark _)) (pss_cons (ps_set (i := 6) scinverse.nd rfl (Or.inl rfl) (pe_op op_fdivN (pv 2) (pv 3)))
      (pss_cons (ps_par (i := 2) (j := 3) (by rfl) scinverse.nd rfl rfl (by decide) rfl rfl (pa_cons (pv 3) (pa_cons (pe_op op_sub (pv 2) (pe_op op_mul (pv 6) (pv 3))) pa_nil)) (by rfl))
      (pss_one (ps_par (i := 4) (j := 5) (by rfl) scinverse.nd rfl rfl (by decide) rfl rfl (pa_cons (pv 5) (pa_cons (pe_op op_sub (pv 4) (pe_op op_mul (pv 6) (pv 5))) pa_nil)) (by rfl))))))
      (pss_one (ps_ret (pe_op op_modN (pv 5) (pv 1)))))))), ?_⟩
  walk_at "ss"
  refine ⟨_, _, rfl, ?_⟩
  walk_at "ss"
  refine ite2 (fun c => ?_) (fun c => ?_)
  · have c' : a.fmod (q : Int) = 0 := by
      have := of_decide_eq_true c
      injection this
    rw [fe] at c'
    exact h2 c'
  · have c' : a % (q : Int) ≠ 0 := by
      intro z
      apply c
      show decide (V.int (a.fmod (q : Int)) = V.int 0) = true
      rw [fe, z]
      rfl
    walk_at "ss"
    intro p hp
    have sp := same_new hp (.tup [.int 0, .int 1])
    refine ⟨_, _, rfl, SqT.of upd_same, rfl, ?_⟩
    refine ⟨_, _, rfl, _, _, rfl, rfl, ?_⟩
    refine while_by (fun σ H2 => ∃ (l s lf sf : Int) (z : Option V), σ = [some (.int a), some (.int q), some (.int l), some (.int s), some (.int lf), some (.int sf), z] ∧ Same H H2 ∧ Eg q a l s lf sf)
      (fun σ _ => match σ with | [_, _, _, some (.int s), _, _, _] => s.toNat | _ => 0) ⟨q, a % q, 0, 1, none, ?_, sp, eg_start hq c'⟩ ?_ ?_
    · show List.set (List.set _ _ _) _ _ = _
      rw [← fe]
      rfl
    · rintro σ H2 ⟨l, s, lf, sf, z, rfl, s2, e⟩
      walk_at "ss"
      have s1 := e.s1
      have ls := e.ls
      have lq := e.lq
      by_cases hs : s = 1
      · subst hs
        walk_at "ss"
        have iv := to_inv hq (by have := e.hs; exact this)
        have g := h1 c' _ H2 iv s2
        have x0 := Int.emod_nonneg sf (show (q : Int) ≠ 0 by omega)
        have e3 : (((sf % (q : Int)).toNat : Nat) : Int) = sf.fmod (q : Int) := by
          rw [Int.toNat_of_nonneg x0, Int.fmod_eq_emod_of_nonneg _ (by omega)]
        rw [e3] at g
        exact g
      · have hd : decide (V.int s = V.int 1) = false := decide_eq_false fun z => hs (by injection z)
        have fd : l.fdiv s = l / s := Int.fdiv_eq_ediv_of_nonneg _ (by omega)
        have d0 : 0 ≤ l / s := Int.ediv_nonneg (by omega) (by omega)
        have d1 : l / s ≤ l := Int.ediv_le_self _ (by omega)
        have et := eg_turn e hs
        refine ite2 (fun _ => ?_) (fun c3 => (c3 (by rw [hd]; rfl)).elim)
        walk_at "ss"
        refine ⟨_, _, rfl, ?_⟩
        walk_at "ss"
        refine ⟨_, _, rfl, ⟨s, l - l.fdiv s * s, sf, lf - l.fdiv s * sf, some (.int (l.fdiv s)), rfl, s2, by rw [fd]; exact et⟩, ?_⟩
        show (l - l.fdiv s * s).toNat < s.toNat
        have := et.ls
        rw [fd]
        omega
    · rintro σ H2 Q1 Q2 hm h
      obtain ⟨v, hv, hs, k, e, q⟩ := h
      exact ⟨v, hv, hs, k, e, hm _ _ q⟩
/-- what _law_due and _law_asked hand back: a new tuple -/
def dueT (q : Nat) (a : Int) (b : Nat) : HO := if a % (q : Int) = 0 then .tup [.str "none", .bl true] else .tup [.str "told", .int b]
def spDue : Sp := fun vs H Q _ => ∃ (a : Int) (q : Nat), vs = [.int a, .int q] ∧ q ∈ PL ∧ ∀ (p : Addr) (b : Nat) (H' : Hp), (a % (q : Int) ≠ 0 → IsInv q a b) → H p = none → Same H H' → H' p = some (dueT q a b) → Q (.ref p) H'
theorem ok_due (T : Top K mg) : FnOk P w K mg base CX0 1 T.f__law_due T.d__law_due ["a", "q"] spDue := by
  refine T.F__law_due.ok scLdue (fun vs H Q E h => ?_) (fun cdv A outer s H vs Q E hr h => ?_)
  · obtain ⟨_, _, rfl, _⟩ := h
    rfl
  obtain ⟨a, q, rfl, hq, k⟩ := h
  have r := pl_range q hq
  have fe : a.fmod (q : Int) = a % (q : Int) := Int.fmod_eq_emod_of_nonneg _ (by omega)
  have a0 := Int.emod_nonneg a (show (q : Int) ≠ 0 by omega)
  have a1 := Int.emod_lt_of_pos a (show 0 < (q : Int) by omega)
  obtain ⟨x, hx⟩ : ∃ x : Nat, a % (q : Int) = x := ⟨(a % (q : Int)).toNat, by omega⟩
  refine ⟨_, (pss_cons (ps_set (i := 2) scLdue.nd rfl (Or.inl rfl) (pe_op op_modN (pe_callTy call_int1 (by rfl) T.z_int (by decide +kernel) (pa_cons (pv 0) pa_nil)) (pv 1)))
      (pss_cons (ps_for PassesOwn.never rfl (pi_range2 (by rfl) T.z_range (pa_cons pe_int (pa_cons (pv 1) pa_nil))) (pg_name (i := 3) scLdue.nd rfl (Or.inl rfl)) (pss_one (ps_if (pt_cmpR op_eq (pe_op op_modN (pe_callTy call_int1 (by rfl) T.z_int (by decide +kernel) (pa_cons (pe_op op_mul (pv 2) (pv 3)) pa_nil)) (pv 1)) pe_int (nomark _)) (pss_one (ps_ret (pe_tup (pa_cons pe_str (pa_cons (pv 3) pa_nil))))) pss_nil)))
      (pss_one (ps_ret (pe_tup (pa_cons pe_str (pa_cons pe_bl pa_nil))))))), ?_⟩
  walk_at "ss"
  refine ⟨_, _, rfl, ⟨by decide, by decide, by omega, by omega⟩, ?_⟩
  refine for_range (lo := 1) (n := ((q : Int) - 1).toNat) (fun i σ H2 => ∃ v, σ = [some (.int a), some (.int q), some (.int x), v] ∧ H2 = H ∧ ∀ b : Nat, 1 ≤ b → b < 1 + i → (x * b) % q ≠ 1) ⟨none, ?_, rfl, fun e h1 h2 => by omega⟩ ?_ ?_
  · show List.set _ 2 (some (V.int (a.fmod (q : Int)))) = _
    rw [fe, hx]
    rfl
  · rintro i σ H2 hi ⟨v, rfl, rfl, h3⟩
    have ek : (1 : Int) + (i : Int) = ((1 + i : Nat) : Int) := by omega
    have em : ((x : Int) * (1 + (i : Int))).fmod (q : Int) = ((x * (1 + i) % q : Nat) : Int) := by
      rw [Int.fmod_eq_emod_of_nonneg _ (by omega), ek, Int.natCast_emod, Int.natCast_mul]
    walk_at "ss"
    refine ite2 (fun c => ?_) (fun c => ?_)
    · have c' : ((x : Int) * (1 + (i : Int))).fmod (q : Int) = 1 := by
        have := of_decide_eq_true c
        injection this
      rw [em] at c'
      have c2 : x * (1 + i) % q = 1 := by omega
      have xn : a % (q : Int) ≠ 0 := by
        intro z
        have : x = 0 := by omega
        rw [this, Nat.zero_mul, Nat.zero_mod] at c2
        omega
      walk_at "ss"
      intro p hp
      have g := k p (1 + i) _ (fun _ => ⟨by omega, by rw [hx, Int.toNat_natCast]; exact c2⟩) hp (same_new hp (.tup [.str "told", .int (1 + (i : Int))])) (by rw [upd_same]; unfold dueT; rw [if_neg xn, ek])
      exact g
    · have c2 : x * (1 + i) % q ≠ 1 := by
        intro z
        apply c
        show decide (V.int (((x : Int) * (1 + (i : Int))).fmod (q : Int)) = V.int 1) = true
        rw [em, z]
        rfl
      refine ⟨_, rfl, rfl, fun b b1 b2 => ?_⟩
      by_cases bd : b = 1 + i
      · rw [bd]
        exact c2
      · exact h3 b b1 (by omega)
  · rintro σ H2 ⟨v, rfl, rfl, h3⟩
    have x0 : a % (q : Int) = 0 := by
      refine Classical.byContradiction fun c => ?_
      obtain ⟨b, hb, h⟩ := pl_inv q hq x (by omega) (by omega)
      by_cases b0 : b = 0
      · rw [b0, Nat.mul_zero, Nat.zero_mod] at h
        omega
      · exact h3 b (by omega) (by omega) h
    walk_at "ss"
    intro p hp
    exact k p 0 _ (fun c => (c x0).elim) hp (same_new hp (.tup [.str "none", .bl true])) (by rw [upd_same]; unfold dueT; rw [if_pos x0])
theorem ok_asked (T : Top K mg) : FnOk P w K mg base CX0 2 T.f__law_asked T.d__law_asked ["a", "q"] spDue := by
  have G_inverse := ok_inverse (P := P) (w := w) (base := base) T
  refine T.F__law_asked.ok scLasked (fun vs H Q E h => ?_) (fun cdv A outer s H vs Q E hr h => ?_)
  · obtain ⟨_, _, rfl, _⟩ := h
    rfl
  obtain ⟨a, q, rfl, hq, k⟩ := h
  refine ⟨_, (pss_one (ps_try_as (i := 2) rfl rfl scLasked.nd rfl rfl ⟨rfl, by decide, .inl T.m_NoInverse⟩ takes0 (fun W pn xe tk _ => (pss_one (ps_ret (pe_tup (pa_cons pe_str (pa_cons (pe_callS G_inverse (hr.mono (by decide)) rfl T.m_inverse T.F_inverse.kp T.b_inverse (fun σ => passAt tk σ) (pa_cons (pv 0) (pa_cons (pv 1) pa_nil))) pa_nil)))))) (fun a oe cls d pn hz hf => pss_given (φ := cls = .ref T.c_NoInverse ∧ d = none) fun hg => pss_one (ps_ret (pe_tup (pa_cons pe_str (pa_cons (pe_and (pe_callB (call_isE T.xc_NoInverse (by rw [hg.1, hg.2] at hz; exact hz) hf) (by rfl) T.z_isinstance (by decide +kernel) (pa_cons (pv 2) (pa_cons (pe_glob (v := .ref T.c_HushError) rfl T.m_HushError rfl) pa_nil))) (pe_one (pe_callB (call_isE T.xc_NoInverse (by rw [hg.1, hg.2] at hz; exact hz) hf) (by rfl) T.z_isinstance (by decide +kernel) (pa_cons (pv 2) (pa_cons (pe_bltn (v := .ty "ValueError") (by rfl) T.z_ValueError (by decide +kernel) rfl) pa_nil))))) pa_nil))))))), ?_⟩
  walk_at "ss"
  refine ⟨a, q, rfl, hq, fun hne b H1 iv s1 => ?_, fun h0 => ?_⟩
  · walk_at "ss"
    intro p hp
    exact k p b _ (fun _ => iv) (Same.free s1 hp) (Same.trans s1 (same_new hp _)) (by rw [upd_same]; unfold dueT; rw [if_neg hne])
  · refine ⟨true, PySem.W.exm_ref T.s_NoInverse T.xc_NoInverse.hd T.t_NoInverse T.u_NoInverse, fun _ e he => ⟨⟨rfl, rfl⟩, ?_⟩, fun z => by cases z⟩
    walk_at "ss"
    refine ⟨_, _, _, rfl, fun u ru => ru, kit_own T.i_HushError T.t_HushError T.uh_NoInverse (fun _ => rfl), ?_⟩
    walk_at "ss"
    refine ⟨_, _, _, rfl, fun u ru => ru, kit_val T.uv_NoInverse, ?_⟩
    walk_at "ss"
    intro p hp
    exact k p 0 _ (fun c => (c h0).elim) hp (same_new hp _) (by rw [upd_same]; unfold dueT; rw [if_pos h0])
def spRight : Sp := fun vs H Q _ => ∃ (a : Int) (q : Nat), vs = [.int a, .int q] ∧ q ∈ PL ∧ ∀ H', Same H H' → Q (.bl true) H'
theorem ok_right (T : Top K mg) : FnOk P w K mg base CX0 4 T.f__law_right T.d__law_right ["a", "q"] spRight := by
  have G_inverse := ok_inverse (P := P) (w := w) (base := base) T
  have G__law_asked := ok_asked (P := P) (w := w) (base := base) T
  have G__law_due := ok_due (P := P) (w := w) (base := base) T
  have G__law_alike := ok_alike (P := P) (w := w) (base := base) T 3
  refine T.F__law_right.ok scLright (fun vs H Q E h => ?_) (fun cdv A outer s H vs Q E hr h => ?_)
  · obtain ⟨_, _, rfl, _⟩ := h
    rfl
  obtain ⟨a, q, rfl, hq, k⟩ := h
  have r := pl_range q hq
  have fe : a.fmod (q : Int) = a % (q : Int) := Int.fmod_eq_emod_of_nonneg _ (by omega)
  have a0 := Int.emod_nonneg a (show (q : Int) ≠ 0 by omega)
  have a1 := Int.emod_lt_of_pos a (show 0 < (q : Int) by omega)
  refine ⟨_, (pss_cons (ps_set (i := 2) scLright.nd rfl (Or.inl rfl) (pe_call G__law_due (hr.mono (by decide)) rfl T.m__law_due T.F__law_due.kp T.b__law_due .nil pass0 (pa_cons (pv 0) (pa_cons (pv 1) pa_nil))))
      (pss_cons (ps_if (pt_not (pt_val (pe_call G__law_alike (hr.mono (by decide)) rfl T.m__law_alike T.F__law_alike.kp T.b__law_alike .nil pass0 (pa_cons (pe_call G__law_asked (hr.mono (by decide)) rfl T.m__law_asked T.F__law_asked.kp T.b__law_asked .nil pass0 (pa_cons (pv 0) (pa_cons (pv 1) pa_nil))) (pa_cons (pv 2) pa_nil))))) (pss_one (ps_ret pe_bl)) pss_nil)
      (pss_cons (ps_if (pt_cmpR op_eq (pe_ix ix_tup (pv 2) pe_int (fun _ _ => rfl)) pe_str (nomark _)) (pss_one (ps_ret (pe_cmpR op_eq (pe_op op_modN (pe_callTy call_int1 (by rfl) T.z_int (by decide +kernel) (pa_cons (pv 0) pa_nil)) (pv 1)) pe_int (nomark _)))) pss_nil)
      (pss_cons (ps_if (PW.pt (pw_or (pt_not (pt_val (pe_call G__law_alike (hr.mono (by decide)) rfl T.m__law_alike T.F__law_alike.kp T.b__law_alike .nil pass0 (pa_cons (pe_callK0 G_inverse (hr.mono (by decide)) rfl T.m_inverse T.F_inverse.kp T.k_inverse_0_a_q passL (pk_cons (pv 0) (pk_cons (pv 1) pk_nil))) (pa_cons (pe_ix ix_tup (pv 2) pe_int (fun _ _ => rfl)) pa_nil))))) (pw_or1 (pt_cmpR op_ne (pe_op op_modN (pe_callTy call_int1 (by rfl) T.z_int (by decide +kernel) (pa_cons (pe_op op_mul (pv 0) (pe_ix ix_tup (pv 2) pe_int (fun _ _ => rfl))) pa_nil)) (pv 1)) pe_int (nomark _))))) (pss_one (ps_ret pe_bl)) pss_nil)
      (pss_one (ps_ret (pe_call G__law_alike (hr.mono (by decide)) rfl T.m__law_alike T.F__law_alike.kp T.b__law_alike .nil pass0 (pa_cons (pe_call G_inverse (hr.mono (by decide)) rfl T.m_inverse T.F_inverse.kp T.b_inverse .nil passL (pa_cons (pe_ix ix_tup (pv 2) pe_int (fun _ _ => rfl)) (pa_cons (pv 1) pa_nil))) (pa_cons (pe_op op_modN (pe_callTy call_int1 (by rfl) T.z_int (by decide +kernel) (pa_cons (pv 0) pa_nil)) (pv 1)) pa_nil))))))))), ?_⟩
  walk_at "ss"
  refine ⟨a, q, rfl, hq, fun p b H1 iv n1 s1 hp => ?_⟩
  walk_at "ss"
  refine ⟨a, q, rfl, hq, fun p2 b2 H2 iv2 n2 s2 hp2 => ?_⟩
  have hp := s2 _ _ hp
  by_cases z : a % (q : Int) = 0
  · unfold dueT at hp hp2
    rw [if_pos z] at hp hp2
    walk_at "ss"
    refine ⟨_, _, rfl, .tup2 hp2 hp (.str _ _) (.bl _ _), fun H3 s3 => ?_⟩
    have hp := s3 _ _ hp
    walk_at "ss"
    show Q (.bl (decide (V.int (a.fmod (q : Int)) = V.int 0))) _
    rw [fe, z]
    exact k _ (s1.trans (s2.trans s3))
  · have e : b2 = b := (iv2 z).uniq (iv z)
    subst e
    have iv := iv z
    unfold dueT at hp hp2
    rw [if_neg z] at hp hp2
    walk_at "ss"
    refine ⟨_, _, rfl, .tup2 hp2 hp (.str _ _) (.int _ _), fun H3 s3 => ?_⟩
    have hp := s3 _ _ hp
    walk_at "ss"
    refine ⟨a, q, rfl, hq, fun _ b3 H4 iv3 s4 => ?_, fun h0 => (z h0).elim⟩
    have e3 := iv3.uniq iv
    subst e3
    have hp := s4 _ _ hp
    have b3q := iv.1
    walk_at "ss"
    refine ⟨_, _, rfl, .int _ _, fun H5 s5 => ?_⟩
    have hp := s5 _ _ hp
    walk_at "ss"
    have em : (a * (b3 : Int)).fmod (q : Int) = 1 := by
      rw [Int.fmod_eq_emod_of_nonneg _ (by omega)]
      exact iv.mul
    refine And.intro (.inr ⟨by omega, by omega⟩) ?_
    walk_at "ss"
    refine ite2 (fun c => ?_) (fun c => ?_)
    · exfalso
      have c' : (!decide (V.int ((a * (b3 : Int)).fmod (q : Int)) = V.int 1)) = true := c
      rw [em] at c'
      exact absurd c' (by decide)
    · walk_at "ss"
      refine ⟨b3, q, rfl, hq, fun _ b4 H6 iv4 s6 => ?_, fun h0 => (iv.nz hq h0).elim⟩
      have e4 := iv4.uniq (iv.symm hq)
      subst e4
      walk_at "ss"
      refine ⟨_, _, two_int (show (((a % (q : Int)).toNat : Nat) : Int) = a.fmod (q : Int) by rw [fe, Int.toNat_of_nonneg a0]), .int _ _, fun H7 s7 => ?_⟩
      exact k _ (s1.trans (s2.trans (s3.trans (s4.trans (s5.trans (s6.trans s7))))))
end
/-! ### the law's two boxes -/
structure Bx (b cb f cf : Addr) (H : Hp) : Prop where
  B : BoxAt H b cb
  F : BoxAt H f cf
  n1 : f ≠ b
  n2 : cf ≠ b
  n3 : cb ≠ f
theorem Bx.same {b cb f cf : Addr} {H H' : Hp} (X : Bx b cb f cf H) (s : Same H H') : Bx b cb f cf H' := ⟨X.B.same s, X.F.same s, X.n1, X.n2, X.n3⟩
theorem Bx.drawB {b cb f cf : Addr} {H H' : Hp} (X : Bx b cb f cf H) (B' : BoxAt H' b cb) (k : Keep b H H') : Bx b cb f cf H' := ⟨B', X.F.keep k X.n1 X.n2, X.n1, X.n2, X.n3⟩
theorem Bx.drawF {b cb f cf : Addr} {H H' : Hp} (X : Bx b cb f cf H) (F' : BoxAt H' f cf) (k : Keep f H H') : Bx b cb f cf H' := ⟨X.B.keep k X.n1.symm X.n3, F', X.n1, X.n2, X.n3⟩
theorem Bx.make {b cb f cf : Addr} {H1 H2 : Hp} (B : BoxAt H1 b cb) (F : BoxAt H2 f cf) (s : Same H1 H2) (nf : H1 f = none) (nc : H1 cf = none) : Bx b cb f cf H2 := by
  obtain ⟨ne, cs, x0, x1, x2, x3, x4, h2, hb, hc⟩ := id B
  exact ⟨B.same s, F, (ne_of_none hb nf).symm, (ne_of_none hb nc).symm, ne_of_none hc nf⟩
def spLaw (K : PySem.W.Frag) : Sp := fun vs H Q _ => ∃ (a : Addr) (ns : List Int), vs = [.ref a] ∧ SqL K H a (ns.map V.int) ∧ ns.length ≤ 63 ∧ ∀ H', Q (.bl true) H'
section
variable {P : Program} {w : World} {K : PySem.W.Frag} {mg : Str → Option Value} {base : Heap}
theorem nat_mul {x y : Int} (hx : 0 ≤ x) (hy : 0 ≤ y) : (x * y).toNat = x.toNat * y.toNat := by
  have e : ((x.toNat * y.toNat : Nat) : Int) = x * y := by rw [Int.natCast_mul, Int.toNat_of_nonneg hx, Int.toNat_of_nonneg hy]
  omega
theorem Tells.small {b : Bool} {n : Int} (h : Tells b n) (hn : n < 2) : b = false := by
  cases b with
  | false => rfl
  | true => have := (h.mp rfl).1; omega
theorem Tells.product {b : Bool} {x y : Int} (h : Tells b (x * y)) (hx : 2 ≤ x) (hy : 2 ≤ y) : b = false := by
  cases b with
  | false => rfl
  | true =>
    have := (h.mp rfl).2
    rw [nat_mul (by omega) (by omega)] at this
    exact (not_pr_mul (by omega) (by omega) this).elim
theorem Tells.prime {b : Bool} {q : Nat} (h : Tells b (q : Int)) (hq : q ∈ PL) : b = true := h.mpr ⟨by have := pl_range q hq; omega, by rw [Int.toNat_natCast]; exact pl_pr hq⟩
theorem ok_law (T : Top K mg) : FnOk P w K mg base CX0 6 T.f_law T.d_law ["script"] (spLaw K) := by
  have G__law_box := ok_box (P := P) (w := w) (base := base) T
  have G__law_draw := ok_draw (P := P) (w := w) (base := base) T
  have G__law_great := ok_great (P := P) (w := w) (base := base) T
  have G__law_prime := ok_lprime (P := P) (w := w) (base := base) T
  have G__law_right := ok_right (P := P) (w := w) (base := base) T
  have G__law_alike := ok_alike (P := P) (w := w) (base := base) T 3
  have G_is_prime := ok_is_prime (P := P) (w := w) (base := base) T
  have G__law_is_prime := ok_lis (P := P) (w := w) (base := base) T
  have G__law_by_trial := ok_trial (P := P) (w := w) (base := base) T
  refine T.F_law.ok sclaw (fun vs H Q E h => ?_) (fun cdv A outer s H vs Q E hr h => ?_)
  · obtain ⟨_, _, rfl, _⟩ := h
    rfl
  obtain ⟨a, ns, rfl, hS, h63, k⟩ := h
  refine ⟨_, (pss_cons (ps_set (i := 1) sclaw.nd rfl (Or.inl rfl) (pe_call G__law_box (hr.mono (by decide)) rfl T.m__law_box T.F__law_box.kp T.b__law_box .nil pass0 (pa_cons (pv 0) (pa_cons pe_int pa_nil))))
      (pss_cons (ps_set (i := 2) sclaw.nd rfl (Or.inl rfl) (pe_call G__law_box (hr.mono (by decide)) rfl T.m__law_box T.F__law_box.kp T.b__law_box .nil pass0 (pa_cons (pv 0) (pa_cons pe_int pa_nil))))
      (pss_cons (ps_set (i := 3) sclaw.nd rfl (Or.inl rfl) (pe_call G__law_prime (hr.mono (by decide)) rfl T.m__law_prime T.F__law_prime.kp T.b__law_prime .nil pass0 (pa_cons (pv 1) (pa_cons pe_int (pa_cons pe_int pa_nil)))))
      (pss_cons (ps_for PassesOwn.never rfl (pi_list (pe_lst (pa_cons pe_int (pa_cons pe_int (pa_cons (pe_un un_neg pe_int) (pa_cons (pv 3) (pa_cons (pe_op op_sub (pv 3) pe_int) (pa_cons (pe_op op_add (pv 3) pe_int) (pa_cons (pe_un un_neg (pv 3)) (pa_cons (pe_call G__law_great (hr.mono (by decide)) rfl T.m__law_great T.F__law_great.kp T.b__law_great .nil pass0 (pa_cons (pv 2) pa_nil)) (pa_cons (pe_call G__law_great (hr.mono (by decide)) rfl T.m__law_great T.F__law_great.kp T.b__law_great .nil pass0 (pa_cons (pv 2) pa_nil)) (pa_cons (pe_call G__law_draw (hr.mono (by decide)) rfl T.m__law_draw T.F__law_draw.kp T.b__law_draw .nil pass0 (pa_cons (pv 1) (pa_cons (pv 3) pa_nil))) pa_nil)))))))))))) (pg_name (i := 4) sclaw.nd rfl (Or.inl rfl)) (pss_one (ps_if (pt_not (pt_val (pe_call G__law_right (hr.mono (by decide)) rfl T.m__law_right T.F__law_right.kp T.b__law_right .nil pass0 (pa_cons (pv 4) (pa_cons (pv 3) pa_nil))))) (pss_one (ps_ret pe_bl)) pss_nil)))
      (pss_cons (ps_set (i := 5) sclaw.nd rfl (Or.inl rfl) (pe_call G__law_great (hr.mono (by decide)) rfl T.m__law_great T.F__law_great.kp T.b__law_great .nil pass0 (pa_cons (pv 2) pa_nil)))
      (pss_cons (ps_if (PW.pt (pw_or (pt_not (pt_val (pe_call G__law_right (hr.mono (by decide)) rfl T.m__law_right T.F__law_right.kp T.b__law_right .nil pass0 (pa_cons (pe_op op_mul (pv 5) (pv 3)) (pa_cons (pv 3) pa_nil))))) (pw_or1 (pt_not (pt_val (pe_call G__law_right (hr.mono (by decide)) rfl T.m__law_right T.F__law_right.kp T.b__law_right .nil pass0 (pa_cons (pe_op op_add (pe_op op_mul (pv 5) (pv 3)) pe_int) (pa_cons (pv 3) pa_nil)))))))) (pss_one (ps_ret pe_bl)) pss_nil)
      (pss_cons (ps_for PassesOwn.never rfl (pi_range1 (by rfl) T.z_range (pa_cons pe_int pa_nil)) (pg_name (i := 6) sclaw.nd rfl (Or.inl rfl)) (pss_cons (ps_set (i := 7) sclaw.nd rfl (Or.inl rfl) (pe_call G__law_draw (hr.mono (by decide)) rfl T.m__law_draw T.F__law_draw.kp T.b__law_draw .nil pass0 (pa_cons (pv 2) (pa_cons (pe_ix ix_list (pe_lst (pa_cons pe_int (pa_cons pe_int (pa_cons pe_int pa_nil)))) (pe_call G__law_draw (hr.mono (by decide)) rfl T.m__law_draw T.F__law_draw.kp T.b__law_draw .nil pass0 (pa_cons (pv 2) (pa_cons pe_int pa_nil))) (fun _ _ => rfl)) pa_nil))))
      (pss_one (ps_if (pt_not (pt_val (pe_call G__law_alike (hr.mono (by decide)) rfl T.m__law_alike T.F__law_alike.kp T.b__law_alike .nil pass0 (pa_cons (pe_call G_is_prime (hr.mono (by decide)) rfl T.m_is_prime T.F_is_prime.kp T.b_is_prime .nil pass0 (pa_cons (pv 7) pa_nil)) (pa_cons (pe_call G__law_is_prime (hr.mono (by decide)) rfl T.m__law_is_prime T.F__law_is_prime.kp T.b__law_is_prime .nil pass0 (pa_cons (pv 7) pa_nil)) pa_nil))))) (pss_one (ps_ret pe_bl)) pss_nil))))
      (pss_cons (ps_for PassesOwn.never rfl (pi_range1 (by rfl) T.z_range (pa_cons pe_int pa_nil)) (pg_name (i := 6) sclaw.nd rfl (Or.inl rfl)) (pss_cons (ps_set (i := 7) sclaw.nd rfl (Or.inl rfl) (pe_call G__law_draw (hr.mono (by decide)) rfl T.m__law_draw T.F__law_draw.kp T.b__law_draw .nil pass0 (pa_cons (pv 2) (pa_cons (pe_op op_add (pe_op op_pow pe_int pe_int) pe_int) pa_nil))))
      (pss_one (ps_if (PW.pt (pw_or (pt_not (pt_val (pe_call G__law_alike (hr.mono (by decide)) rfl T.m__law_alike T.F__law_alike.kp T.b__law_alike .nil pass0 (pa_cons (pe_call G_is_prime (hr.mono (by decide)) rfl T.m_is_prime T.F_is_prime.kp T.b_is_prime .nil pass0 (pa_cons (pv 7) pa_nil)) (pa_cons (pe_call G__law_by_trial (hr.mono (by decide)) rfl T.m__law_by_trial T.F__law_by_trial.kp T.b__law_by_trial .nil pass0 (pa_cons (pv 7) pa_nil)) pa_nil))))) (pw_or1 (pt_not (pt_val (pe_call G__law_alike (hr.mono (by decide)) rfl T.m__law_alike T.F__law_alike.kp T.b__law_alike .nil pass0 (pa_cons (pe_call G_is_prime (hr.mono (by decide)) rfl T.m_is_prime T.F_is_prime.kp T.b_is_prime .nil pass0 (pa_cons (pe_op op_sub pe_int (pv 7)) pa_nil)) (pa_cons pe_bl pa_nil)))))))) (pss_one (ps_ret pe_bl)) pss_nil))))
      (pss_cons (ps_if (pt_not (pt_val (pe_call G__law_alike (hr.mono (by decide)) rfl T.m__law_alike T.F__law_alike.kp T.b__law_alike .nil pass0 (pa_cons (pe_tup (pa_cons (pe_call G_is_prime (hr.mono (by decide)) rfl T.m_is_prime T.F_is_prime.kp T.b_is_prime .nil pass0 (pa_cons (pe_op op_sub pe_int (pv 3)) pa_nil)) (pa_cons (pe_call G_is_prime (hr.mono (by decide)) rfl T.m_is_prime T.F_is_prime.kp T.b_is_prime .nil pass0 (pa_cons (pe_op op_sub pe_int (pe_call G__law_draw (hr.mono (by decide)) rfl T.m__law_draw T.F__law_draw.kp T.b__law_draw .nil pass0 (pa_cons (pv 2) (pa_cons (pe_op op_pow pe_int pe_int) pa_nil)))) pa_nil)) pa_nil))) (pa_cons (pe_tup (pa_cons pe_bl (pa_cons pe_bl pa_nil))) pa_nil))))) (pss_one (ps_ret pe_bl)) pss_nil)
      (pss_cons (ps_set (i := 8) sclaw.nd rfl (Or.inl rfl) (pe_op op_add pe_int (pe_call G__law_draw (hr.mono (by decide)) rfl T.m__law_draw T.F__law_draw.kp T.b__law_draw .nil pass0 (pa_cons (pv 2) (pa_cons pe_int pa_nil)))))
      (pss_one (ps_ret (pe_and (pe_call G__law_alike (hr.mono (by decide)) rfl T.m__law_alike T.F__law_alike.kp T.b__law_alike .nil pass0 (pa_cons (pe_call G_is_prime (hr.mono (by decide)) rfl T.m_is_prime T.F_is_prime.kp T.b_is_prime .nil pass0 (pa_cons (pe_op op_mul (pv 8) (pe_op op_add pe_int (pe_call G__law_draw (hr.mono (by decide)) rfl T.m__law_draw T.F__law_draw.kp T.b__law_draw .nil pass0 (pa_cons (pv 2) (pa_cons pe_int pa_nil))))) pa_nil)) (pa_cons pe_bl pa_nil))) (pe_one (pe_call G__law_alike (hr.mono (by decide)) rfl T.m__law_alike T.F__law_alike.kp T.b__law_alike .nil pass0 (pa_cons (pe_callK0 G_is_prime (hr.mono (by decide)) rfl T.m_is_prime T.F_is_prime.kp T.k_is_prime_0_n pass0 (pk_cons (pv 3) pk_nil)) (pa_cons pe_bl pa_nil))))))))))))))))), ?_⟩
  walk_at "ss"
  refine ⟨a, ns, 0, rfl, hS, h63, by decide, fun b cb H1 s1 nb nc B => ?_⟩
  walk_at "ss"
  refine ⟨a, ns, 1, rfl, s1.seq hS, h63, by decide, fun f cf H2 s2 nf nfc F => ?_⟩
  have X := Bx.make B F s2 nf nfc
  walk_at "ss"
  refine ⟨b, cb, rfl, X.B, fun q H3 hq B3 k3 => ?_⟩
  have X := X.drawB B3 k3
  have r := pl_range q hq
  walk_at "ss"
  refine ⟨f, cf, rfl, X.F, fun g1 H4 g1a g1b F4 k4 => ?_⟩
  have X := X.drawF F4 k4
  walk_at "ss"
  refine ⟨f, cf, rfl, X.F, fun g2 H5 g2a g2b F5 k5 => ?_⟩
  have X := X.drawF F5 k5
  walk_at "ss"
  refine ⟨b, cb, _, rfl, X.B, by omega, by omega, fun d H6 d0 d1 B6 k6 => ?_⟩
  have X := X.drawB B6 k6
  walk_at "ss"
  intro L hL
  have sL := same_new hL (.lst ([0, 1, -1, (q : Int), (q : Int) - 1, (q : Int) + 1, -(q : Int), g1, g2, d].map V.int))
  have X := X.same sL
  have zl : ∀ zs : List Int, [0, 1, -1, (q : Int), (q : Int) - 1, (q : Int) + 1, -(q : Int), g1, g2, d] = zs → upd H6 L (.lst ([0, 1, -1, (q : Int), (q : Int) - 1, (q : Int) + 1, -(q : Int), g1, g2, d].map V.int)) L = some (.lst (zs.map V.int)) := fun zs e => by
    rw [← e]
    exact upd_same
  obtain ⟨zs, hzs⟩ : ∃ zs, [0, 1, -1, (q : Int), (q : Int) - 1, (q : Int) + 1, -(q : Int), g1, g2, d] = zs := ⟨_, rfl⟩
  have hl := zl zs hzs
  walk_at "ss"
  refine ⟨⟨_, SqL.of hl⟩, for_list (K := K) (a := L) (xs := zs.map V.int) (fun i σ H2 => ∃ v : Option V, σ = [some (.ref a), some (.ref b), some (.ref f), some (.int q), v, none, none, none, none] ∧ H2 L = some (.lst (zs.map V.int)) ∧ Bx b cb f cf H2)
    ⟨_, rfl, hl, X⟩ (fun i σ H2 _ ⟨_, _, hl, _⟩ => SqL.of hl) ?_ ?_⟩
  · rintro i x σ H7 hi ⟨v, rfl, hl, X⟩
    obtain ⟨z, rfl⟩ : ∃ z, x = V.int z := by
      rw [List.getElem?_map] at hi
      cases e : zs[i]? with
      | none => rw [e] at hi; cases hi
      | some z => rw [e] at hi; exact ⟨z, (Option.some.inj hi).symm⟩
    walk_at "ss"
    refine ⟨z, q, rfl, hq, fun H8 s8 => ?_⟩
    exact ⟨_, rfl, _, rfl, s8 _ _ hl, X.same s8⟩
  · rintro σ H7 ⟨v, rfl, hl, X⟩
    clear hl zl hzs
    walk_at "ss"
    refine ⟨f, cf, rfl, X.F, fun g3 H8 g3a g3b F8 k8 => ?_⟩
    have X := X.drawF F8 k8
    walk_at "ss"
    refine And.intro (.inr ⟨by omega, by omega⟩) ?_
    walk_at "ss"
    refine ⟨_, q, rfl, hq, fun H9 s9 => ?_⟩
    have X := X.same s9
    walk_at "ss"
    refine And.intro (.inr ⟨by omega, by omega⟩) ?_
    walk_at "ss"
    refine ⟨_, q, rfl, hq, fun H10 s10 => ?_⟩
    have X := X.same s10
    walk_at "ss"
    refine for_range (n := 10) (fun i σ H2 => ∃ x y : Option V, σ = [some (.ref a), some (.ref b), some (.ref f), some (.int q), v, some (.int g3), x, y, none] ∧ Bx b cb f cf H2) ⟨_, _, rfl, X⟩ ?_ ?_
    · rintro i σ H11 hi ⟨x, y, rfl, X⟩
      walk_at "ss"
      intro p hp
      have pf := X.F.ne_new hp
      have X := X.same (same_new hp (.lst [.int 130, .int 1001, .int 1600]))
      walk_at "ss"
      refine ⟨f, cf, _, rfl, X.F, by decide, by decide, fun e H12 e0 e1 F12 k12 => ?_⟩
      have X := X.drawF F12 k12
      obtain ⟨u, hu, hu0, hu1⟩ : ∃ u : Int, atI [V.int 130, V.int 1001, V.int 1600] e = some (.int u) ∧ 0 < u ∧ u ≤ 1600 := by
        have : e = 0 ∨ e = 1 ∨ e = 2 := by omega
        rcases this with rfl | rfl | rfl <;> exact ⟨_, rfl, by decide, by decide⟩
      refine ⟨_, _, _, _, rfl, rfl, SqL.of (k12 _ _ upd_same pf), hu, ?_⟩
      walk_at "ss"
      refine ⟨f, cf, _, rfl, X.F, hu0, by omega, fun n H13 n0 n1 F13 k13 => ?_⟩
      have X := X.drawF F13 k13
      walk_at "ss"
      intro b1 t1
      walk_at "ss"
      intro b2 t2
      have e12 := t1.uniq t2
      subst e12
      refine ⟨_, _, rfl, .bl _ _, fun H14 s14 => ?_⟩
      exact ⟨_, rfl, _, _, rfl, X.same s14⟩
    · rintro σ H11 ⟨x, y, rfl, X⟩
      walk_at "ss"
      refine for_range (n := 2) (fun i σ H2 => ∃ x y : Option V, σ = [some (.ref a), some (.ref b), some (.ref f), some (.int q), v, some (.int g3), x, y, none] ∧ Bx b cb f cf H2) ⟨_, _, rfl, X⟩ ?_ ?_
      · rintro i σ H12 hi ⟨x, y, rfl, X⟩
        walk_at "ss"
        refine ⟨f, cf, 1000001, rfl, X.F, by decide, by decide, fun n H13 n0 n1 F13 k13 => ?_⟩
        have X := X.drawF F13 k13
        walk_at "ss"
        intro b1 t1
        walk_at "ss"
        intro b2 t2
        have e12 := t1.uniq t2
        subst e12
        refine ⟨_, _, rfl, .bl _ _, fun H14 s14 => ?_⟩
        have X := X.same s14
        walk_at "ss"
        intro b3 t3
        have e3 := t3.small (by omega)
        subst e3
        walk_at "ss"
        refine ⟨_, _, rfl, .bl _ _, fun H15 s15 => ?_⟩
        exact ⟨_, rfl, _, _, rfl, X.same s15⟩
      · rintro σ H12 ⟨x, y, rfl, X⟩
        walk_at "ss"
        intro b3 t3
        have e3 := t3.small (by omega)
        subst e3
        walk_at "ss"
        refine ⟨f, cf, 1000000, rfl, X.F, by decide, by decide, fun n H13 n0 n1 F13 k13 => ?_⟩
        have X := X.drawF F13 k13
        walk_at "ss"
        intro b4 t4
        have e4 := t4.small (by omega)
        subst e4
        walk_at "ss"
        intro p1 hp1
        walk_at "ss"
        intro p2 hp2
        have s2' := same_new hp2 (.tup [.bl false, .bl false])
        refine ⟨_, _, rfl, .tup2 (s2' _ _ upd_same) upd_same (.bl _ _) (.bl _ _), fun H14 s14 => ?_⟩
        have X := (X.same (same_new hp1 _)).same (s2'.trans s14)
        walk_at "ss"
        refine ⟨f, cf, _, rfl, X.F, by decide, by decide, fun m1 H15 m10 m11 F15 k15 => ?_⟩
        have X := X.drawF F15 k15
        walk_at "ss"
        refine ⟨f, cf, _, rfl, X.F, by decide, by decide, fun m2 H16 m20 m21 F16 k16 => ?_⟩
        walk_at "ss"
        have big : (2 + m1) * (2 + m2) ≤ 1000 * 1000 := Int.mul_le_mul (by omega) (by omega) (by omega) (by omega)
        refine ⟨by omega, fun b5 t5 => ?_⟩
        have e5 := t5.product (by omega) (by omega)
        subst e5
        walk_at "ss"
        refine ⟨_, _, rfl, .bl _ _, fun H17 s17 => ?_⟩
        walk_at "ss"
        intro b6 t6
        have e6 := t6.prime hq
        subst e6
        walk_at "ss"
        exact ⟨_, _, rfl, .bl _ _, fun H18 s18 => k _⟩
end
theorem all_mk {l : PySem.W.OpenLaw} {w : World} {K : PySem.W.Frag} {h : Heap} {mg : Str → Option Value} {fa : Addr} (X : K.In h) (G : h.Ns mainGlobals mg) (hfa : mg "law" = some (.ref fa))
    {f_is_prime : Addr} {od_is_prime an_is_prime : Option Addr} {sl_is_prime : Array (Option Value)} {oc_is_prime kV_is_prime dc_is_prime pm_is_prime cd_is_prime ct_is_prime : Value}
    {f_inverse : Addr} {od_inverse an_inverse : Option Addr} {sl_inverse : Array (Option Value)} {oc_inverse kV_inverse dc_inverse pm_inverse cd_inverse ct_inverse : Value}
    {f__law_mix : Addr} {od__law_mix an__law_mix : Option Addr} {sl__law_mix : Array (Option Value)} {oc__law_mix kV__law_mix dc__law_mix pm__law_mix cd__law_mix ct__law_mix : Value}
    {f__law_box : Addr} {od__law_box an__law_box : Option Addr} {sl__law_box : Array (Option Value)} {oc__law_box kV__law_box dc__law_box pm__law_box cd__law_box ct__law_box : Value}
    {f__law_draw : Addr} {od__law_draw an__law_draw : Option Addr} {sl__law_draw : Array (Option Value)} {oc__law_draw kV__law_draw dc__law_draw pm__law_draw cd__law_draw ct__law_draw : Value}
    {f__law_alike : Addr} {od__law_alike an__law_alike : Option Addr} {sl__law_alike : Array (Option Value)} {oc__law_alike kV__law_alike dc__law_alike pm__law_alike cd__law_alike ct__law_alike : Value}
    {f__law_is_prime : Addr} {od__law_is_prime an__law_is_prime : Option Addr} {sl__law_is_prime : Array (Option Value)} {oc__law_is_prime kV__law_is_prime dc__law_is_prime pm__law_is_prime cd__law_is_prime ct__law_is_prime : Value}
    {f__law_prime : Addr} {od__law_prime an__law_prime : Option Addr} {sl__law_prime : Array (Option Value)} {oc__law_prime kV__law_prime dc__law_prime pm__law_prime cd__law_prime ct__law_prime : Value}
    {f__law_great : Addr} {od__law_great an__law_great : Option Addr} {sl__law_great : Array (Option Value)} {oc__law_great kV__law_great dc__law_great pm__law_great cd__law_great ct__law_great : Value}
    {f__law_asked : Addr} {od__law_asked an__law_asked : Option Addr} {sl__law_asked : Array (Option Value)} {oc__law_asked kV__law_asked dc__law_asked pm__law_asked cd__law_asked ct__law_asked : Value}
    {f__law_due : Addr} {od__law_due an__law_due : Option Addr} {sl__law_due : Array (Option Value)} {oc__law_due kV__law_due dc__law_due pm__law_due cd__law_due ct__law_due : Value}
    {f__law_right : Addr} {od__law_right an__law_right : Option Addr} {sl__law_right : Array (Option Value)} {oc__law_right kV__law_right dc__law_right pm__law_right cd__law_right ct__law_right : Value}
    {f__law_by_trial : Addr} {od__law_by_trial an__law_by_trial : Option Addr} {sl__law_by_trial : Array (Option Value)} {oc__law_by_trial kV__law_by_trial dc__law_by_trial pm__law_by_trial cd__law_by_trial ct__law_by_trial : Value}
    {f_law : Addr} {od_law an_law : Option Addr} {sl_law : Array (Option Value)} {oc_law kV_law dc_law pm_law cd_law ct_law : Value}
    {c_NoInverse : Addr}
    
    
    
    
    
    {c_HushError : Addr}
    
    
    
    
    
    
    
    
    
    
    (a_is_prime : PySem.W.nsIn K mainGlobals "is_prime" = some (some (.ref f_is_prime))) (l_is_prime : K.lookup f_is_prime = some ⟨oc_is_prime, od_is_prime, .func (PySem.W.fnOf "is_prime" "is_prime" (defArgs s_is_prime) (defBody s_is_prime) (defScope s_is_prime) .none kV_is_prime dc_is_prime pm_is_prime an_is_prime cd_is_prime ct_is_prime), sl_is_prime⟩) (c_is_prime : PySem.W.codeIn K cd_is_prime "is_prime" = true) (k_is_prime : PySem.W.keepIn K (.ref f_is_prime) = true)
    (a_inverse : PySem.W.nsIn K mainGlobals "inverse" = some (some (.ref f_inverse))) (l_inverse : K.lookup f_inverse = some ⟨oc_inverse, od_inverse, .func (PySem.W.fnOf "inverse" "inverse" (defArgs s_inverse) (defBody s_inverse) (defScope s_inverse) .none kV_inverse dc_inverse pm_inverse an_inverse cd_inverse ct_inverse), sl_inverse⟩) (c_inverse : PySem.W.codeIn K cd_inverse "inverse" = true) (k_inverse : PySem.W.keepIn K (.ref f_inverse) = true)
    (a__law_mix : PySem.W.nsIn K mainGlobals "_law_mix" = some (some (.ref f__law_mix))) (l__law_mix : K.lookup f__law_mix = some ⟨oc__law_mix, od__law_mix, .func (PySem.W.fnOf "_law_mix" "_law_mix" (defArgs s_Lmix) (defBody s_Lmix) (defScope s_Lmix) .none kV__law_mix dc__law_mix pm__law_mix an__law_mix cd__law_mix ct__law_mix), sl__law_mix⟩) (c__law_mix : PySem.W.codeIn K cd__law_mix "_law_mix" = true) (k__law_mix : PySem.W.keepIn K (.ref f__law_mix) = true)
    (a__law_box : PySem.W.nsIn K mainGlobals "_law_box" = some (some (.ref f__law_box))) (l__law_box : K.lookup f__law_box = some ⟨oc__law_box, od__law_box, .func (PySem.W.fnOf "_law_box" "_law_box" (defArgs s_Lbox) (defBody s_Lbox) (defScope s_Lbox) .none kV__law_box dc__law_box pm__law_box an__law_box cd__law_box ct__law_box), sl__law_box⟩) (c__law_box : PySem.W.codeIn K cd__law_box "_law_box" = true) (k__law_box : PySem.W.keepIn K (.ref f__law_box) = true)
    (a__law_draw : PySem.W.nsIn K mainGlobals "_law_draw" = some (some (.ref f__law_draw))) (l__law_draw : K.lookup f__law_draw = some ⟨oc__law_draw, od__law_draw, .func (PySem.W.fnOf "_law_draw" "_law_draw" (defArgs s_Ldraw) (defBody s_Ldraw) (defScope s_Ldraw) .none kV__law_draw dc__law_draw pm__law_draw an__law_draw cd__law_draw ct__law_draw), sl__law_draw⟩) (c__law_draw : PySem.W.codeIn K cd__law_draw "_law_draw" = true) (k__law_draw : PySem.W.keepIn K (.ref f__law_draw) = true)
    (a__law_alike : PySem.W.nsIn K mainGlobals "_law_alike" = some (some (.ref f__law_alike))) (l__law_alike : K.lookup f__law_alike = some ⟨oc__law_alike, od__law_alike, .func (PySem.W.fnOf "_law_alike" "_law_alike" (defArgs s_Lalike) (defBody s_Lalike) (defScope s_Lalike) .none kV__law_alike dc__law_alike pm__law_alike an__law_alike cd__law_alike ct__law_alike), sl__law_alike⟩) (c__law_alike : PySem.W.codeIn K cd__law_alike "_law_alike" = true) (k__law_alike : PySem.W.keepIn K (.ref f__law_alike) = true)
    (a__law_is_prime : PySem.W.nsIn K mainGlobals "_law_is_prime" = some (some (.ref f__law_is_prime))) (l__law_is_prime : K.lookup f__law_is_prime = some ⟨oc__law_is_prime, od__law_is_prime, .func (PySem.W.fnOf "_law_is_prime" "_law_is_prime" (defArgs s_Lis_prime) (defBody s_Lis_prime) (defScope s_Lis_prime) .none kV__law_is_prime dc__law_is_prime pm__law_is_prime an__law_is_prime cd__law_is_prime ct__law_is_prime), sl__law_is_prime⟩) (c__law_is_prime : PySem.W.codeIn K cd__law_is_prime "_law_is_prime" = true) (k__law_is_prime : PySem.W.keepIn K (.ref f__law_is_prime) = true)
    (a__law_prime : PySem.W.nsIn K mainGlobals "_law_prime" = some (some (.ref f__law_prime))) (l__law_prime : K.lookup f__law_prime = some ⟨oc__law_prime, od__law_prime, .func (PySem.W.fnOf "_law_prime" "_law_prime" (defArgs s_Lprime) (defBody s_Lprime) (defScope s_Lprime) .none kV__law_prime dc__law_prime pm__law_prime an__law_prime cd__law_prime ct__law_prime), sl__law_prime⟩) (c__law_prime : PySem.W.codeIn K cd__law_prime "_law_prime" = true) (k__law_prime : PySem.W.keepIn K (.ref f__law_prime) = true)
    (a__law_great : PySem.W.nsIn K mainGlobals "_law_great" = some (some (.ref f__law_great))) (l__law_great : K.lookup f__law_great = some ⟨oc__law_great, od__law_great, .func (PySem.W.fnOf "_law_great" "_law_great" (defArgs s_Lgreat) (defBody s_Lgreat) (defScope s_Lgreat) .none kV__law_great dc__law_great pm__law_great an__law_great cd__law_great ct__law_great), sl__law_great⟩) (c__law_great : PySem.W.codeIn K cd__law_great "_law_great" = true) (k__law_great : PySem.W.keepIn K (.ref f__law_great) = true)
    (a__law_asked : PySem.W.nsIn K mainGlobals "_law_asked" = some (some (.ref f__law_asked))) (l__law_asked : K.lookup f__law_asked = some ⟨oc__law_asked, od__law_asked, .func (PySem.W.fnOf "_law_asked" "_law_asked" (defArgs s_Lasked) (defBody s_Lasked) (defScope s_Lasked) .none kV__law_asked dc__law_asked pm__law_asked an__law_asked cd__law_asked ct__law_asked), sl__law_asked⟩) (c__law_asked : PySem.W.codeIn K cd__law_asked "_law_asked" = true) (k__law_asked : PySem.W.keepIn K (.ref f__law_asked) = true)
    (a__law_due : PySem.W.nsIn K mainGlobals "_law_due" = some (some (.ref f__law_due))) (l__law_due : K.lookup f__law_due = some ⟨oc__law_due, od__law_due, .func (PySem.W.fnOf "_law_due" "_law_due" (defArgs s_Ldue) (defBody s_Ldue) (defScope s_Ldue) .none kV__law_due dc__law_due pm__law_due an__law_due cd__law_due ct__law_due), sl__law_due⟩) (c__law_due : PySem.W.codeIn K cd__law_due "_law_due" = true) (k__law_due : PySem.W.keepIn K (.ref f__law_due) = true)
    (a__law_right : PySem.W.nsIn K mainGlobals "_law_right" = some (some (.ref f__law_right))) (l__law_right : K.lookup f__law_right = some ⟨oc__law_right, od__law_right, .func (PySem.W.fnOf "_law_right" "_law_right" (defArgs s_Lright) (defBody s_Lright) (defScope s_Lright) .none kV__law_right dc__law_right pm__law_right an__law_right cd__law_right ct__law_right), sl__law_right⟩) (c__law_right : PySem.W.codeIn K cd__law_right "_law_right" = true) (k__law_right : PySem.W.keepIn K (.ref f__law_right) = true)
    (a__law_by_trial : PySem.W.nsIn K mainGlobals "_law_by_trial" = some (some (.ref f__law_by_trial))) (l__law_by_trial : K.lookup f__law_by_trial = some ⟨oc__law_by_trial, od__law_by_trial, .func (PySem.W.fnOf "_law_by_trial" "_law_by_trial" (defArgs s_Lby_trial) (defBody s_Lby_trial) (defScope s_Lby_trial) .none kV__law_by_trial dc__law_by_trial pm__law_by_trial an__law_by_trial cd__law_by_trial ct__law_by_trial), sl__law_by_trial⟩) (c__law_by_trial : PySem.W.codeIn K cd__law_by_trial "_law_by_trial" = true) (k__law_by_trial : PySem.W.keepIn K (.ref f__law_by_trial) = true)
    (a_law : PySem.W.nsIn K mainGlobals "law" = some (some (.ref f_law))) (l_law : K.lookup f_law = some ⟨oc_law, od_law, .func (PySem.W.fnOf "law" "law" (defArgs s_law) (defBody s_law) (defScope s_law) .none kV_law dc_law pm_law an_law cd_law ct_law), sl_law⟩) (c_law : PySem.W.codeIn K cd_law "law" = true) (k_law : PySem.W.keepIn K (.ref f_law) = true)
    (z_ValueError : PySem.W.nsIn K mainGlobals "ValueError" = some none)
    (z_bool : PySem.W.nsIn K mainGlobals "bool" = some none)
    (z_int : PySem.W.nsIn K mainGlobals "int" = some none)
    (z_isinstance : PySem.W.nsIn K mainGlobals "isinstance" = some none)
    (z_len : PySem.W.nsIn K mainGlobals "len" = some none)
    (z_list : PySem.W.nsIn K mainGlobals "list" = some none)
    (z_range : PySem.W.nsIn K mainGlobals "range" = some none)
    (z_str : PySem.W.nsIn K mainGlobals "str" = some none)
    (z_tuple : PySem.W.nsIn K mainGlobals "tuple" = some none)
    
    (a_NoInverse : PySem.W.nsIn K mainGlobals "NoInverse" = some (some (.ref c_NoInverse)))
    (kc_NoInverse : PySem.W.keepIn K (.ref c_NoInverse) = true)
    (s_NoInverse : PySem.W.subIn K (.ref c_NoInverse) (.type "BaseException") = some true)
    (t_NoInverse : PySem.W.typeIn K (.ref c_NoInverse) = some (.type "type"))
    (i_NoInverse : PySem.W.isClsIn K c_NoInverse = true)
    
    (a_HushError : PySem.W.nsIn K mainGlobals "HushError" = some (some (.ref c_HushError)))
    (kc_HushError : PySem.W.keepIn K (.ref c_HushError) = true)
    (s_HushError : PySem.W.subIn K (.ref c_HushError) (.type "BaseException") = some true)
    (t_HushError : PySem.W.typeIn K (.ref c_HushError) = some (.type "type"))
    (i_HushError : PySem.W.isClsIn K c_HushError = true)
    (x_NoInverse : PySem.W.excIn K c_NoInverse [.type "ValueError", .type "Exception", .type "BaseException", .type "object"] "ValueError.__new__" = true)
    (u_NoInverse : PySem.W.subIn K (.ref c_NoInverse) (.ref c_NoInverse) = some true)
    (uh_NoInverse : PySem.W.subIn K (.ref c_NoInverse) (.ref c_HushError) = some true)
    (uv_NoInverse : PySem.W.subIn K (.ref c_NoInverse) (.type "ValueError") = some true)
    (e1 : PySem.W.findIn K (.ref c_NoInverse) "__getattribute__" = some (some (.builtin "BaseException.__getattribute__")))
    (e2 : PySem.W.findIn K (.ref c_NoInverse) "__getattr__" = some none)
    (e4 : PySem.W.hasDictIn K c_NoInverse = true)
    (e5 : PySem.W.findIn K (.ref c_NoInverse) "__class__" = some (some (.builtin "object.__class__")))
    (e6 : PySem.W.specialIn K (.builtin "object.__class__") "__get__" = some (some (.builtin "getset_descriptor.__get__")))
    (e7 : PySem.W.takesIn K (.builtin "object.__class__") = some true)
    (e8 : PySem.W.mroIn K c_NoInverse (.type "object") = some true)
    : ∃ fd : FuncData, (∀ (s : Shared) (v : Value), BindsTo s fd ⟨[v], []⟩ [("script", v)]) ∧ ∀ base : Heap, K.In base → base.Ns mainGlobals mg → FnOk l.prog w K mg base CX0 6 fa fd ["script"] (spLaw K) := by
  have e := hfa.symm.trans (PySem.W.mg_of X G a_law)
  cases e
  let T : Top K mg := { f_is_prime := f_is_prime, d_is_prime := _, F_is_prime := fun_mk (st := s_is_prime) l_is_prime c_is_prime k_is_prime, m_is_prime := PySem.W.mg_of X G a_is_prime, b_is_prime := (fun_mk (st := s_is_prime) l_is_prime c_is_prime k_is_prime).binds (ps := ["n"]) (fun _ _ _ _ _ _ us hl => match us, hl with | [_], _ => rfl),
                        f_inverse := f_inverse, d_inverse := _, F_inverse := fun_mk (st := s_inverse) l_inverse c_inverse k_inverse, m_inverse := PySem.W.mg_of X G a_inverse, b_inverse := (fun_mk (st := s_inverse) l_inverse c_inverse k_inverse).binds (ps := ["a", "q"]) (fun _ _ _ _ _ _ us hl => match us, hl with | [_, _], _ => rfl),
                        f__law_mix := f__law_mix, d__law_mix := _, F__law_mix := fun_mk (st := s_Lmix) l__law_mix c__law_mix k__law_mix, m__law_mix := PySem.W.mg_of X G a__law_mix, b__law_mix := (fun_mk (st := s_Lmix) l__law_mix c__law_mix k__law_mix).binds (ps := ["cell", "salt"]) (fun _ _ _ _ _ _ us hl => match us, hl with | [_, _], _ => rfl),
                        f__law_box := f__law_box, d__law_box := _, F__law_box := fun_mk (st := s_Lbox) l__law_box c__law_box k__law_box, m__law_box := PySem.W.mg_of X G a__law_box, b__law_box := (fun_mk (st := s_Lbox) l__law_box c__law_box k__law_box).binds (ps := ["script", "at"]) (fun _ _ _ _ _ _ us hl => match us, hl with | [_, _], _ => rfl),
                        f__law_draw := f__law_draw, d__law_draw := _, F__law_draw := fun_mk (st := s_Ldraw) l__law_draw c__law_draw k__law_draw, m__law_draw := PySem.W.mg_of X G a__law_draw, b__law_draw := (fun_mk (st := s_Ldraw) l__law_draw c__law_draw k__law_draw).binds (ps := ["box", "many"]) (fun _ _ _ _ _ _ us hl => match us, hl with | [_, _], _ => rfl),
                        f__law_alike := f__law_alike, d__law_alike := _, F__law_alike := fun_mk (st := s_Lalike) l__law_alike c__law_alike k__law_alike, m__law_alike := PySem.W.mg_of X G a__law_alike, b__law_alike := (fun_mk (st := s_Lalike) l__law_alike c__law_alike k__law_alike).binds (ps := ["told", "due"]) (fun _ _ _ _ _ _ us hl => match us, hl with | [_, _], _ => rfl),
                        f__law_is_prime := f__law_is_prime, d__law_is_prime := _, F__law_is_prime := fun_mk (st := s_Lis_prime) l__law_is_prime c__law_is_prime k__law_is_prime, m__law_is_prime := PySem.W.mg_of X G a__law_is_prime, b__law_is_prime := (fun_mk (st := s_Lis_prime) l__law_is_prime c__law_is_prime k__law_is_prime).binds (ps := ["n"]) (fun _ _ _ _ _ _ us hl => match us, hl with | [_], _ => rfl),
                        f__law_prime := f__law_prime, d__law_prime := _, F__law_prime := fun_mk (st := s_Lprime) l__law_prime c__law_prime k__law_prime, m__law_prime := PySem.W.mg_of X G a__law_prime, b__law_prime := (fun_mk (st := s_Lprime) l__law_prime c__law_prime k__law_prime).binds (ps := ["box", "low", "high"]) (fun _ _ _ _ _ _ us hl => match us, hl with | [_, _, _], _ => rfl),
                        f__law_great := f__law_great, d__law_great := _, F__law_great := fun_mk (st := s_Lgreat) l__law_great c__law_great k__law_great, m__law_great := PySem.W.mg_of X G a__law_great, b__law_great := (fun_mk (st := s_Lgreat) l__law_great c__law_great k__law_great).binds (ps := ["box"]) (fun _ _ _ _ _ _ us hl => match us, hl with | [_], _ => rfl),
                        f__law_asked := f__law_asked, d__law_asked := _, F__law_asked := fun_mk (st := s_Lasked) l__law_asked c__law_asked k__law_asked, m__law_asked := PySem.W.mg_of X G a__law_asked, b__law_asked := (fun_mk (st := s_Lasked) l__law_asked c__law_asked k__law_asked).binds (ps := ["a", "q"]) (fun _ _ _ _ _ _ us hl => match us, hl with | [_, _], _ => rfl),
                        f__law_due := f__law_due, d__law_due := _, F__law_due := fun_mk (st := s_Ldue) l__law_due c__law_due k__law_due, m__law_due := PySem.W.mg_of X G a__law_due, b__law_due := (fun_mk (st := s_Ldue) l__law_due c__law_due k__law_due).binds (ps := ["a", "q"]) (fun _ _ _ _ _ _ us hl => match us, hl with | [_, _], _ => rfl),
                        f__law_right := f__law_right, d__law_right := _, F__law_right := fun_mk (st := s_Lright) l__law_right c__law_right k__law_right, m__law_right := PySem.W.mg_of X G a__law_right, b__law_right := (fun_mk (st := s_Lright) l__law_right c__law_right k__law_right).binds (ps := ["a", "q"]) (fun _ _ _ _ _ _ us hl => match us, hl with | [_, _], _ => rfl),
                        f__law_by_trial := f__law_by_trial, d__law_by_trial := _, F__law_by_trial := fun_mk (st := s_Lby_trial) l__law_by_trial c__law_by_trial k__law_by_trial, m__law_by_trial := PySem.W.mg_of X G a__law_by_trial, b__law_by_trial := (fun_mk (st := s_Lby_trial) l__law_by_trial c__law_by_trial k__law_by_trial).binds (ps := ["n"]) (fun _ _ _ _ _ _ us hl => match us, hl with | [_], _ => rfl),
                        f_law := fa, d_law := _, F_law := fun_mk (st := s_law) l_law c_law k_law, m_law := PySem.W.mg_of X G a_law, b_law := (fun_mk (st := s_law) l_law c_law k_law).binds (ps := ["script"]) (fun _ _ _ _ _ _ us hl => match us, hl with | [_], _ => rfl),
                        k_inverse_0_a_q := fun_kbinds (fun_mk (st := s_inverse) l_inverse c_inverse k_inverse) g_inverse_0_a_q_rel (fun _ _ _ _ _ _ us ws hl => match us, ws, hl with | [], [_, _], _ => rfl),
                        k_is_prime_0_n := fun_kbinds (fun_mk (st := s_is_prime) l_is_prime c_is_prime k_is_prime) g_is_prime_0_n_rel (fun _ _ _ _ _ _ us ws hl => match us, ws, hl with | [], [_], _ => rfl),
                        z_ValueError := PySem.W.mg_none_of X G z_ValueError,
                        z_bool := PySem.W.mg_none_of X G z_bool,
                        z_int := PySem.W.mg_none_of X G z_int,
                        z_isinstance := PySem.W.mg_none_of X G z_isinstance,
                        z_len := PySem.W.mg_none_of X G z_len,
                        z_list := PySem.W.mg_none_of X G z_list,
                        z_range := PySem.W.mg_none_of X G z_range,
                        z_str := PySem.W.mg_none_of X G z_str,
                        z_tuple := PySem.W.mg_none_of X G z_tuple,
                        c_NoInverse := c_NoInverse,
                        m_NoInverse := PySem.W.mg_of X G a_NoInverse,
                        kc_NoInverse := kc_NoInverse,
                        s_NoInverse := s_NoInverse,
                        t_NoInverse := t_NoInverse,
                        i_NoInverse := i_NoInverse,
                        c_HushError := c_HushError,
                        m_HushError := PySem.W.mg_of X G a_HushError,
                        kc_HushError := kc_HushError,
                        s_HushError := s_HushError,
                        t_HushError := t_HushError,
                        i_HushError := i_HushError,
                        x_NoInverse := x_NoInverse,
                        u_NoInverse := u_NoInverse,
                        uh_NoInverse := uh_NoInverse,
                        uv_NoInverse := uv_NoInverse,
                        xc_NoInverse := ⟨e1, e2, s_NoInverse, e4, e5, e6, e7, e8⟩ }
  refine ⟨T.d_law, fun s v => .of_eq rfl, fun base _ _ => ?_⟩
  exact ok_law T
theorem walk {l : PySem.W.OpenLaw} {q : Program} {loose : List Str} {XP : (Str → Option Value) → Heap → Prop} {YP : World → Heap → Prop} {d : DefRec} {K : Params → PySem.W.Frag} (hn : l.most = some 63) (hdf : d.params.defaults = [])
    (hY : ∀ (w : World) (h : Heap), YP w h → (K w.params).In h)
    (F : ∀ (w : World) (mg : Str → Option Value) (fa : Addr) (h : Heap), (K w.params).In h → h.Ns mainGlobals mg → mg d.name = some (.ref fa) →
      ∃ fd : FuncData, (∀ (s : Shared) (u : Value), BindsTo s fd ⟨[u], []⟩ [("script", u)]) ∧ ∀ base : Heap, (K w.params).In base → base.Ns mainGlobals mg → FnOk l.prog w (K w.params) mg base CX0 6 fa fd ["script"] (spLaw (K w.params))) :
    PySem.W.WalkO q loose XP YP l.row.toRowW d [] (fun f vs => PySem.call f vs) :=
  L2.walk_of (n := 63) (k := 6) (x := "script") (CX := fun _ => CX0) (sp := fun w => spLaw (K w.params)) hn (by decide) hdf ⟨rfl, by decide, by decide⟩ hY F (fun _ _ a ns hl _ hS => ⟨a, ns, rfl, hS, hl, fun _ => rfl⟩) fun _ _ _ _ _ z => z
end Toy
open PySem PySem.W PyProof.Rows
set_option maxRecDepth 100000 in
set_option maxHeartbeats 0 in
theorem PySem.Challenge.cw_hushpapers_k01_inverses_holds : PySem.Challenge.rw_hushpapers_k01_inverses.Holds := by
  w_on; o_law; k_head; (case hw => w_witness2)
  k_fill
  refine Toy.walk (l := PySem.Challenge.rw_hushpapers_k01_inverses) rfl rfl (fun w h Y => PySem.W.kIn_of Y) ?F
  case F =>
    intro w mg fa h KX G hmg
    refine' Toy.all_mk KX G hmg ?a_is_prime ?l_is_prime ?c_is_prime ?k_is_prime ?a_inverse ?l_inverse ?c_inverse ?k_inverse ?a__law_mix ?l__law_mix ?c__law_mix ?k__law_mix ?a__law_box ?l__law_box ?c__law_box ?k__law_box ?a__law_draw ?l__law_draw ?c__law_draw ?k__law_draw ?a__law_alike ?l__law_alike ?c__law_alike ?k__law_alike ?a__law_is_prime ?l__law_is_prime ?c__law_is_prime ?k__law_is_prime ?a__law_prime ?l__law_prime ?c__law_prime ?k__law_prime ?a__law_great ?l__law_great ?c__law_great ?k__law_great ?a__law_asked ?l__law_asked ?c__law_asked ?k__law_asked ?a__law_due ?l__law_due ?c__law_due ?k__law_due ?a__law_right ?l__law_right ?c__law_right ?k__law_right ?a__law_by_trial ?l__law_by_trial ?c__law_by_trial ?k__law_by_trial ?a_law ?l_law ?c_law ?k_law ?z_ValueError ?z_bool ?z_int ?z_isinstance ?z_len ?z_list ?z_range ?z_str ?z_tuple ?a_NoInverse ?kc_NoInverse ?s_NoInverse ?t_NoInverse ?i_NoInverse ?a_HushError ?kc_HushError ?s_HushError ?t_HushError ?i_HushError ?x_NoInverse ?u_NoInverse ?uh_NoInverse ?uv_NoInverse ?e1 ?e2 ?e4 ?e5 ?e6 ?e7 ?e8
    (case a_is_prime => k_is)
    (case l_is_prime => k_is)
    (case c_is_prime => k_is)
    (case k_is_prime => k_is)
    (case a_inverse => k_is)
    (case l_inverse => k_is)
    (case c_inverse => k_is)
    (case k_inverse => k_is)
    (case a__law_mix => k_is)
    (case l__law_mix => k_is)
    (case c__law_mix => k_is)
    (case k__law_mix => k_is)
    (case a__law_box => k_is)
    (case l__law_box => k_is)
    (case c__law_box => k_is)
    (case k__law_box => k_is)
    (case a__law_draw => k_is)
    (case l__law_draw => k_is)
    (case c__law_draw => k_is)
    (case k__law_draw => k_is)
    (case a__law_alike => k_is)
    (case l__law_alike => k_is)
    (case c__law_alike => k_is)
    (case k__law_alike => k_is)
    (case a__law_is_prime => k_is)
    (case l__law_is_prime => k_is)
    (case c__law_is_prime => k_is)
    (case k__law_is_prime => k_is)
    (case a__law_prime => k_is)
    (case l__law_prime => k_is)
    (case c__law_prime => k_is)
    (case k__law_prime => k_is)
    (case a__law_great => k_is)
    (case l__law_great => k_is)
    (case c__law_great => k_is)
    (case k__law_great => k_is)
    (case a__law_asked => k_is)
    (case l__law_asked => k_is)
    (case c__law_asked => k_is)
    (case k__law_asked => k_is)
    (case a__law_due => k_is)
    (case l__law_due => k_is)
    (case c__law_due => k_is)
    (case k__law_due => k_is)
    (case a__law_right => k_is)
    (case l__law_right => k_is)
    (case c__law_right => k_is)
    (case k__law_right => k_is)
    (case a__law_by_trial => k_is)
    (case l__law_by_trial => k_is)
    (case c__law_by_trial => k_is)
    (case k__law_by_trial => k_is)
    (case a_law => k_is)
    (case l_law => k_is)
    (case c_law => k_is)
    (case k_law => k_is)
    (case z_ValueError => k_is)
    (case z_bool => k_is)
    (case z_int => k_is)
    (case z_isinstance => k_is)
    (case z_len => k_is)
    (case z_list => k_is)
    (case z_range => k_is)
    (case z_str => k_is)
    (case z_tuple => k_is)
    (case a_NoInverse => k_is)
    (case kc_NoInverse => k_is)
    (case s_NoInverse => k_is)
    (case t_NoInverse => k_is)
    (case i_NoInverse => k_is)
    (case a_HushError => k_is)
    (case kc_HushError => k_is)
    (case s_HushError => k_is)
    (case t_HushError => k_is)
    (case i_HushError => k_is)
    (case x_NoInverse => k_exc)
    (case u_NoInverse => k_is)
    (case uh_NoInverse => k_is)
    (case uv_NoInverse => k_is)
    (case e1 => k_is)
    (case e2 => k_is)
    (case e4 => k_is)
    (case e5 => k_is)
    (case e6 => k_is)
    (case e7 => k_is)
    (case e8 => k_is)
