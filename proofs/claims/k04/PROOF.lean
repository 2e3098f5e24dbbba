import PyProof.Rows.All
import Wide.All
import OpenK.AllK
import Wide.FinOn
import HandS.ForMost
import HandS.Wide
import HandS.IsInst
import HandS.Gcd
import HandS.NoneIn
import PySem.Challenge.RW_hushpapers_k04_ratios
set_option Elab.async false
set_option maxRecDepth 100000
set_option maxHeartbeats 4000000
namespace Toy
open PySem L2
def top (i : Nat) : Stmt := PySem.Challenge.pw_hushpapers_k04_ratios.main.body.getD i (.Pass ⟨0, 0, 0, 0⟩)
abbrev s_ratio : Stmt := top 2
theorem scratio : FnScope ["top", "bottom", "common"] ["top", "bottom"] (defScope s_ratio) := ⟨rfl, rfl, rfl, by decide +kernel, rfl, by decide +kernel, by decide +kernel⟩
abbrev s_add_ratios : Stmt := top 3
theorem scadd_ratios : FnScope ["first", "second"] ["first", "second"] (defScope s_add_ratios) := ⟨rfl, rfl, rfl, by decide +kernel, rfl, by decide +kernel, by decide +kernel⟩
abbrev s_multiply_ratios : Stmt := top 4
theorem scmultiply_ratios : FnScope ["first", "second"] ["first", "second"] (defScope s_multiply_ratios) := ⟨rfl, rfl, rfl, by decide +kernel, rfl, by decide +kernel, by decide +kernel⟩
abbrev s_at_most : Stmt := top 5
theorem scat_most : FnScope ["first", "second"] ["first", "second"] (defScope s_at_most) := ⟨rfl, rfl, rfl, by decide +kernel, rfl, by decide +kernel, by decide +kernel⟩
abbrev s_Lmix : Stmt := top 7
theorem scLmix : FnScope ["cell", "salt", "one"] ["cell", "salt"] (defScope s_Lmix) := ⟨rfl, rfl, rfl, by decide +kernel, rfl, by decide +kernel, by decide +kernel⟩
abbrev s_Lbox : Stmt := top 8
theorem scLbox : FnScope ["script", "at", "cell"] ["script", "at"] (defScope s_Lbox) := ⟨rfl, rfl, rfl, by decide +kernel, rfl, by decide +kernel, by decide +kernel⟩
abbrev s_Ldraw : Stmt := top 9
theorem scLdraw : FnScope ["box", "many", "cell", "drawn"] ["box", "many"] (defScope s_Ldraw) := ⟨rfl, rfl, rfl, by decide +kernel, rfl, by decide +kernel, by decide +kernel⟩
abbrev s_Lalike : Stmt := top 10
theorem scLalike : FnScope ["told", "due", "k"] ["told", "due"] (defScope s_Lalike) := ⟨rfl, rfl, rfl, by decide +kernel, rfl, by decide +kernel, by decide +kernel⟩
abbrev s_Lgreat : Stmt := top 11
theorem scLgreat : FnScope ["box", "size", "number", "k"] ["box"] (defScope s_Lgreat) := ⟨rfl, rfl, rfl, by decide +kernel, rfl, by decide +kernel, by decide +kernel⟩
abbrev s_Lcommon : Stmt := top 12
theorem scLcommon : FnScope ["a", "b", "turn"] ["a", "b"] (defScope s_Lcommon) := ⟨rfl, rfl, rfl, by decide +kernel, rfl, by decide +kernel, by decide +kernel⟩
abbrev s_Llowest : Stmt := top 13
theorem scLlowest : FnScope ["top", "bottom", "common"] ["top", "bottom"] (defScope s_Llowest) := ⟨rfl, rfl, rfl, by decide +kernel, rfl, by decide +kernel, by decide +kernel⟩
abbrev s_Lnumber : Stmt := top 14
theorem scLnumber : FnScope ["box", "least"] ["box", "least"] (defScope s_Lnumber) := ⟨rfl, rfl, rfl, by decide +kernel, rfl, by decide +kernel, by decide +kernel⟩
abbrev s_Lpair : Stmt := top 15
theorem scLpair : FnScope ["box", "top", "bottom", "kind", "common"] ["box"] (defScope s_Lpair) := ⟨rfl, rfl, rfl, by decide +kernel, rfl, by decide +kernel, by decide +kernel⟩
abbrev s_Ltwo : Stmt := top 16
theorem scLtwo : FnScope ["one", "other", "a", "b", "total", "product"] ["one", "other"] (defScope s_Ltwo) := ⟨rfl, rfl, rfl, by decide +kernel, rfl, by decide +kernel, by decide +kernel⟩
abbrev s_Lnear : Stmt := top 17
theorem scLnear : FnScope ["box", "one", "top", "bottom", "more", "wider"] ["box", "one"] (defScope s_Lnear) := ⟨rfl, rfl, rfl, by decide +kernel, rfl, by decide +kernel, by decide +kernel⟩
abbrev s_law : Stmt := top 18
theorem sclaw : FnScope ["script", "box", "far", "pairs", "pair", "told", "one", "other", "third", "sums", "parts", "whole"] ["script"] (defScope s_law) := ⟨rfl, rfl, rfl, by decide +kernel, rfl, by decide +kernel, by decide +kernel⟩
/-! ### calls by keywords alone -/
section
open PySem.Spec PyProof.Rows
variable {X : Cx} {CX : CXT} {k : Nat} {f : Addr} {fd : FuncData} {ps ks : List Str} {sp : Sp} {E : XK} {x : Str} {p pos : Pos} {kws : List Keyword} {tk : TA} {g : List Value → List Value → List Value} {gV : List V → List V → List V}
theorem pe_callK0 (F : FnOk X.prog X.w X.K X.mg X.base CX k f fd ps sp) (hr : Room k X.A) (hg : Gl X x) (hm : X.mg x = some (.ref f)) (hk : PySem.W.keepIn X.K (.ref f) = true) (hb : KBinds X.K fd ps ks g gV) (hx : Passes CX X E)
    (hkw : PK X kws tk) (hall : (backToKw pos (keywordEach kws X.env)).all (·.1.isSome) = true := by rfl) (hks : (backToKw pos (keywordEach kws X.env)).filterMap (·.1) = ks := by rfl)
    (hdb : (x == ("__debug__" : Str)) = false := by decide)
    (hpl : ((backTo pos (starEach [] X.env)).any (·.1) || (backToKw pos (keywordEach kws X.env)).any (·.1.isNone)) = false := by rfl) :
    PE X (.Call (.Name x p) [] kws pos) (tCallK sp gV E tNil tk) := by
  refine ⟨fun pins s σ H Q I h => ?_⟩
  refine wpAny_Call_Name_kw (ld_glob I hg hm ?_ hdb)
  refine PySem.W.callWith_KW0 (h₀ := X.base) I.ok.mod.kin hk hall ?_ hpl
  refine thn (hkw.run pos pins s σ H _ I h) fun ws s2 ⟨zs, H2, I2, rz, q2⟩ => ⟨I2.kIn, ?_⟩
  rw [hks]
  exact run_fnk (us := []) (vs := []) F hr hb hx I2 .nil rz q2
end
theorem fun_kbinds {K : PySem.W.Frag} {x qual : Str} {st : Stmt} {f : Addr} {fd : FuncData} {ps ks : List Str} {g : List Value → List Value → List Value} {gV : List V → List V → List V} (F : Fun K x qual st f fd)
    (hrel : ∀ {vs : List V} {us : List Value} {zs : List V} {ws : List Value}, Vals vs us → Vals zs ws → Vals (gV vs zs) (g us ws))
    (h : ∀ (kV doc pm : Value) (an : Option Addr) (cdv ct : Value) (us ws : List Value), (g us ws).length = ps.length → bindArgs (PySem.W.fnOf x qual (defArgs st) (defBody st) (defScope st) .none kV doc pm an cdv ct) ⟨us, ks.zip ws⟩ = pure (ps.zip (g us ws))) : KBinds K fd ps ks g gV := by
  obtain ⟨oc, od, kV, doc, pm, an, cdv, ct, osl, rfl, lk, hcd⟩ := F.ex
  exact ⟨fun s us ws _ hl => .of_eq (h kV doc pm an cdv ct us ws hl), hrel⟩
def g_add_ratios_0_second_first {α : Type} (us ws : List α) : List α := match us, ws with | [], [w0, w1] => [w1, w0] | _, _ => []
theorem g_add_ratios_0_second_first_rel {vs : List V} {us : List Value} {zs : List V} {ws : List Value} (r : Vals vs us) (q : Vals zs ws) : Vals (g_add_ratios_0_second_first vs zs) (g_add_ratios_0_second_first us ws) := by
  unfold g_add_ratios_0_second_first
  split
  · match r, q with | .nil, (.cons q0 (.cons q1 .nil)) => exact (.cons q1 (.cons q0 .nil))
  · next h =>
    split
    · match r, q with | .nil, (.cons q0 (.cons q1 .nil)) => exact (h _ _ rfl rfl).elim
    · exact .nil
theorem g_add_ratios_0_second_first_rel' : True := True.intro
def g_at_most_0_second_first {α : Type} (us ws : List α) : List α := match us, ws with | [], [w0, w1] => [w1, w0] | _, _ => []
theorem g_at_most_0_second_first_rel {vs : List V} {us : List Value} {zs : List V} {ws : List Value} (r : Vals vs us) (q : Vals zs ws) : Vals (g_at_most_0_second_first vs zs) (g_at_most_0_second_first us ws) := by
  unfold g_at_most_0_second_first
  split
  · match r, q with | .nil, (.cons q0 (.cons q1 .nil)) => exact (.cons q1 (.cons q0 .nil))
  · next h =>
    split
    · match r, q with | .nil, (.cons q0 (.cons q1 .nil)) => exact (h _ _ rfl rfl).elim
    · exact .nil
theorem g_at_most_0_second_first_rel' : True := True.intro
def g_multiply_ratios_0_second_first {α : Type} (us ws : List α) : List α := match us, ws with | [], [w0, w1] => [w1, w0] | _, _ => []
theorem g_multiply_ratios_0_second_first_rel {vs : List V} {us : List Value} {zs : List V} {ws : List Value} (r : Vals vs us) (q : Vals zs ws) : Vals (g_multiply_ratios_0_second_first vs zs) (g_multiply_ratios_0_second_first us ws) := by
  unfold g_multiply_ratios_0_second_first
  split
  · match r, q with | .nil, (.cons q0 (.cons q1 .nil)) => exact (.cons q1 (.cons q0 .nil))
  · next h =>
    split
    · match r, q with | .nil, (.cons q0 (.cons q1 .nil)) => exact (h _ _ rfl rfl).elim
    · exact .nil
theorem g_multiply_ratios_0_second_first_rel' : True := True.intro
def g_ratio_0_bottom_top {α : Type} (us ws : List α) : List α := match us, ws with | [], [w0, w1] => [w1, w0] | _, _ => []
theorem g_ratio_0_bottom_top_rel {vs : List V} {us : List Value} {zs : List V} {ws : List Value} (r : Vals vs us) (q : Vals zs ws) : Vals (g_ratio_0_bottom_top vs zs) (g_ratio_0_bottom_top us ws) := by
  unfold g_ratio_0_bottom_top
  split
  · match r, q with | .nil, (.cons q0 (.cons q1 .nil)) => exact (.cons q1 (.cons q0 .nil))
  · next h =>
    split
    · match r, q with | .nil, (.cons q0 (.cons q1 .nil)) => exact (h _ _ rfl rfl).elim
    · exact .nil
theorem g_ratio_0_bottom_top_rel' : True := True.intro
structure Top (K : PySem.W.Frag) (mg : Str → Option Value) where
  f_ratio : Addr
  d_ratio : FuncData
  F_ratio : Fun K "ratio" "ratio" s_ratio f_ratio d_ratio
  m_ratio : mg "ratio" = some (.ref f_ratio)
  b_ratio : Binds K d_ratio ["top", "bottom"] []
  f_add_ratios : Addr
  d_add_ratios : FuncData
  F_add_ratios : Fun K "add_ratios" "add_ratios" s_add_ratios f_add_ratios d_add_ratios
  m_add_ratios : mg "add_ratios" = some (.ref f_add_ratios)
  b_add_ratios : Binds K d_add_ratios ["first", "second"] []
  f_multiply_ratios : Addr
  d_multiply_ratios : FuncData
  F_multiply_ratios : Fun K "multiply_ratios" "multiply_ratios" s_multiply_ratios f_multiply_ratios d_multiply_ratios
  m_multiply_ratios : mg "multiply_ratios" = some (.ref f_multiply_ratios)
  b_multiply_ratios : Binds K d_multiply_ratios ["first", "second"] []
  f_at_most : Addr
  d_at_most : FuncData
  F_at_most : Fun K "at_most" "at_most" s_at_most f_at_most d_at_most
  m_at_most : mg "at_most" = some (.ref f_at_most)
  b_at_most : Binds K d_at_most ["first", "second"] []
  f__law_mix : Addr
  d__law_mix : FuncData
  F__law_mix : Fun K "_law_mix" "_law_mix" s_Lmix f__law_mix d__law_mix
  m__law_mix : mg "_law_mix" = some (.ref f__law_mix)
  b__law_mix : Binds K d__law_mix ["cell", "salt"] []
  f__law_box : Addr
  d__law_box : FuncData
  F__law_box : Fun K "_law_box" "_law_box" s_Lbox f__law_box d__law_box
  m__law_box : mg "_law_box" = some (.ref f__law_box)
  b__law_box : Binds K d__law_box ["script", "at"] []
  f__law_draw : Addr
  d__law_draw : FuncData
  F__law_draw : Fun K "_law_draw" "_law_draw" s_Ldraw f__law_draw d__law_draw
  m__law_draw : mg "_law_draw" = some (.ref f__law_draw)
  b__law_draw : Binds K d__law_draw ["box", "many"] []
  f__law_alike : Addr
  d__law_alike : FuncData
  F__law_alike : Fun K "_law_alike" "_law_alike" s_Lalike f__law_alike d__law_alike
  m__law_alike : mg "_law_alike" = some (.ref f__law_alike)
  b__law_alike : Binds K d__law_alike ["told", "due"] []
  f__law_great : Addr
  d__law_great : FuncData
  F__law_great : Fun K "_law_great" "_law_great" s_Lgreat f__law_great d__law_great
  m__law_great : mg "_law_great" = some (.ref f__law_great)
  b__law_great : Binds K d__law_great ["box"] []
  f__law_common : Addr
  d__law_common : FuncData
  F__law_common : Fun K "_law_common" "_law_common" s_Lcommon f__law_common d__law_common
  m__law_common : mg "_law_common" = some (.ref f__law_common)
  b__law_common : Binds K d__law_common ["a", "b"] []
  f__law_lowest : Addr
  d__law_lowest : FuncData
  F__law_lowest : Fun K "_law_lowest" "_law_lowest" s_Llowest f__law_lowest d__law_lowest
  m__law_lowest : mg "_law_lowest" = some (.ref f__law_lowest)
  b__law_lowest : Binds K d__law_lowest ["top", "bottom"] []
  f__law_number : Addr
  d__law_number : FuncData
  F__law_number : Fun K "_law_number" "_law_number" s_Lnumber f__law_number d__law_number
  m__law_number : mg "_law_number" = some (.ref f__law_number)
  b__law_number : Binds K d__law_number ["box", "least"] []
  f__law_pair : Addr
  d__law_pair : FuncData
  F__law_pair : Fun K "_law_pair" "_law_pair" s_Lpair f__law_pair d__law_pair
  m__law_pair : mg "_law_pair" = some (.ref f__law_pair)
  b__law_pair : Binds K d__law_pair ["box"] []
  f__law_two : Addr
  d__law_two : FuncData
  F__law_two : Fun K "_law_two" "_law_two" s_Ltwo f__law_two d__law_two
  m__law_two : mg "_law_two" = some (.ref f__law_two)
  b__law_two : Binds K d__law_two ["one", "other"] []
  f__law_near : Addr
  d__law_near : FuncData
  F__law_near : Fun K "_law_near" "_law_near" s_Lnear f__law_near d__law_near
  m__law_near : mg "_law_near" = some (.ref f__law_near)
  b__law_near : Binds K d__law_near ["box", "one"] []
  f_law : Addr
  d_law : FuncData
  F_law : Fun K "law" "law" s_law f_law d_law
  m_law : mg "law" = some (.ref f_law)
  b_law : Binds K d_law ["script"] []
  k_add_ratios_0_second_first : KBinds K d_add_ratios ["first", "second"] ["second", "first"] (g_add_ratios_0_second_first) (g_add_ratios_0_second_first)
  k_at_most_0_second_first : KBinds K d_at_most ["first", "second"] ["second", "first"] (g_at_most_0_second_first) (g_at_most_0_second_first)
  k_multiply_ratios_0_second_first : KBinds K d_multiply_ratios ["first", "second"] ["second", "first"] (g_multiply_ratios_0_second_first) (g_multiply_ratios_0_second_first)
  k_ratio_0_bottom_top : KBinds K d_ratio ["top", "bottom"] ["bottom", "top"] (g_ratio_0_bottom_top) (g_ratio_0_bottom_top)
  z_abs : mg "abs" = none
  z_bool : mg "bool" = none
  z_int : mg "int" = none
  z_isinstance : mg "isinstance" = none
  z_len : mg "len" = none
  z_list : mg "list" = none
  z_range : mg "range" = none
  z_str : mg "str" = none
  z_tuple : mg "tuple" = none
  m_gcd : mg "gcd" = some (.builtin "math.gcd")
/-! ### lookups, steps -/
theorem iteE {c : Prop} [Decidable c] {A B : Prop} (h1 : c → A) (h2 : ¬ c → B) : if c then A else B := ite2 h1 h2
theorem fm {x m : Int} (h : 0 < m) : 0 ≤ x.fmod m ∧ x.fmod m < m := ⟨Int.fmod_nonneg_of_pos x h, Int.fmod_lt_of_pos x h⟩
def Keep (b : Addr) (H H' : Hp) : Prop := ∀ a o, H a = some o → a ≠ b → H' a = some o
theorem Keep.refl {b : Addr} (H : Hp) : Keep b H H := fun _ _ h _ => h
theorem Keep.trans {b : Addr} {H H1 H2 : Hp} (a : Keep b H H1) (k : Keep b H1 H2) : Keep b H H2 := fun c o h n => k c o (a c o h n) n
theorem Keep.of {b : Addr} {H H1 : Hp} (a : Same H H1) : Keep b H H1 := fun c o h _ => a c o h
theorem Keep.put {b : Addr} {H H1 : Hp} {o : HO} (a : Keep b H H1) : Keep b H (upd H1 b o) := fun c u h n => by
  rw [upd_ne n]
  exact a c u h n
theorem same_new {H : Hp} {p : Addr} (h : H p = none) (o : HO) : Same H (upd H p o) := fun b u q => by rw [upd_ne (ne_of_none q h)]; exact q
theorem Same.fr {H H' : Hp} (e : Same H H') {l : Addr} (h : H' l = Option.none) : H l = Option.none := e.free h
/-- a box: five ints and the list of the cells -/
structure BoxAt (H : Hp) (b c : Addr) : Prop where
  ne : b ≠ c
  ex : ∃ (cs : List Int) (x0 x1 x2 x3 x4 : Int), 0 ≤ x2 ∧ H b = some (.lst [.int x0, .int x1, .int x2, .int x3, .int x4, .ref c]) ∧ H c = some (.lst (cs.map V.int))
theorem BoxAt.mk1 {H : Hp} {b c : Addr} {cs : List Int} {x0 x1 x2 x3 x4 : Int} (hb : H b = some (.lst [.int x0, .int x1, .int x2, .int x3, .int x4, .ref c])) (hc : H c = some (.lst (cs.map V.int))) (h2 : 0 ≤ x2) (ne : b ≠ c) : BoxAt H b c :=
  ⟨ne, cs, x0, x1, x2, x3, x4, h2, hb, hc⟩
theorem BoxAt.keep {H H' : Hp} {b c d : Addr} (B : BoxAt H b c) (k : Keep d H H') (h1 : b ≠ d) (h2 : c ≠ d) : BoxAt H' b c := by
  obtain ⟨ne, cs, x0, x1, x2, x3, x4, h, hb, hc⟩ := B
  exact ⟨ne, cs, x0, x1, x2, x3, x4, h, k _ _ hb h1, k _ _ hc h2⟩
theorem BoxAt.same {H H' : Hp} {b c : Addr} (B : BoxAt H b c) (k : Same H H') : BoxAt H' b c := by
  obtain ⟨ne, cs, x0, x1, x2, x3, x4, h, hb, hc⟩ := B
  exact ⟨ne, cs, x0, x1, x2, x3, x4, h, k _ _ hb, k _ _ hc⟩
theorem BoxAt.got {H : Hp} {b c : Addr} (B : BoxAt H b c) : ∃ o, H b = some o := by
  obtain ⟨ne, cs, x0, x1, x2, x3, x4, h, hb, hc⟩ := B
  exact ⟨_, hb⟩
/-- nothing is new ahead of what a box's change leaves new -/
theorem Keep.fr {b c : Addr} {H H' : Hp} (k : Keep b H H') (B : BoxAt H' b c) {p : Addr} (h : H' p = Option.none) : H p = Option.none := by
  cases q : H p with
  | none => rfl
  | some o =>
    obtain ⟨u, hu⟩ := B.got
    have n : p ≠ b := by
      intro e
      rw [e, hu] at h
      cases h
    rw [k p o q n] at h
    cases h
theorem atI_cell' {ns : List Int} {i : Int} (h0 : 0 ≤ i) (h : i < ns.length) : ∃ v : Int, atI (ns.map V.int) i = some (.int v) := by
  have hk : i.toNat < ns.length := by omega
  have ei : i = ((i.toNat : Nat) : Int) := by omega
  refine ⟨ns[i.toNat], ?_⟩
  have q : atI (ns.map V.int) ((i.toNat : Nat) : Int) = some (.int ns[i.toNat]) := atI_nat (by rw [List.getElem?_map]; simp [List.getElem?_eq_getElem hk])
  rwa [← ei] at q
theorem atI0 {xs : List V} {i : Nat} {v : V} (h : xs[i]? = some v) : atI xs (0 + (i : Int)) = some v := by
  rw [Int.zero_add]
  exact atI_nat h
local macro_rules | `(tactic| walk_at "lk") => `(tactic| first
  | assumption | exact upd_same
  | (rw [upd_ne (by assumption)]; walk_at "lk")
  | (rw [upd_ne (Ne.symm (by assumption))]; walk_at "lk"))
local macro_rules | `(tactic| walk_at "kp") => `(tactic| first | exact Keep.refl _ | (refine Keep.put ?_; walk_at "kp"))
local macro_rules | `(tactic| walk_at "s") => `(tactic| first
  | refine ⟨_, rfl, ?_⟩
  | refine ⟨_, _, rfl, rfl, ?_⟩
  | refine And.intro rfl ?_
  | refine And.intro (Or.inr ⟨by decide, by decide⟩) ?_
  | refine And.intro (Or.inl ⟨by decide, by decide⟩) ?_
  | refine And.intro (Or.inl ⟨by omega, by omega⟩) ?_
  | refine And.intro ⟨by decide, by decide, by decide⟩ ?_
  | refine And.intro ⟨by omega, by omega⟩ ?_
  | refine And.intro (Nat.le_of_lt (small1000 (by simp only [List.length_cons, List.length_nil]; decide))) ?_
  | refine And.intro (by first | decide | (dsimp only; decide) | omega | (dsimp only; omega)) ?_
  | refine Or.inl ⟨_, rfl, ?_⟩
  | refine ⟨_, _, _, _, rfl, rfl, SqL.of (by walk_at "lk"), by rfl, ?_⟩
  | refine ⟨_, _, _, _, rfl, rfl, SqT.of (by walk_at "lk"), by rfl, ?_⟩
  | refine ⟨_, _, _, _, rfl, rfl, by walk_at "lk", by rfl, ?_⟩
  | refine ⟨_, _, rfl, .inl (SqL.of (by walk_at "lk")), ?_⟩
  | refine ⟨_, _, rfl, .inr (SqT.of (by walk_at "lk")), ?_⟩)
local macro_rules | `(tactic| walk_at "ss") => `(tactic| repeat (walk_at "s"))
local macro_rules | `(tactic| walk_at "s1") => `(tactic| first
  | refine ⟨_, _, _, _, _, rfl, .ty _, .base (by first | exact .int _ | exact .bl _ | exact .non | exact .str _ | exact .tup (by assumption) | exact .lst (by assumption)), kit_ty (r := false) (by decide +kernel), ?_⟩
  | refine ⟨_, _, _, _, _, rfl, .ty _, .base (by first | exact .int _ | exact .bl _ | exact .non | exact .str _ | exact .tup (by assumption) | exact .lst (by assumption)), kit_ty (r := true) (by decide +kernel), ?_⟩
  | walk_at "s")
local macro_rules | `(tactic| walk_at "sa") => `(tactic| repeat (walk_at "s1"))
/-! ### the law's own draws -/
def spMix : Sp := fun vs H Q _ => ∃ c s : Int, vs = [.int c, .int s] ∧ ∀ r : Int, 0 ≤ r → Q (.int r) H
def spDraw : Sp := fun vs H Q _ => ∃ (b c : Addr) (m : Int), vs = [.ref b, .int m] ∧ BoxAt H b c ∧ 0 < m ∧ m < 1073741824 ∧
  ∀ (r : Int) (H' : Hp), 0 ≤ r → r < m → BoxAt H' b c → Keep b H H' → Q (.int r) H'
section
variable {P : Program} {w : World} {K : PySem.W.Frag} {mg : Str → Option Value} {base : Heap}
theorem ok_mix (T : Top K mg) : FnOk P w K mg base CX0 1 T.f__law_mix T.d__law_mix ["cell", "salt"] spMix := by
  refine T.F__law_mix.ok scLmix (fun vs H Q E h => ?_) (fun cdv A outer s H vs Q E hr h => ?_)
  · obtain ⟨_, _, rfl, _⟩ := h
    rfl
  obtain ⟨c, z, rfl, q⟩ := h
  refine ⟨_, (pss_cons (ps_set (i := 2) scLmix.nd rfl (Or.inl rfl) (pe_op op_modN (pe_callTy call_int1 (by rfl) T.z_int (by decide +kernel) (pa_cons (pe_op op_add (pe_op op_add (pe_op op_mul (pv 0) pe_int) (pe_op op_mul (pv 1) pe_int)) pe_int) pa_nil)) pe_int))
      (pss_one (ps_ret (pe_op op_modN (pe_callTy call_int1 (by rfl) T.z_int (by decide +kernel) (pa_cons (pe_op op_add (pe_op op_add (pe_op op_mul (pv 2) (pv 2)) (pe_op op_mul (pv 2) pe_int)) (pe_op op_mul (pv 1) pe_int)) pa_nil)) pe_int)))), ?_⟩
  walk_at "ss"
  have h1 := fm (x := c * 48271 + z * 69621 + 12345) (m := 2147483647) (by decide)
  refine ⟨.inl ⟨Int.lt_of_lt_of_le (by decide) h1.1, Int.lt_trans h1.2 (by decide)⟩, ?_⟩
  walk_at "ss"
  exact q _ (fm (x := _) (m := 2147483629) (by decide)).1
set_option hygiene false in
local macro_rules | `(tactic| walk_at "dfin") => `(tactic| first
  | exact q _ _ (fm hm).1 (fm hm).2 (BoxAt.mk1 (by exact upd_same) (by walk_at "lk") (by first | assumption | omega | (dsimp only; omega)) ne) (by walk_at "kp")
  | (refine ⟨_, _, rfl, fun r h0 => ?_⟩; walk_at "ss"; walk_at "dfin")
  | (refine ite2 (fun _ => ?_) (fun _ => ?_) <;> walk_at "ss" <;> walk_at "dfin"))
theorem ok_draw (T : Top K mg) : FnOk P w K mg base CX0 2 T.f__law_draw T.d__law_draw ["box", "many"] spDraw := by
  have G__law_mix := ok_mix (P := P) (w := w) (base := base) T
  refine T.F__law_draw.ok scLdraw (fun vs H Q E h => ?_) (fun cdv A outer s H vs Q E hr h => ?_)
  · obtain ⟨_, _, _, rfl, _⟩ := h
    rfl
  obtain ⟨b, c, m, rfl, B, hm, hm2, q⟩ := h
  refine ⟨_, (pss_cons (ps_if (PW.pt (pw_and (pt_cmpR op_eq (pe_ix ix_list (pv 0) pe_int (fun _ _ => rfl)) pe_int (nomark _)) (pw_and1 (pt_cmpR op_lt (pe_ix ix_list (pv 0) pe_int (fun _ _ => rfl)) (pe_callB call_len_seq (by rfl) T.z_len PySem.boot_len (pa_cons (pe_ix ix_list (pv 0) pe_int (fun _ _ => rfl)) pa_nil)) (nomark _))))) (pss_cons (ps_set (i := 2) scLdraw.nd rfl (Or.inl rfl) (pe_ix ix_list (pe_ix ix_list (pv 0) pe_int (fun _ _ => rfl)) (pe_ix ix_list (pv 0) pe_int (fun _ _ => rfl)) (fun _ _ => rfl)))
      (pss_cons (ps_asg (pe_op op_add (pe_ix ix_list (pv 0) pe_int (fun _ _ => rfl)) pe_int) (pg_sub (pv 0) pe_int set_list))
      (pss_cons (ps_asg (pe_op op_modN (pe_callTy call_int1 (by rfl) T.z_int (by decide +kernel) (pa_cons (pe_op op_add (pe_op op_mul (pe_ix ix_list (pv 0) pe_int (fun _ _ => rfl)) pe_int) (pv 2)) pa_nil)) pe_int) (pg_sub (pv 0) pe_int set_list))
      (pss_one (ps_if (pt_cmpR op_ge (pv 2) (pe_op op_pow pe_int pe_int) (nomark _)) (pss_cons (ps_asg (pe_op op_sub (pv 2) (pe_op op_pow pe_int pe_int)) (pg_sub (pv 0) pe_int set_list))
      (pss_one (ps_asg pe_int (pg_sub (pv 0) pe_int set_list)))) pss_nil))))) pss_nil)
      (pss_cons (ps_if (PW.pt (pw_and (pt_cmpR op_gt (pe_ix ix_list (pv 0) pe_int (fun _ _ => rfl)) pe_int (nomark _)) (pw_and1 (pt_cmpR op_gt (pe_ix ix_list (pv 0) pe_int (fun _ _ => rfl)) pe_int (nomark _))))) (pss_cons (ps_set (i := 3) scLdraw.nd rfl (Or.inl rfl) (pe_op op_modN (pe_callTy call_int1 (by rfl) T.z_int (by decide +kernel) (pa_cons (pe_ix ix_list (pv 0) pe_int (fun _ _ => rfl)) pa_nil)) (pv 1)))
      (pss_cons (ps_asg (pe_op op_fdivN (pe_ix ix_list (pv 0) pe_int (fun _ _ => rfl)) (pv 1)) (pg_sub (pv 0) pe_int set_list))
      (pss_cons (ps_asg (pe_op op_sub (pe_ix ix_list (pv 0) pe_int (fun _ _ => rfl)) pe_int) (pg_sub (pv 0) pe_int set_list))
      (pss_one (ps_ret (pv 3)))))) pss_nil)
      (pss_cons (ps_asg pe_int (pg_sub (pv 0) pe_int set_list))
      (pss_cons (ps_asg (pe_op op_add (pe_ix ix_list (pv 0) pe_int (fun _ _ => rfl)) pe_int) (pg_sub (pv 0) pe_int set_list))
      (pss_one (ps_ret (pe_op op_modN (pe_callTy call_int1 (by rfl) T.z_int (by decide +kernel) (pa_cons (pe_call G__law_mix (hr.mono (by decide)) rfl T.m__law_mix T.F__law_mix.kp T.b__law_mix .nil pass0 (pa_cons (pe_ix ix_list (pv 0) pe_int (fun _ _ => rfl)) (pa_cons (pe_ix ix_list (pv 0) pe_int (fun _ _ => rfl)) pa_nil))) pa_nil)) (pv 1)))))))), ?_⟩
  obtain ⟨ne, cs, x0, x1, x2, x3, x4, h2, hb, hc⟩ := B
  walk_at "ss"
  refine ite2 (fun c1 => ?_) (fun c1 => iteF ?_)
  · walk_at "ss"
    refine ite2 (fun c2 => ?_) (fun c2 => ?_)
    · have c2' := of_decide_eq_true c2
      rw [List.length_map] at c2'
      obtain ⟨v, hv⟩ := atI_cell' h2 c2'
      walk_at "ss"
      refine ⟨_, _, _, _, rfl, rfl, SqL.of hc, hv, ?_⟩
      walk_at "ss"
      refine ite2 (fun c3 => ?_) (fun c3 => ?_)
      all_goals (walk_at "ss"; walk_at "dfin")
    · walk_at "ss"
      walk_at "dfin"
  · walk_at "ss"
    walk_at "dfin"
/-! ### two data that are alike -/
inductive Al (H : Hp) : Nat → V → V → Prop where
  | int (n : Nat) (i : Int) : Al H n (.int i) (.int i)
  | bl (n : Nat) (b : Bool) : Al H n (.bl b) (.bl b)
  | non (n : Nat) : Al H n .non .non
  | str (n : Nat) (z : Str) : Al H n (.str z) (.str z)
  | tup {n : Nat} {p q : Addr} {xs ys : List V} (hp : H p = some (.tup xs)) (hq : H q = some (.tup ys)) (hl : xs.length = ys.length) (hz : ys.length ≤ 4096)
      (h : ∀ (i : Nat) (x y : V), xs[i]? = some x → ys[i]? = some y → Al H n x y) : Al H (n + 1) (.ref p) (.ref q)
  | lst {n : Nat} {p q : Addr} {xs ys : List V} (hp : H p = some (.lst xs)) (hq : H q = some (.lst ys)) (hl : xs.length = ys.length) (hz : ys.length ≤ 4096)
      (h : ∀ (i : Nat) (x y : V), xs[i]? = some x → ys[i]? = some y → Al H n x y) : Al H (n + 1) (.ref p) (.ref q)
theorem Al.same {H H' : Hp} (s : Same H H') : ∀ {n : Nat} {x y : V}, Al H n x y → Al H' n x y := by
  intro n x y h
  induction h with
  | int n i => exact .int n i
  | bl n b => exact .bl n b
  | non n => exact .non n
  | str n z => exact .str n z
  | tup hp hq hl hz _ ih => exact .tup (s _ _ hp) (s _ _ hq) hl hz ih
  | lst hp hq hl hz _ ih => exact .lst (s _ _ hp) (s _ _ hq) hl hz ih
theorem Al.tup0 {H : Hp} {n : Nat} {p q : Addr} (hp : H p = some (.tup [])) (hq : H q = some (.tup [])) : Al H (n + 1) (.ref p) (.ref q) := .tup hp hq rfl (by simp) (fun i x y h => by simp at h)
theorem Al.tup2 {H : Hp} {n : Nat} {p q : Addr} {x1 x2 y1 y2 : V} (hp : H p = some (.tup [x1, x2])) (hq : H q = some (.tup [y1, y2])) (h1 : Al H n x1 y1) (h2 : Al H n x2 y2) : Al H (n + 1) (.ref p) (.ref q) :=
  .tup hp hq rfl (by simp) (fun i x y hx hy => by
    match i, hx, hy with
    | 0, hx, hy => cases hx; cases hy; exact h1
    | 1, hx, hy => cases hx; cases hy; exact h2
    | i + 2, hx, hy => simp at hx)
theorem Al.tup3 {H : Hp} {n : Nat} {p q : Addr} {x1 x2 x3 y1 y2 y3 : V} (hp : H p = some (.tup [x1, x2, x3])) (hq : H q = some (.tup [y1, y2, y3])) (h1 : Al H n x1 y1) (h2 : Al H n x2 y2) (h3 : Al H n x3 y3) : Al H (n + 1) (.ref p) (.ref q) :=
  .tup hp hq rfl (by simp) (fun i x y hx hy => by
    match i, hx, hy with
    | 0, hx, hy => cases hx; cases hy; exact h1
    | 1, hx, hy => cases hx; cases hy; exact h2
    | 2, hx, hy => cases hx; cases hy; exact h3
    | i + 3, hx, hy => simp at hx)
/-- tuples of the same ints -/
theorem Al.ints {H : Hp} {n : Nat} {p q : Addr} {xs : List Int} (hz : xs.length ≤ 4096) (hp : H p = some (.tup (xs.map V.int))) (hq : H q = some (.tup (xs.map V.int))) : Al H (n + 1) (.ref p) (.ref q) :=
  .tup hp hq rfl (by rw [List.length_map]; exact hz) (fun i x y hx hy => by
    rw [hx] at hy
    cases hy
    rw [List.getElem?_map] at hx
    cases e : xs[i]? with
    | none => rw [e] at hx; cases hx
    | some z =>
      rw [e] at hx
      cases hx
      exact .int n z)
def spAl : Nat → Sp
  | 0 => fun _ _ _ _ => False
  | n + 1 => fun vs H Q _ => ∃ x y : V, vs = [x, y] ∧ Al H n x y ∧ ∀ H', Same H H' → Q (.bl true) H'
theorem ty_tl (K : PySem.W.Frag) (t : String) (b1 b2 : Bool) (h1 : kitB t "tuple" = some b1) (h2 : kitB t "list" = some b2) : PySem.W.kitAny K (.type t) [.type "tuple", .type "list"] = some (b1 || b2) := by
  cases b1 with
  | true => exact kitAny_cons (kit_ty h1) (fun z => by cases z) (fun _ => rfl)
  | false => exact kitAny_cons (kit_ty h1) (fun _ => kitAny_cons (kit_ty h2) (fun z => by rw [z]; rfl) (fun z => by rw [z]; rfl)) (fun z => by cases z)
theorem ok_alike (T : Top K mg) : ∀ n : Nat, FnOk P w K mg base CX0 n T.f__law_alike T.d__law_alike ["told", "due"] (spAl n)
  | 0 => ⟨fun _ _ _ _ h => h.elim, fun _ _ _ _ _ _ _ _ _ _ _ _ _ h => h.elim⟩
  | n + 1 => by
    have G__law_alike := ok_alike T n
    refine T.F__law_alike.ok scLalike (fun vs H Q E h => ?_) (fun cdv A outer s H vs Q E hr h => ?_)
    · obtain ⟨_, _, rfl, _⟩ := h
      rfl
    obtain ⟨x, y, rfl, a, q⟩ := h
    refine ⟨_, (pss_cons (ps_if (pt_val (pe_callB call_isiT (by rfl) T.z_isinstance (by decide +kernel) (pa_cons (pv 1) (pa_cons (pe_tup (pa_cons (pe_bltn (v := .ty "tuple") (by rfl) T.z_tuple (by decide +kernel) rfl) (pa_cons (pe_bltn (v := .ty "list") (by rfl) T.z_list (by decide +kernel) rfl) pa_nil))) pa_nil)))) (pss_cons (ps_if (PW.pt (pw_or (pt_cmpR op_ne (pe_callB call_isi (by rfl) T.z_isinstance (by decide +kernel) (pa_cons (pv 0) (pa_cons (pe_bltn (v := .ty "tuple") (by rfl) T.z_tuple (by decide +kernel) rfl) pa_nil))) (pe_callB call_isi (by rfl) T.z_isinstance (by decide +kernel) (pa_cons (pv 1) (pa_cons (pe_bltn (v := .ty "tuple") (by rfl) T.z_tuple (by decide +kernel) rfl) pa_nil))) (nomark _)) (pw_or1 (pt_cmpR op_ne (pe_callB call_isi (by rfl) T.z_isinstance (by decide +kernel) (pa_cons (pv 0) (pa_cons (pe_bltn (v := .ty "list") (by rfl) T.z_list (by decide +kernel) rfl) pa_nil))) (pe_callB call_isi (by rfl) T.z_isinstance (by decide +kernel) (pa_cons (pv 1) (pa_cons (pe_bltn (v := .ty "list") (by rfl) T.z_list (by decide +kernel) rfl) pa_nil))) (nomark _))))) (pss_one (ps_ret pe_bl)) pss_nil)
      (pss_cons (ps_if (pt_cmpR op_ne (pe_callB call_len_seq (by rfl) T.z_len PySem.boot_len (pa_cons (pv 0) pa_nil)) (pe_callB call_len_seq (by rfl) T.z_len PySem.boot_len (pa_cons (pv 1) pa_nil)) (nomark _)) (pss_one (ps_ret pe_bl)) pss_nil)
      (pss_cons (ps_for PassesOwn.never rfl (pi_range1 (by rfl) T.z_range (pa_cons (pe_callB call_len_seq (by rfl) T.z_len PySem.boot_len (pa_cons (pv 1) pa_nil)) pa_nil)) (pg_name (i := 2) scLalike.nd rfl (Or.inl rfl)) (pss_one (ps_if (pt_not (pt_val (pe_call G__law_alike hr rfl T.m__law_alike T.F__law_alike.kp T.b__law_alike .nil pass0 (pa_cons (pe_ix ix_seq (pv 0) (pv 2) (fun _ _ => rfl)) (pa_cons (pe_ix ix_seq (pv 1) (pv 2) (fun _ _ => rfl)) pa_nil))))) (pss_one (ps_ret pe_bl)) pss_nil)))
      (pss_one (ps_ret pe_bl))))) pss_nil)
      (pss_cons (ps_if (pt_cmpR op_isN (pv 1) pe_non (nomark _)) (pss_one (ps_ret (pe_cmpR op_isN (pv 0) pe_non (nomark _)))) pss_nil)
      (pss_cons (ps_if (pt_val (pe_callB call_isi (by rfl) T.z_isinstance (by decide +kernel) (pa_cons (pv 1) (pa_cons (pe_bltn (v := .ty "bool") (by rfl) T.z_bool (by decide +kernel) rfl) pa_nil)))) (pss_one (ps_ret (pe_and (pe_callB call_isi (by rfl) T.z_isinstance (by decide +kernel) (pa_cons (pv 0) (pa_cons (pe_bltn (v := .ty "bool") (by rfl) T.z_bool (by decide +kernel) rfl) pa_nil))) (pe_one (pe_cmpR op_eq (pv 0) (pv 1) (nomark _)))))) pss_nil)
      (pss_cons (ps_if (pt_val (pe_callB call_isi (by rfl) T.z_isinstance (by decide +kernel) (pa_cons (pv 1) (pa_cons (pe_bltn (v := .ty "str") (by rfl) T.z_str (by decide +kernel) rfl) pa_nil)))) (pss_one (ps_ret (pe_and (pe_callB call_isi (by rfl) T.z_isinstance (by decide +kernel) (pa_cons (pv 0) (pa_cons (pe_bltn (v := .ty "str") (by rfl) T.z_str (by decide +kernel) rfl) pa_nil))) (pe_one (pe_cmpR op_eq (pv 0) (pv 1) (nomark _)))))) pss_nil)
      (pss_one (ps_ret (pe_and (pe_callB call_isi (by rfl) T.z_isinstance (by decide +kernel) (pa_cons (pv 0) (pa_cons (pe_bltn (v := .ty "int") (by rfl) T.z_int (by decide +kernel) rfl) pa_nil))) (pe_and (pe_not (pe_callB call_isi (by rfl) T.z_isinstance (by decide +kernel) (pa_cons (pv 0) (pa_cons (pe_bltn (v := .ty "bool") (by rfl) T.z_bool (by decide +kernel) rfl) pa_nil)))) (pe_one (pe_cmpR op_eq (pv 0) (pv 1) (nomark _))))))))))), ?_⟩
    walk_at "ss"
    intro t ht
    have s0 := same_new ht (HO.tup [V.ty "tuple", V.ty "list"])
    have q0 := q _ s0
    cases a with
    | int _ i =>
      refine ⟨_, _, _, _, _, _, rfl, upd_same, .cons (.ty _) (.cons (.ty _) .nil), .base (.int _), ty_tl _ "int" false false (by decide +kernel) (by decide +kernel), ?_⟩
      walk_at "sa"
      show Q (.bl (decide (V.int i = V.int i))) _
      rw [decide_eq_true rfl]
      exact q0
    | bl _ z =>
      refine ⟨_, _, _, _, _, _, rfl, upd_same, .cons (.ty _) (.cons (.ty _) .nil), .base (.bl _), ty_tl _ "bool" false false (by decide +kernel) (by decide +kernel), ?_⟩
      walk_at "sa"
      show Q (.bl (decide (V.bl z = V.bl z))) _
      rw [decide_eq_true rfl]
      exact q0
    | non _ =>
      refine ⟨_, _, _, _, _, _, rfl, upd_same, .cons (.ty _) (.cons (.ty _) .nil), .base .non, ty_tl _ "NoneType" false false (by decide +kernel) (by decide +kernel), ?_⟩
      walk_at "sa"
      exact q0
    | str _ z =>
      refine ⟨_, _, _, _, _, _, rfl, upd_same, .cons (.ty _) (.cons (.ty _) .nil), .base (.str _), ty_tl _ "str" false false (by decide +kernel) (by decide +kernel), ?_⟩
      walk_at "sa"
      show Q (.bl (decide (V.str z = V.str z))) _
      rw [decide_eq_true rfl]
      exact q0
    | @tup m p1 p2 xs ys h1 h2 hl hz hi =>
      have g1 := s0 _ _ h1
      have g2 := s0 _ _ h2
      refine ⟨_, _, _, _, _, _, rfl, upd_same, .cons (.ty _) (.cons (.ty _) .nil), .base (.tup g2), ty_tl _ "tuple" true false (by decide +kernel) (by decide +kernel), ?_⟩
      walk_at "sa"
      refine iteNS (by rw [hl]) ?_
      walk_at "sa"
      refine for_range (n := ys.length) (fun i σ H2 => ∃ v, σ = [some (.ref p1), some (.ref p2), v] ∧ Same H H2) ⟨_, rfl, s0⟩ ?_ ?_
      · rintro i σ H2 hin ⟨v, rfl, s2⟩
        have k1 := s2 _ _ h1
        have k2 := s2 _ _ h2
        have hin' : i < xs.length := by omega
        walk_at "ss"
        refine .inr (.inl ⟨_, _, _, _, rfl, rfl, SqT.of k1, atI0 (List.getElem?_eq_getElem hin'), ?_⟩)
        walk_at "ss"
        refine .inr (.inl ⟨_, _, _, _, rfl, rfl, SqT.of k2, atI0 (List.getElem?_eq_getElem hin), ?_⟩)
        refine ⟨_, _, rfl, (hi i _ _ (List.getElem?_eq_getElem hin') (List.getElem?_eq_getElem hin)).same s2, fun H3 s3 => ?_⟩
        exact ⟨_, rfl, _, rfl, s2.trans s3⟩
      · rintro σ H2 ⟨v, rfl, s2⟩
        exact q _ s2
    | @lst m p1 p2 xs ys h1 h2 hl hz hi =>
      have g1 := s0 _ _ h1
      have g2 := s0 _ _ h2
      refine ⟨_, _, _, _, _, _, rfl, upd_same, .cons (.ty _) (.cons (.ty _) .nil), .base (.lst g2), ty_tl _ "list" false true (by decide +kernel) (by decide +kernel), ?_⟩
      walk_at "sa"
      refine iteNS (by rw [hl]) ?_
      walk_at "sa"
      refine for_range (n := ys.length) (fun i σ H2 => ∃ v, σ = [some (.ref p1), some (.ref p2), v] ∧ Same H H2) ⟨_, rfl, s0⟩ ?_ ?_
      · rintro i σ H2 hin ⟨v, rfl, s2⟩
        have k1 := s2 _ _ h1
        have k2 := s2 _ _ h2
        have hin' : i < xs.length := by omega
        walk_at "ss"
        refine .inl ⟨_, _, _, _, rfl, rfl, SqL.of k1, atI0 (List.getElem?_eq_getElem hin'), ?_⟩
        walk_at "ss"
        refine .inl ⟨_, _, _, _, rfl, rfl, SqL.of k2, atI0 (List.getElem?_eq_getElem hin), ?_⟩
        refine ⟨_, _, rfl, (hi i _ _ (List.getElem?_eq_getElem hin') (List.getElem?_eq_getElem hin)).same s2, fun H3 s3 => ?_⟩
        exact ⟨_, rfl, _, rfl, s2.trans s3⟩
      · rintro σ H2 ⟨v, rfl, s2⟩
        exact q _ s2
/-! ### a box made of the script -/
def spBox (K : PySem.W.Frag) : Sp := fun vs H Q _ => ∃ (a : Addr) (ns : List Int) (i : Int), vs = [.ref a, .int i] ∧ SqL K H a (ns.map V.int) ∧ ns.length ≤ 63 ∧ 0 ≤ i ∧
  ∀ (b c : Addr) (H' : Hp), Same H H' → H b = none → H c = none → BoxAt H' b c → Q (.ref b) H'
theorem ok_box (T : Top K mg) : FnOk P w K mg base CX0 1 T.f__law_box T.d__law_box ["script", "at"] (spBox K) := by
  refine T.F__law_box.ok scLbox (fun vs H Q E h => ?_) (fun cdv A outer s H vs Q E hr h => ?_)
  · obtain ⟨_, _, _, rfl, _⟩ := h
    rfl
  obtain ⟨a, ns, i, rfl, hS, h63, h0, q⟩ := h
  refine ⟨_, (pss_one (ps_ret (pe_lst (pa_cons pe_int (pa_cons pe_int (pa_cons (pv 1) (pa_cons pe_int (pa_cons (pv 1) (pa_cons (pe_lc (own := [("cell", 2)]) (g := gName 2) (tt := tYes) rfl scLbox.nd (pi_list (pv 0)) (blkOk_by (own := [("cell", 2)]) (N := ["script", "at", "cell"]) (sc := defScope s_Lbox) (by decide +kernel)) (fun _ _ _ _ _ => (pg_name (i := 2) scLbox.nd rfl (Or.inl rfl))) (fun _ _ _ _ _ => pts_nil) (fun _ _ _ _ _ => (pe_callTy call_int1 (by rfl) T.z_int (by decide +kernel) (pa_cons (pv 2) pa_nil)))) pa_nil))))))))), ?_⟩
  walk_at "ss"
  refine ⟨⟨_, hS⟩, fun D hD => ?_⟩
  refine lc_list (K := K) (a := a) (xs := ns.map V.int) (fun i H2 => Same H H2 ∧ ∃ acc : List Int, acc.length = i ∧ H2 D = some (.lst (acc.map V.int))) ⟨same_new hD _, [], rfl, upd_same⟩ (fun i H2 _ g => g.1.seq hS) ?_ ?_
  · rintro i x H2 hi ⟨s2, acc, hacc, hd⟩
    have hil := (List.getElem?_eq_some_iff.mp hi).1
    rw [List.length_map] at hil
    obtain ⟨z, rfl⟩ : ∃ z, x = V.int z := by
      rw [List.getElem?_map] at hi
      cases e : ns[i]? with
      | none => rw [e] at hi; cases hi
      | some z => rw [e] at hi; exact ⟨z, (Option.some.inj hi).symm⟩
    refine ⟨rfl, ?_⟩
    walk_at "ss"
    refine ⟨_, hd, by rw [List.length_map]; exact small1000 (by omega), ?_⟩
    refine ⟨?_, acc ++ [z], by rw [List.length_append, hacc]; rfl, by rw [List.map_append]; exact upd_same⟩
    intro b o e
    rw [upd_ne (ne_of_none e hD)]
    exact s2 b o e
  · rintro H2 ⟨s2, acc, hacc, hd⟩
    walk_at "ss"
    intro p hp
    have npD : p ≠ D := (ne_of_none hd hp).symm
    refine q p D _ (fun b o e => ?_) (s2.free hp) hD (BoxAt.mk1 (by exact upd_same) (by rw [upd_ne npD.symm]; exact hd) h0 npD)
    rw [upd_ne (ne_of_none (s2 b o e) hp)]
    exact s2 b o e
end
/-! ### the mathematics: lowest terms -/
def low (t b : Nat) : Nat × Nat := (t / Nat.gcd t b, b / Nat.gcd t b)
theorem low_mul {k x y : Nat} (hk : 0 < k) : low (k * x) (k * y) = low x y := by
  unfold low
  rw [Nat.gcd_mul_left, Nat.mul_div_mul_left _ _ hk, Nat.mul_div_mul_left _ _ hk]
theorem low_eq {x y x' y' : Nat} (hy : 0 < y) (hy' : 0 < y') (h : x * y' = x' * y) : low x y = low x' y' := by
  have a := low_mul (k := y') (x := x) (y := y) hy'
  have b := low_mul (k := y) (x := x') (y := y') hy
  rw [← a, ← b, Nat.mul_comm y' x, h, Nat.mul_comm x' y, Nat.mul_comm y' y]
theorem gcd_pos {t b : Nat} (h : 0 < b) : 0 < Nat.gcd t b := Nat.gcd_pos_of_pos_right _ h
theorem low_pos {t b : Nat} (h : 0 < b) : 0 < (low t b).2 := Nat.div_pos (Nat.le_of_dvd h (Nat.gcd_dvd_right _ _)) (gcd_pos h)
theorem low_le1 (t b : Nat) : (low t b).1 ≤ t := Nat.div_le_self _ _
theorem low_le2 (t b : Nat) : (low t b).2 ≤ b := Nat.div_le_self _ _
theorem low_cross {t b : Nat} : (low t b).1 * b = t * (low t b).2 := by
  have h1 : Nat.gcd t b * (low t b).1 = t := Nat.mul_div_cancel' (Nat.gcd_dvd_left _ _)
  have h2 : Nat.gcd t b * (low t b).2 = b := Nat.mul_div_cancel' (Nat.gcd_dvd_right _ _)
  generalize hg : Nat.gcd t b = g at h1 h2
  have e1 : (low t b).1 * b = (low t b).1 * (g * (low t b).2) := by rw [h2]
  have e2 : t * (low t b).2 = g * (low t b).1 * (low t b).2 := by rw [h1]
  rw [e1, e2, ← Nat.mul_assoc, Nat.mul_comm (low t b).1 g]
abbrev Rt := Nat × Nat
def radd (a b : Rt) : Rt := low (a.1 * b.2 + b.1 * a.2) (a.2 * b.2)
def rmul (a b : Rt) : Rt := low (a.1 * b.1) (a.2 * b.2)
theorem radd_pos {a b : Rt} (ha : 0 < a.2) (hb : 0 < b.2) : 0 < (radd a b).2 := low_pos (Nat.mul_pos ha hb)
theorem rmul_pos {a b : Rt} (ha : 0 < a.2) (hb : 0 < b.2) : 0 < (rmul a b).2 := low_pos (Nat.mul_pos ha hb)
theorem radd_comm (a b : Rt) : radd b a = radd a b := by
  unfold radd
  rw [Nat.add_comm (b.1 * a.2), Nat.mul_comm b.2]
theorem rmul_comm (a b : Rt) : rmul b a = rmul a b := by
  unfold rmul
  rw [Nat.mul_comm b.1, Nat.mul_comm b.2]
/-- a sum with a number in lowest terms is the sum with the pair as it was -/
theorem radd_low {t b : Nat} {c : Rt} (hb : 0 < b) (hc : 0 < c.2) : radd (low t b) c = low (t * c.2 + c.1 * b) (b * c.2) := by
  unfold radd
  refine low_eq (Nat.mul_pos (low_pos hb) hc) (Nat.mul_pos hb hc) ?_
  have e := low_cross (t := t) (b := b)
  generalize (low t b).1 = x at *
  generalize (low t b).2 = y at *
  generalize c.1 = u at *
  generalize c.2 = v at *
  have e1 : (x * v + u * y) * (b * v) = (x * b) * (v * v) + u * y * (b * v) := by
    rw [Nat.add_mul]
    congr 1
    rw [Nat.mul_mul_mul_comm]
  have e2 : (t * v + u * b) * (y * v) = (t * y) * (v * v) + u * b * (y * v) := by
    rw [Nat.add_mul]
    congr 1
    rw [Nat.mul_mul_mul_comm]
  rw [e1, e2, e]
  congr 1
  ac_rfl
theorem rmul_low {t b : Nat} {c : Rt} (hb : 0 < b) (hc : 0 < c.2) : rmul (low t b) c = low (t * c.1) (b * c.2) := by
  unfold rmul
  refine low_eq (Nat.mul_pos (low_pos hb) hc) (Nat.mul_pos hb hc) ?_
  have e := low_cross (t := t) (b := b)
  generalize (low t b).1 = x at *
  generalize (low t b).2 = y at *
  rw [Nat.mul_mul_mul_comm, e, Nat.mul_mul_mul_comm]
theorem radd_assoc {a b c : Rt} (ha : 0 < a.2) (hb : 0 < b.2) (hc : 0 < c.2) : radd (radd a b) c = radd a (radd b c) := by
  rw [radd_comm (radd b c) a]
  show radd (low _ _) c = radd (low _ _) a
  rw [radd_low (Nat.mul_pos ha hb) hc, radd_low (Nat.mul_pos hb hc) ha]
  obtain ⟨a1, a2⟩ := a
  obtain ⟨b1, b2⟩ := b
  obtain ⟨c1, c2⟩ := c
  show low ((a1 * b2 + b1 * a2) * c2 + c1 * (a2 * b2)) (a2 * b2 * c2) = low ((b1 * c2 + c1 * b2) * a2 + a1 * (b2 * c2)) (b2 * c2 * a2)
  congr 1
  · rw [Nat.add_mul, Nat.add_mul]
    have e1 : a1 * b2 * c2 = a1 * (b2 * c2) := Nat.mul_assoc _ _ _
    have e2 : b1 * a2 * c2 = b1 * c2 * a2 := Nat.mul_right_comm _ _ _
    have e3 : c1 * (a2 * b2) = c1 * b2 * a2 := by ac_rfl
    omega
  · ac_rfl
theorem rdist {a b c : Rt} (ha : 0 < a.2) (hb : 0 < b.2) (hc : 0 < c.2) : radd (rmul a c) (rmul b c) = rmul (radd a b) c := by
  show radd (low _ _) (low _ _) = rmul (low _ _) c
  rw [rmul_low (Nat.mul_pos ha hb) hc, radd_low (Nat.mul_pos ha hc) (low_pos (Nat.mul_pos hb hc))]
  obtain ⟨a1, a2⟩ := a
  obtain ⟨b1, b2⟩ := b
  obtain ⟨c1, c2⟩ := c
  have e := low_cross (t := b1 * c1) (b := b2 * c2)
  have hp := low_pos (t := b1 * c1) (b := b2 * c2) (Nat.mul_pos hb hc)
  show low (a1 * c1 * (low (b1 * c1) (b2 * c2)).2 + (low (b1 * c1) (b2 * c2)).1 * (a2 * c2)) (a2 * c2 * (low (b1 * c1) (b2 * c2)).2) = low ((a1 * b2 + b1 * a2) * c1) (a2 * b2 * c2)
  generalize (low (b1 * c1) (b2 * c2)).1 = x at *
  generalize (low (b1 * c1) (b2 * c2)).2 = y at *
  have ha : 0 < a2 := ha
  have hb : 0 < b2 := hb
  have hc : 0 < c2 := hc
  refine low_eq (Nat.mul_pos (Nat.mul_pos ha hc) hp) (Nat.mul_pos (Nat.mul_pos ha hb) hc) ?_
  have e1 : (a1 * c1 * y + x * (a2 * c2)) * (a2 * b2 * c2) = a1 * c1 * y * (a2 * b2 * c2) + (x * (b2 * c2)) * (a2 * c2 * a2) := by
    rw [Nat.add_mul]
    congr 1
    ac_rfl
  have e2 : (a1 * b2 + b1 * a2) * c1 * (a2 * c2 * y) = a1 * b2 * c1 * (a2 * c2 * y) + (b1 * c1 * y) * (a2 * c2 * a2) := by
    rw [Nat.add_mul, Nat.add_mul]
    congr 1
    ac_rfl
  rw [e1, e2, e]
  congr 1
  ac_rfl
/-- Euclid's steps -/
theorem step_half {a b : Nat} (h : b ≤ a) (hb : 0 < b) : 2 * (a % b) ≤ a := by
  have h1 := Nat.div_add_mod a b
  have h2 := Nat.mod_lt a hb
  have h3 : 1 ≤ a / b := Nat.div_pos h hb
  have h4 : b * 1 ≤ b * (a / b) := Nat.mul_le_mul_left b h3
  omega
/-- where the pair stands after i turns -/
def Eu (B g i a b : Nat) : Prop := i ≤ 999 ∧ Nat.gcd a b = g ∧ ((∃ j, i = 2 * j ∧ b * 2 ^ j ≤ B) ∨ (∃ j, i = 2 * j + 1 ∧ b < a ∧ a * 2 ^ j ≤ B))
theorem eu_start {B a b : Nat} (h : b ≤ B) : Eu B (Nat.gcd a b) 0 a b := ⟨by omega, rfl, .inl ⟨0, rfl, by omega⟩⟩
theorem eu_turn {g i a b : Nat} (h : Eu (2 ^ 499 - 1) g i a b) (hb : b ≠ 0) : Eu (2 ^ 499 - 1) g (i + 1) b (a % b) := by
  obtain ⟨hi, hg, h⟩ := h
  have hb' : 0 < b := Nat.pos_of_ne_zero hb
  have hg' : Nat.gcd b (a % b) = g := by
    rw [← hg, Nat.gcd_comm a b, Nat.gcd_rec b a, Nat.gcd_comm]
  have big : (0 : Nat) < 2 ^ 499 := Nat.two_pow_pos _
  rcases h with ⟨j, rfl, h⟩ | ⟨j, rfl, hlt, h⟩
  · refine ⟨by omega, hg', .inr ⟨j, rfl, Nat.mod_lt _ hb', h⟩⟩
  · have hj : j ≠ 499 := by
      rintro rfl
      have : 1 * 2 ^ 499 ≤ a * 2 ^ 499 := Nat.mul_le_mul_right _ (by omega)
      omega
    refine ⟨by omega, hg', .inl ⟨j + 1, by omega, ?_⟩⟩
    have h1 := step_half (Nat.le_of_lt hlt) hb'
    have h2 : (2 * (a % b)) * 2 ^ j ≤ a * 2 ^ j := Nat.mul_le_mul_right _ h1
    have h3 : a % b * 2 ^ (j + 1) = (2 * (a % b)) * 2 ^ j := by
      rw [Nat.pow_succ]
      ac_rfl
    omega
theorem eu_end {B g a b : Nat} (h : Eu B g 1000 a b) : False := by
  have := h.1
  omega
/-! ### the law's numbers -/
theorem BoxAt.ne_tup {H : Hp} {b c a : Addr} {xs : List V} (B : BoxAt H b c) (h : H a = some (.tup xs)) : a ≠ b := by
  obtain ⟨ne, cs, x0, x1, x2, x3, x4, h2, hb, hc⟩ := B
  exact ne_of h hb (by intro z; cases z)
theorem BoxAt.ne_lst {H : Hp} {b c a : Addr} {xs : List V} (B : BoxAt H b c) (h : H a = some (.lst xs)) (hl : xs.length ≠ 6) : a ≠ b := by
  obtain ⟨ne, cs, x0, x1, x2, x3, x4, h2, hb, hc⟩ := B
  refine ne_of h hb (fun z => ?_)
  cases z
  exact hl rfl
theorem BoxAt.ne_new {H : Hp} {b c p : Addr} (B : BoxAt H b c) (h : H p = none) : p ≠ b := by
  obtain ⟨o, ho⟩ := B.got
  exact (ne_of_none ho h).symm
theorem pow10_le {i : Nat} (h : i ≤ 50) : 10 ^ i ≤ 100000000000000000000000000000000000000000000000000 := Nat.le_trans (Nat.pow_le_pow_right (by decide) h) (by decide +kernel)
def spGreat : Sp := fun vs H Q _ => ∃ (b c : Addr), vs = [.ref b] ∧ BoxAt H b c ∧
  ∀ (n : Int) (H' : Hp), -100000000000000000000000000000000000000000000000000 < n → n < 100000000000000000000000000000000000000000000000000 → BoxAt H' b c → Keep b H H' → Q (.int n) H'
section
variable {P : Program} {w : World} {K : PySem.W.Frag} {mg : Str → Option Value} {base : Heap}
theorem ok_great (T : Top K mg) : FnOk P w K mg base CX0 3 T.f__law_great T.d__law_great ["box"] spGreat := by
  have G__law_draw := ok_draw (P := P) (w := w) (base := base) T
  refine T.F__law_great.ok scLgreat (fun vs H Q E h => ?_) (fun cdv A outer s H vs Q E hr h => ?_)
  · obtain ⟨_, _, rfl, _⟩ := h
    rfl
  obtain ⟨b, c, rfl, B, q⟩ := h
  refine ⟨_, (pss_cons (ps_set (i := 1) scLgreat.nd rfl (Or.inl rfl) (pe_ix ix_list (pe_lst (pa_cons pe_int (pa_cons pe_int (pa_cons pe_int (pa_cons pe_int pa_nil))))) (pe_call G__law_draw (hr.mono (by decide)) rfl T.m__law_draw T.F__law_draw.kp T.b__law_draw .nil pass0 (pa_cons (pv 0) (pa_cons pe_int pa_nil))) (fun _ _ => rfl)))
      (pss_cons (ps_set (i := 2) scLgreat.nd rfl (Or.inl rfl) pe_int)
      (pss_cons (ps_for PassesOwn.never rfl (pi_range1 (by rfl) T.z_range (pa_cons (pv 1) pa_nil)) (pg_name (i := 3) scLgreat.nd rfl (Or.inl rfl)) (pss_one (ps_set (i := 2) scLgreat.nd rfl (Or.inl rfl) (pe_op op_add (pe_op op_mul (pv 2) pe_int) (pe_call G__law_draw (hr.mono (by decide)) rfl T.m__law_draw T.F__law_draw.kp T.b__law_draw .nil pass0 (pa_cons (pv 0) (pa_cons pe_int pa_nil)))))))
      (pss_one (ps_ret (pe_ix ix_list (pe_lst (pa_cons (pv 2) (pa_cons (pe_op op_sub pe_int (pv 2)) pa_nil))) (pe_call G__law_draw (hr.mono (by decide)) rfl T.m__law_draw T.F__law_draw.kp T.b__law_draw .nil pass0 (pa_cons (pv 0) (pa_cons pe_int pa_nil))) (fun _ _ => rfl))))))), ?_⟩
  walk_at "ss"
  intro p hp
  have pb := B.ne_new hp
  walk_at "ss"
  refine ⟨b, c, _, rfl, B.same (same_new hp _), by decide, by decide, fun r H1 h0 h1 B1 k1 => ?_⟩
  obtain ⟨v, hv, hv0, hv1⟩ : ∃ v : Int, atI [V.int 1, V.int 3, V.int 20, V.int 50] r = some (.int v) ∧ 0 ≤ v ∧ v ≤ 50 := by
    have : r = 0 ∨ r = 1 ∨ r = 2 ∨ r = 3 := by omega
    rcases this with rfl | rfl | rfl | rfl <;> exact ⟨_, rfl, by decide, by decide⟩
  refine ⟨_, _, _, _, rfl, rfl, SqL.of (k1 _ _ upd_same pb), hv, ?_⟩
  walk_at "ss"
  have kH1 : Keep b H H1 := (Keep.of (same_new hp _)).trans k1
  refine for_range (n := v.toNat) (fun i σ H2 => ∃ (m : Nat) (z : Option V), σ = [some (.ref b), some (.int v), some (.int m), z] ∧ m < 10 ^ i ∧ BoxAt H2 b c ∧ Keep b H H2) ⟨0, _, rfl, by decide, B1, kH1⟩ ?_ ?_
  · rintro i σ H2 hi ⟨m, z, rfl, hm, B2, k2⟩
    walk_at "ss"
    refine ⟨b, c, _, rfl, B2, by decide, by decide, fun r H3 g0 g1 B3 k3 => ?_⟩
    walk_at "ss"
    refine ⟨m * 10 + r.toNat, some (.int (0 + (i : Int))), ?_, ?_, B3, k2.trans k3⟩
    · have e : (m : Int) * 10 + r = ((m * 10 + r.toNat : Nat) : Int) := by omega
      show List.set _ 2 (some (V.int ((m : Int) * 10 + r))) = _
      rw [e]
      rfl
    · rw [Nat.pow_succ]
      omega
  · rintro σ H2 ⟨m, z, rfl, hm, B2, k2⟩
    have hm2 := pow10_le (i := v.toNat) (by omega)
    walk_at "ss"
    intro p2 hp2
    have pb2 := B2.ne_new hp2
    walk_at "ss"
    refine ⟨b, c, _, rfl, B2.same (same_new hp2 _), by decide, by decide, fun r H3 g0 g1 B3 k3 => ?_⟩
    obtain ⟨u, hu, hu0, hu1⟩ : ∃ u : Int, atI [V.int (m : Int), V.int (0 - (m : Int))] r = some (.int u) ∧ -100000000000000000000000000000000000000000000000000 < u ∧ u < 100000000000000000000000000000000000000000000000000 := by
      have : r = 0 ∨ r = 1 := by omega
      rcases this with rfl | rfl
      · exact ⟨_, rfl, by omega, by omega⟩
      · exact ⟨_, rfl, by omega, by omega⟩
    refine ⟨_, _, _, _, rfl, rfl, SqL.of (k3 _ _ upd_same pb2), hu, ?_⟩
    exact q u H3 hu0 hu1 B3 (k2.trans ((Keep.of (same_new hp2 _)).trans k3))
abbrev LIM : Nat := 10 ^ 121
theorem lim_le : LIM ≤ 2 ^ 499 - 1 := by decide +kernel
theorem lim_400 : LIM < 2 ^ 403 := by decide +kernel
def tupR (r : Rt) : HO := .tup [.int (r.1 : Int), .int (r.2 : Int)]
theorem fmod_nat (a b : Nat) : (a : Int).fmod (b : Int) = ((a % b : Nat) : Int) := by
  rw [Int.fmod_eq_emod_of_nonneg _ (Int.natCast_nonneg _), Int.natCast_emod]
theorem div_nat (a b : Nat) : (a : Int) / (b : Int) = ((a / b : Nat) : Int) := by rw [Int.natCast_ediv]
theorem bits {a : Nat} (h : a ≤ LIM) : (a : Int).natAbs < 2 ^ 403 := by
  rw [Int.natAbs_natCast]
  exact Nat.lt_of_le_of_lt h lim_400
theorem divW {a b : Nat} (h : 0 < b) (hb : b ≤ LIM) : CDivW (a : Int) (b : Int) := wide_div (b := 403) (by omega) (bits hb) (by decide) (by decide)
theorem mulW {a b : Nat} (ha : a ≤ LIM) (hb : b ≤ LIM) : CMulW (a : Int) (b : Int) := wide_mul (a := 403) (b := 403) (bits ha) (bits hb) (by decide) (by decide) (by decide)
def spCommon : Sp := fun vs H Q _ => ∃ a b : Nat, vs = [.int a, .int b] ∧ b ≤ LIM ∧ Q (.int (Nat.gcd a b : Nat)) H
theorem ok_common (T : Top K mg) : FnOk P w K mg base CX0 1 T.f__law_common T.d__law_common ["a", "b"] spCommon := by
  refine T.F__law_common.ok scLcommon (fun vs H Q E h => ?_) (fun cdv A outer s H vs Q E hr h => ?_)
  · obtain ⟨_, _, rfl, _⟩ := h
    rfl
  obtain ⟨a, b, rfl, hb, q⟩ := h
  refine ⟨_, (pss_cons (ps_for PassesOwn.never rfl (pi_range1 (by rfl) T.z_range (pa_cons pe_int pa_nil)) (pg_name (i := 2) scLcommon.nd rfl (Or.inl rfl)) (pss_cons (ps_if (pt_cmpR op_eq (pv 1) pe_int (nomark _)) (pss_one (ps_ret (pv 0))) pss_nil)
      (pss_one (ps_par (i := 0) (j := 1) (by rfl) scLcommon.nd rfl rfl (by decide) rfl rfl (pa_cons (pv 1) (pa_cons (pe_op op_modN (pe_callTy call_int1 (by rfl) T.z_int (by decide +kernel) (pa_cons (pv 0) pa_nil)) (pv 1)) pa_nil)) (by rfl)))))
      (pss_one (ps_ret pe_int))), ?_⟩
  walk_at "ss"
  refine for_range (n := 1000) (fun i σ H2 => ∃ (x y : Nat) (z : Option V), σ = [some (.int x), some (.int y), z] ∧ Eu (2 ^ 499 - 1) (Nat.gcd a b) i x y ∧ H2 = H) ⟨a, b, none, rfl, eu_start (Nat.le_trans hb lim_le), rfl⟩ ?_ ?_
  · rintro i σ H2 hi ⟨x, y, z, rfl, e, rfl⟩
    walk_at "ss"
    refine ite2 (fun c => ?_) (fun c => ?_)
    · have c' : (y : Int) = 0 := by
        have := of_decide_eq_true c
        injection this
      have hy : y = 0 := by omega
      have hg := e.2.1
      rw [hy, Nat.gcd_zero_right] at hg
      walk_at "ss"
      rw [hg]
      exact q
    · have hy : y ≠ 0 := by
        intro z
        apply c
        rw [z]
        rfl
      walk_at "ss"
      refine ⟨_, _, rfl, y, x % y, some (.int (0 + (i : Int))), ?_, eu_turn e hy, rfl⟩
      show List.set (List.set _ 0 _) 1 (some (V.int ((x : Int).fmod (y : Int)))) = _
      rw [fmod_nat]
      rfl
  · rintro σ H2 ⟨x, y, z, rfl, e, rfl⟩
    exact (eu_end e).elim
/-- a new tuple with a pair in lowest terms -/
def spLow : Sp := fun vs H Q _ => ∃ a b : Nat, vs = [.int a, .int b] ∧ 0 < b ∧ b ≤ LIM ∧ ∀ (p : Addr) (H' : Hp), H p = none → Same H H' → H' p = some (tupR (low a b)) → Q (.ref p) H'
theorem ok_lowest (T : Top K mg) : FnOk P w K mg base CX0 2 T.f__law_lowest T.d__law_lowest ["top", "bottom"] spLow := by
  have G__law_common := ok_common (P := P) (w := w) (base := base) T
  refine T.F__law_lowest.ok scLlowest (fun vs H Q E h => ?_) (fun cdv A outer s H vs Q E hr h => ?_)
  · obtain ⟨_, _, rfl, _⟩ := h
    rfl
  obtain ⟨a, b, rfl, hb0, hb, q⟩ := h
  refine ⟨_, (pss_cons (ps_set (i := 2) scLlowest.nd rfl (Or.inl rfl) (pe_call G__law_common (hr.mono (by decide)) rfl T.m__law_common T.F__law_common.kp T.b__law_common .nil pass0 (pa_cons (pv 0) (pa_cons (pv 1) pa_nil))))
      (pss_one (ps_ret (pe_tup (pa_cons (pe_op op_fdivW (pv 0) (pv 2)) (pa_cons (pe_op op_fdivW (pv 1) (pv 2)) pa_nil)))))), ?_⟩
  walk_at "ss"
  refine ⟨a, b, rfl, hb, ?_⟩
  have hg0 : 0 < Nat.gcd a b := gcd_pos hb0
  have hg : Nat.gcd a b ≤ LIM := Nat.le_trans (Nat.le_of_dvd hb0 (Nat.gcd_dvd_right _ _)) hb
  walk_at "ss"
  refine And.intro (divW hg0 hg) ?_
  walk_at "ss"
  refine And.intro (divW hg0 hg) ?_
  walk_at "ss"
  intro p hp
  refine q p _ hp (same_new hp _) ?_
  rw [upd_same]
  show some (HO.tup [.int ((a : Int) / ((Nat.gcd a b : Nat) : Int)), .int ((b : Int) / ((Nat.gcd a b : Nat) : Int))]) = _
  rw [div_nat, div_nat]
  rfl
theorem ok_ratio (T : Top K mg) : FnOk P w K mg base CX0 1 T.f_ratio T.d_ratio ["top", "bottom"] spLow := by
  refine T.F_ratio.ok scratio (fun vs H Q E h => ?_) (fun cdv A outer s H vs Q E hr h => ?_)
  · obtain ⟨_, _, rfl, _⟩ := h
    rfl
  obtain ⟨a, b, rfl, hb0, hb, q⟩ := h
  refine ⟨_, (pss_cons (ps_set (i := 2) scratio.nd rfl (Or.inl rfl) (pe_callBfun cr_gcd (by rfl) T.m_gcd (pa_cons (pv 0) (pa_cons (pv 1) pa_nil))))
      (pss_one (ps_ret (pe_tup (pa_cons (pe_op op_fdivW (pv 0) (pv 2)) (pa_cons (pe_op op_fdivW (pv 1) (pv 2)) pa_nil)))))), ?_⟩
  walk_at "ss"
  refine ⟨_, _, rfl, ?_⟩
  have hg0 : 0 < Nat.gcd a b := gcd_pos hb0
  have hg : Nat.gcd a b ≤ LIM := Nat.le_trans (Nat.le_of_dvd hb0 (Nat.gcd_dvd_right _ _)) hb
  rw [Int.natAbs_natCast, Int.natAbs_natCast]
  walk_at "ss"
  refine And.intro (divW hg0 hg) ?_
  walk_at "ss"
  refine And.intro (divW hg0 hg) ?_
  walk_at "ss"
  intro p hp
  refine q p _ hp (same_new hp _) ?_
  rw [upd_same]
  show some (HO.tup [.int ((a : Int) / ((Nat.gcd a b : Nat) : Int)), .int ((b : Int) / ((Nat.gcd a b : Nat) : Int))]) = _
  rw [div_nat, div_nat]
  rfl
end
abbrev T50 : Nat := 100000000000000000000000000000000000000000000000000
abbrev T60 : Nat := 1000000000000000000000000000000000000000000000000000000000000
theorem t60_sq {a b : Nat} (ha : a ≤ T60) (hb : b ≤ T60) : a * b ≤ 10 ^ 120 := Nat.le_trans (Nat.mul_le_mul ha hb) (by decide +kernel)
theorem lim_120 : 2 * 10 ^ 120 ≤ LIM := by decide +kernel
theorem t60_lim : T60 ≤ LIM := by decide +kernel
theorem two_eq {a b c d : Int} (h : a = c) (h2 : b = d) : [V.int a, V.int b] = [V.int c, V.int d] := by rw [h, h2]
def spNumber : Sp := fun vs H Q _ => ∃ (b c : Addr) (m : Nat), vs = [.ref b, .int m] ∧ BoxAt H b c ∧ m ≤ 1 ∧
  ∀ (n : Nat) (H' : Hp), m ≤ n → n ≤ T50 → BoxAt H' b c → Keep b H H' → Q (.int n) H'
section
variable {P : Program} {w : World} {K : PySem.W.Frag} {mg : Str → Option Value} {base : Heap}
theorem ok_number (T : Top K mg) : FnOk P w K mg base CX0 4 T.f__law_number T.d__law_number ["box", "least"] spNumber := by
  have G__law_draw := ok_draw (P := P) (w := w) (base := base) T
  have G__law_great := ok_great (P := P) (w := w) (base := base) T
  refine T.F__law_number.ok scLnumber (fun vs H Q E h => ?_) (fun cdv A outer s H vs Q E hr h => ?_)
  · obtain ⟨_, _, _, rfl, _⟩ := h
    rfl
  obtain ⟨b, c, m, rfl, B, hm, q⟩ := h
  have fin : ∀ (z : Int) (H' : Hp), (m : Int) ≤ z → z ≤ 100000000000000000000000000000000000000000000000000 → BoxAt H' b c → Keep b H H' → Q (.int z) H' := fun z H' h0 h1 B' k' => by
    have e : z = ((z.toNat : Nat) : Int) := by omega
    rw [e]
    exact q z.toNat H' (by omega) (by unfold T50; omega) B' k'
  refine ⟨_, (pss_cons (ps_if (pt_cmpR op_eq (pe_call G__law_draw (hr.mono (by decide)) rfl T.m__law_draw T.F__law_draw.kp T.b__law_draw .nil pass0 (pa_cons (pv 0) (pa_cons pe_int pa_nil))) pe_int (nomark _)) (pss_one (ps_ret (pe_op op_add (pv 1) (pe_call G__law_draw (hr.mono (by decide)) rfl T.m__law_draw T.F__law_draw.kp T.b__law_draw .nil pass0 (pa_cons (pv 0) (pa_cons (pe_ix ix_list (pe_lst (pa_cons pe_int (pa_cons pe_int (pa_cons pe_int pa_nil)))) (pe_call G__law_draw (hr.mono (by decide)) rfl T.m__law_draw T.F__law_draw.kp T.b__law_draw .nil pass0 (pa_cons (pv 0) (pa_cons pe_int pa_nil))) (fun _ _ => rfl)) pa_nil)))))) pss_nil)
      (pss_one (ps_ret (pe_op op_add (pv 1) (pe_callB call_abs (by rfl) T.z_abs (by decide +kernel) (pa_cons (pe_call G__law_great (hr.mono (by decide)) rfl T.m__law_great T.F__law_great.kp T.b__law_great .nil pass0 (pa_cons (pv 0) pa_nil)) pa_nil)))))), ?_⟩
  walk_at "ss"
  refine ⟨b, c, _, rfl, B, by decide, by decide, fun r H1 h0 h1 B1 k1 => ?_⟩
  walk_at "ss"
  refine ite2 (fun _ => ?_) (fun _ => ?_)
  · walk_at "ss"
    intro p hp
    have pb := B1.ne_new hp
    walk_at "ss"
    refine ⟨b, c, _, rfl, B1.same (same_new hp _), by decide, by decide, fun r H2 g0 g1 B2 k2 => ?_⟩
    obtain ⟨v, hv, hv0, hv1⟩ : ∃ v : Int, atI [V.int 2, V.int 10, V.int 130] r = some (.int v) ∧ 0 < v ∧ v ≤ 130 := by
      have : r = 0 ∨ r = 1 ∨ r = 2 := by omega
      rcases this with rfl | rfl | rfl <;> exact ⟨_, rfl, by decide, by decide⟩
    refine ⟨_, _, _, _, rfl, rfl, SqL.of (k2 _ _ upd_same pb), hv, ?_⟩
    walk_at "ss"
    refine ⟨b, c, _, rfl, B2, hv0, by omega, fun r2 H3 f0 f1 B3 k3 => ?_⟩
    walk_at "ss"
    exact fin _ _ (by omega) (by omega) B3 (k1.trans ((Keep.of (same_new hp _)).trans (k2.trans k3)))
  · walk_at "ss"
    refine ⟨b, c, rfl, B1, fun n H2 g0 g1 B2 k2 => ?_⟩
    walk_at "ss"
    refine fin _ _ ?_ ?_ B2 (k1.trans k2)
    · split <;> omega
    · split <;> omega
/-- a pair: two numbers and their lowest terms -/
def PairAt (H : Hp) (p : Addr) (t b : Nat) : Prop := ∃ q : Addr, H p = some (.tup [.int t, .int b, .ref q]) ∧ H q = some (tupR (low t b)) ∧ 0 < b ∧ t ≤ T50 ∧ b ≤ T50
theorem PairAt.same {H H' : Hp} {p : Addr} {t b : Nat} (h : PairAt H p t b) (s : Same H H') : PairAt H' p t b := by
  obtain ⟨q, h1, h2, h3⟩ := h
  exact ⟨q, s _ _ h1, s _ _ h2, h3⟩
theorem PairAt.keep {H H' : Hp} {p f c : Addr} {t b : Nat} (h : PairAt H p t b) (k : Keep f H H') (B : BoxAt H f c) : PairAt H' p t b := by
  obtain ⟨q, h1, h2, h3⟩ := h
  exact ⟨q, k _ _ h1 (B.ne_tup h1), k _ _ h2 (B.ne_tup h2), h3⟩
def spPair : Sp := fun vs H Q _ => ∃ (b c : Addr), vs = [.ref b] ∧ BoxAt H b c ∧
  ∀ (p : Addr) (t u : Nat) (H' : Hp), PairAt H' p t u → BoxAt H' b c → Keep b H H' → Q (.ref p) H'
theorem ok_pair (T : Top K mg) : FnOk P w K mg base CX0 5 T.f__law_pair T.d__law_pair ["box"] spPair := by
  have G__law_draw := ok_draw (P := P) (w := w) (base := base) T
  have G__law_number := ok_number (P := P) (w := w) (base := base) T
  have G__law_lowest := ok_lowest (P := P) (w := w) (base := base) T
  refine T.F__law_pair.ok scLpair (fun vs H Q E h => ?_) (fun cdv A outer s H vs Q E hr h => ?_)
  · obtain ⟨_, _, rfl, _⟩ := h
    rfl
  obtain ⟨b, c, rfl, B, q⟩ := h
  refine ⟨_, (pss_cons (ps_set (i := 1) scLpair.nd rfl (Or.inl rfl) (pe_call G__law_number (hr.mono (by decide)) rfl T.m__law_number T.F__law_number.kp T.b__law_number .nil pass0 (pa_cons (pv 0) (pa_cons pe_int pa_nil))))
      (pss_cons (ps_set (i := 2) scLpair.nd rfl (Or.inl rfl) (pe_call G__law_number (hr.mono (by decide)) rfl T.m__law_number T.F__law_number.kp T.b__law_number .nil pass0 (pa_cons (pv 0) (pa_cons pe_int pa_nil))))
      (pss_cons (ps_set (i := 3) scLpair.nd rfl (Or.inl rfl) (pe_call G__law_draw (hr.mono (by decide)) rfl T.m__law_draw T.F__law_draw.kp T.b__law_draw .nil pass0 (pa_cons (pv 0) (pa_cons pe_int pa_nil))))
      (pss_cons (ps_if (pt_cmpR op_eq (pv 3) pe_int (nomark _)) (pss_one (ps_set (i := 1) scLpair.nd rfl (Or.inl rfl) pe_int)) pss_nil)
      (pss_cons (ps_if (pt_cmpR op_eq (pv 3) pe_int (nomark _)) (pss_one (ps_set (i := 1) scLpair.nd rfl (Or.inl rfl) (pv 2))) pss_nil)
      (pss_cons (ps_if (pt_cmpR op_eq (pv 3) pe_int (nomark _)) (pss_cons (ps_set (i := 4) scLpair.nd rfl (Or.inl rfl) (pe_op op_add pe_int (pe_call G__law_draw (hr.mono (by decide)) rfl T.m__law_draw T.F__law_draw.kp T.b__law_draw .nil pass0 (pa_cons (pv 0) (pa_cons (pe_op op_pow pe_int pe_int) pa_nil)))))
      (pss_cons (ps_set (i := 1) scLpair.nd rfl (Or.inl rfl) (pe_op op_mulW (pe_op op_modN (pe_callTy call_int1 (by rfl) T.z_int (by decide +kernel) (pa_cons (pv 1) pa_nil)) (pe_op op_pow pe_int pe_int)) (pv 4)))
      (pss_one (ps_set (i := 2) scLpair.nd rfl (Or.inl rfl) (pe_op op_mulW (pe_op op_add pe_int (pe_op op_modN (pe_callTy call_int1 (by rfl) T.z_int (by decide +kernel) (pa_cons (pv 2) pa_nil)) (pe_op op_pow pe_int pe_int))) (pv 4)))))) pss_nil)
      (pss_one (ps_ret (pe_tup (pa_cons (pv 1) (pa_cons (pv 2) (pa_cons (pe_call G__law_lowest (hr.mono (by decide)) rfl T.m__law_lowest T.F__law_lowest.kp T.b__law_lowest .nil pass0 (pa_cons (pv 1) (pa_cons (pv 2) pa_nil))) pa_nil)))))))))))), ?_⟩
  walk_at "ss"
  refine ⟨b, c, 0, rfl, B, by decide, fun t H1 h0 h1 B1 k1 => ?_⟩
  walk_at "ss"
  refine ⟨b, c, 1, rfl, B1, by decide, fun u H2 g0 g1 B2 k2 => ?_⟩
  walk_at "ss"
  refine ⟨b, c, _, rfl, B2, by decide, by decide, fun r H3 f0 f1 B3 k3 => ?_⟩
  have k13 := k1.trans (k2.trans k3)
  have fin : ∀ (t u : Nat) (H4 : Hp) (z p : Addr) (H5 : Hp), t ≤ T50 → u ≤ T50 → 0 < u → BoxAt H4 b c → Keep b H H4 → Same H4 H5 → H5 z = some (tupR (low t u)) → H5 p = none →
      Q (.ref p) (upd H5 p (.tup [.int (t : Int), .int (u : Int), .ref z])) := fun t u H4 z p H5 e1 e2 e3 B4 k4 s5 hz hp => by
    refine q p t u _ ⟨z, upd_same, same_new hp _ _ _ hz, e3, e1, e2⟩ ((B4.same s5).same (same_new hp _)) (k4.trans ((Keep.of s5).trans (Keep.of (same_new hp _))))
  have lim : T50 ≤ LIM := by decide +kernel
  have cs : r = 0 ∨ r = 1 ∨ r = 2 ∨ r = 3 ∨ r = 4 ∨ r = 5 := by omega
  rcases cs with rfl | rfl | rfl | rfl | rfl | rfl
  · walk_at "ss"
    refine ⟨0, u, rfl, g0, Nat.le_trans g1 lim, fun z H5 n5 s5 hz => ?_⟩
    walk_at "ss"
    exact fun p hp => fin 0 u H3 z p H5 (by decide) g1 g0 B3 k13 s5 hz hp
  · walk_at "ss"
    refine ⟨u, u, rfl, g0, Nat.le_trans g1 lim, fun z H5 n5 s5 hz => ?_⟩
    walk_at "ss"
    exact fun p hp => fin u u H3 z p H5 g1 g1 g0 B3 k13 s5 hz hp
  · walk_at "ss"
    refine ⟨b, c, 1000000, rfl, B3, by decide, by decide, fun d H4 d0 d1 B4 k4 => ?_⟩
    have e1 := fm (x := (t : Int)) (m := 1000000000000000000000000000000) (by decide)
    have e2 := fm (x := (u : Int)) (m := 1000000000000000000000000000000) (by decide)
    obtain ⟨x, hx⟩ : ∃ x : Nat, (t : Int).fmod 1000000000000000000000000000000 = x := ⟨((t : Int).fmod 1000000000000000000000000000000).toNat, by omega⟩
    obtain ⟨y, hy⟩ : ∃ y : Nat, (u : Int).fmod 1000000000000000000000000000000 = y := ⟨((u : Int).fmod 1000000000000000000000000000000).toNat, by omega⟩
    have hx1 : x < 1000000000000000000000000000000 := by omega
    have hy1 : y < 1000000000000000000000000000000 := by omega
    obtain ⟨z, hz⟩ : ∃ z : Nat, 1 + d = z := ⟨(1 + d).toNat, by omega⟩
    have hz1 : z ≤ 1000000 := by omega
    have hz0 : 0 < z := by omega
    have m1 : (t : Int).fmod 1000000000000000000000000000000 * (1 + d) = ((x * z : Nat) : Int) := by rw [hx, hz, Int.natCast_mul]
    have m2 : (1 + (u : Int).fmod 1000000000000000000000000000000) * (1 + d) = (((1 + y) * z : Nat) : Int) := by rw [hy, hz, Int.natCast_mul, Int.natCast_add]; rfl
    have w1 : CMulW ((t : Int).fmod 1000000000000000000000000000000) (1 + d) := by rw [hx, hz]; exact mulW (Nat.le_trans (Nat.le_of_lt hx1) (by decide +kernel)) (Nat.le_trans hz1 (by decide +kernel))
    have w2 : CMulW (1 + (u : Int).fmod 1000000000000000000000000000000) (1 + d) := by
      rw [hy, hz]
      have e : (1 : Int) + (y : Int) = ((1 + y : Nat) : Int) := by omega
      rw [e]
      exact mulW (Nat.le_trans (show 1 + y ≤ 1000000000000000000000000000000 by omega) (by decide +kernel)) (Nat.le_trans hz1 (by decide +kernel))
    have n1 : x * z ≤ T50 := Nat.le_trans (Nat.mul_le_mul (Nat.le_of_lt hx1) hz1) (by decide +kernel)
    have n2 : (1 + y) * z ≤ T50 := Nat.le_trans (Nat.mul_le_mul (show 1 + y ≤ 1000000000000000000000000000000 by omega) hz1) (by decide +kernel)
    have n3 : 0 < (1 + y) * z := Nat.mul_pos (by omega) hz0
    walk_at "ss"
    refine And.intro w1 ?_
    walk_at "ss"
    refine And.intro w2 ?_
    walk_at "ss"
    refine ⟨x * z, (1 + y) * z, two_eq m1 m2, n3, Nat.le_trans n2 lim, fun v H5 n5 s5 hv => ?_⟩
    walk_at "ss"
    intro p hp
    have f := fin _ _ H4 v p H5 n1 n2 n3 B4 (k13.trans k4) s5 hv hp
    rw [← m1, ← m2] at f
    exact f
  all_goals
    walk_at "ss"
    refine ⟨t, u, rfl, g0, Nat.le_trans g1 lim, fun z H5 n5 s5 hz => ?_⟩
    walk_at "ss"
    exact fun p hp => fin t u H3 z p H5 h1 g1 g0 B3 k13 s5 hz hp
/-! ### the program's own -/
def spAdd : Sp := fun vs H Q _ => ∃ (p q : Addr) (a b : Rt), vs = [.ref p, .ref q] ∧ H p = some (tupR a) ∧ H q = some (tupR b) ∧ 0 < a.2 ∧ 0 < b.2 ∧ a.1 ≤ T60 ∧ a.2 ≤ T60 ∧ b.1 ≤ T60 ∧ b.2 ≤ T60 ∧
  ∀ (r : Addr) (H' : Hp), H r = none → Same H H' → H' r = some (tupR (radd a b)) → Q (.ref r) H'
def spMul : Sp := fun vs H Q _ => ∃ (p q : Addr) (a b : Rt), vs = [.ref p, .ref q] ∧ H p = some (tupR a) ∧ H q = some (tupR b) ∧ 0 < a.2 ∧ 0 < b.2 ∧ a.1 ≤ T60 ∧ a.2 ≤ T60 ∧ b.1 ≤ T60 ∧ b.2 ≤ T60 ∧
  ∀ (r : Addr) (H' : Hp), H r = none → Same H H' → H' r = some (tupR (rmul a b)) → Q (.ref r) H'
def leB (a b : Rt) : Bool := decide ((a.1 : Int) * (b.2 : Int) ≤ (b.1 : Int) * (a.2 : Int))
def spLe : Sp := fun vs H Q _ => ∃ (p q : Addr) (a b : Rt), vs = [.ref p, .ref q] ∧ H p = some (tupR a) ∧ H q = some (tupR b) ∧ a.1 ≤ T60 ∧ a.2 ≤ T60 ∧ b.1 ≤ T60 ∧ b.2 ≤ T60 ∧ Q (.bl (leB a b)) H
theorem wU {a b : Nat} (ha : a ≤ T60) (hb : b ≤ T60) : CMulW (a : Int) (b : Int) := mulW (Nat.le_trans ha t60_lim) (Nat.le_trans hb t60_lim)
theorem ok_add (T : Top K mg) : FnOk P w K mg base CX0 2 T.f_add_ratios T.d_add_ratios ["first", "second"] spAdd := by
  have G_ratio := ok_ratio (P := P) (w := w) (base := base) T
  refine T.F_add_ratios.ok scadd_ratios (fun vs H Q E h => ?_) (fun cdv A outer s H vs Q E hr h => ?_)
  · obtain ⟨_, _, _, _, rfl, _⟩ := h
    rfl
  obtain ⟨p, q, ⟨a1, a2⟩, ⟨b1, b2⟩, rfl, hp, hq, pa, pb, u1, u2, u3, u4, k⟩ := h
  refine ⟨_, (pss_one (ps_ret (pe_call G_ratio (hr.mono (by decide)) rfl T.m_ratio T.F_ratio.kp T.b_ratio .nil pass0 (pa_cons (pe_op op_add (pe_op op_mulW (pe_ix ix_tup (pv 0) pe_int (fun _ _ => rfl)) (pe_ix ix_tup (pv 1) pe_int (fun _ _ => rfl))) (pe_op op_mulW (pe_ix ix_tup (pv 1) pe_int (fun _ _ => rfl)) (pe_ix ix_tup (pv 0) pe_int (fun _ _ => rfl)))) (pa_cons (pe_op op_mulW (pe_ix ix_tup (pv 0) pe_int (fun _ _ => rfl)) (pe_ix ix_tup (pv 1) pe_int (fun _ _ => rfl))) pa_nil))))), ?_⟩
  walk_at "ss"
  refine And.intro (wU u1 u4) ?_
  walk_at "ss"
  refine And.intro (wU u3 u2) ?_
  walk_at "ss"
  refine And.intro (wU u2 u4) ?_
  have m1 : (a1 : Int) * (b2 : Int) + (b1 : Int) * (a2 : Int) = ((a1 * b2 + b1 * a2 : Nat) : Int) := by rw [Int.natCast_add, Int.natCast_mul, Int.natCast_mul]
  have m2 : (a2 : Int) * (b2 : Int) = ((a2 * b2 : Nat) : Int) := by rw [Int.natCast_mul]
  refine ⟨_, _, two_eq m1 m2, Nat.mul_pos pa pb, Nat.le_trans (t60_sq u2 u4) (Nat.le_trans (by decide +kernel) lim_120), fun r H' n s5 h5 => ?_⟩
  exact k r H' n s5 h5
theorem ok_mul (T : Top K mg) : FnOk P w K mg base CX0 2 T.f_multiply_ratios T.d_multiply_ratios ["first", "second"] spMul := by
  have G_ratio := ok_ratio (P := P) (w := w) (base := base) T
  refine T.F_multiply_ratios.ok scmultiply_ratios (fun vs H Q E h => ?_) (fun cdv A outer s H vs Q E hr h => ?_)
  · obtain ⟨_, _, _, _, rfl, _⟩ := h
    rfl
  obtain ⟨p, q, ⟨a1, a2⟩, ⟨b1, b2⟩, rfl, hp, hq, pa, pb, u1, u2, u3, u4, k⟩ := h
  refine ⟨_, (pss_one (ps_ret (pe_call G_ratio (hr.mono (by decide)) rfl T.m_ratio T.F_ratio.kp T.b_ratio .nil pass0 (pa_cons (pe_op op_mulW (pe_ix ix_tup (pv 0) pe_int (fun _ _ => rfl)) (pe_ix ix_tup (pv 1) pe_int (fun _ _ => rfl))) (pa_cons (pe_op op_mulW (pe_ix ix_tup (pv 0) pe_int (fun _ _ => rfl)) (pe_ix ix_tup (pv 1) pe_int (fun _ _ => rfl))) pa_nil))))), ?_⟩
  walk_at "ss"
  refine And.intro (wU u1 u3) ?_
  walk_at "ss"
  refine And.intro (wU u2 u4) ?_
  have m1 : (a1 : Int) * (b1 : Int) = ((a1 * b1 : Nat) : Int) := by rw [Int.natCast_mul]
  have m2 : (a2 : Int) * (b2 : Int) = ((a2 * b2 : Nat) : Int) := by rw [Int.natCast_mul]
  refine ⟨_, _, two_eq m1 m2, Nat.mul_pos pa pb, Nat.le_trans (t60_sq u2 u4) (Nat.le_trans (by decide +kernel) lim_120), fun r H' n s5 h5 => ?_⟩
  exact k r H' n s5 h5
theorem ok_le (T : Top K mg) : FnOk P w K mg base CX0 1 T.f_at_most T.d_at_most ["first", "second"] spLe := by
  refine T.F_at_most.ok scat_most (fun vs H Q E h => ?_) (fun cdv A outer s H vs Q E hr h => ?_)
  · obtain ⟨_, _, _, _, rfl, _⟩ := h
    rfl
  obtain ⟨p, q, ⟨a1, a2⟩, ⟨b1, b2⟩, rfl, hp, hq, u1, u2, u3, u4, k⟩ := h
  refine ⟨_, (pss_one (ps_ret (pe_cmpR op_le (pe_op op_mulW (pe_ix ix_tup (pv 0) pe_int (fun _ _ => rfl)) (pe_ix ix_tup (pv 1) pe_int (fun _ _ => rfl))) (pe_op op_mulW (pe_ix ix_tup (pv 1) pe_int (fun _ _ => rfl)) (pe_ix ix_tup (pv 0) pe_int (fun _ _ => rfl))) (nomark _)))), ?_⟩
  walk_at "ss"
  refine And.intro (wU u1 u4) ?_
  walk_at "ss"
  refine And.intro (wU u3 u2) ?_
  walk_at "ss"
  exact k
end
section
variable {P : Program} {w : World} {K : PySem.W.Frag} {mg : Str → Option Value} {base : Heap}
/-- a tuple whose third item is a ratio -/
def Third (H : Hp) (p : Addr) (a : Rt) : Prop := ∃ (q : Addr) (x y : V), H p = some (.tup [x, y, .ref q]) ∧ H q = some (tupR a) ∧ 0 < a.2 ∧ a.1 ≤ T60 ∧ a.2 ≤ T60
theorem Third.same {H H' : Hp} {p : Addr} {a : Rt} (h : Third H p a) (s : Same H H') : Third H' p a := by
  obtain ⟨q, x, y, h1, h2, h3⟩ := h
  exact ⟨q, x, y, s _ _ h1, s _ _ h2, h3⟩
theorem Third.keep {H H' : Hp} {p f c : Addr} {a : Rt} (h : Third H p a) (k : Keep f H H') (B : BoxAt H f c) : Third H' p a := by
  obtain ⟨q, x, y, h1, h2, h3⟩ := h
  exact ⟨q, x, y, k _ _ h1 (B.ne_tup h1), k _ _ h2 (B.ne_tup h2), h3⟩
theorem PairAt.third {H : Hp} {p : Addr} {t b : Nat} (h : PairAt H p t b) : Third H p (low t b) := by
  obtain ⟨q, h1, h2, h3, h4, h5⟩ := h
  have : T50 ≤ T60 := by decide +kernel
  exact ⟨q, _, _, h1, h2, low_pos h3, Nat.le_trans (Nat.le_trans (low_le1 _ _) h4) this, Nat.le_trans (Nat.le_trans (low_le2 _ _) h5) this⟩
theorem Al.rt {H : Hp} {n : Nat} {p q : Addr} {r : Rt} (hp : H p = some (tupR r)) (hq : H q = some (tupR r)) : Al H (n + 1) (.ref p) (.ref q) := .tup2 hp hq (.int _ _) (.int _ _)
def spNear : Sp := fun vs H Q _ => ∃ (f c p : Addr) (t b : Nat), vs = [.ref f, .ref p] ∧ BoxAt H f c ∧ PairAt H p t b ∧
  ∀ (r : Addr) (a : Rt) (H' : Hp), Third H' r a → BoxAt H' f c → Keep f H H' → Q (.ref r) H'
theorem ok_near (T : Top K mg) : FnOk P w K mg base CX0 5 T.f__law_near T.d__law_near ["box", "one"] spNear := by
  have G__law_draw := ok_draw (P := P) (w := w) (base := base) T
  have G__law_lowest := ok_lowest (P := P) (w := w) (base := base) T
  refine T.F__law_near.ok scLnear (fun vs H Q E h => ?_) (fun cdv A outer s H vs Q E hr h => ?_)
  · obtain ⟨_, _, _, _, _, rfl, _⟩ := h
    rfl
  obtain ⟨f, c, p, t, b, rfl, B, ⟨z, h1, h2, h3, h4, h5⟩, q⟩ := h
  have l1 := Nat.le_trans (low_le1 t b) h4
  have l2 := Nat.le_trans (low_le2 t b) h5
  have l3 := low_pos (t := t) h3
  unfold tupR at h2
  generalize (low t b).1 = x at *
  generalize (low t b).2 = y at *
  refine ⟨_, (pss_cons (ps_asg (pe_ix ix_tup (pv 1) pe_int (fun _ _ => rfl)) (pg_tup (by rfl) (pgs_cons (pg_name (i := 2) scLnear.nd rfl (Or.inl rfl)) (pgs_cons (pg_name (i := 3) scLnear.nd rfl (Or.inl rfl)) pgs_nil))))
      (pss_cons (ps_set (i := 4) scLnear.nd rfl (Or.inl rfl) (pe_op op_add pe_int (pe_call G__law_draw (hr.mono (by decide)) rfl T.m__law_draw T.F__law_draw.kp T.b__law_draw .nil pass0 (pa_cons (pv 0) (pa_cons pe_int pa_nil)))))
      (pss_cons (ps_set (i := 5) scLnear.nd rfl (Or.inl rfl) (pe_op op_add pe_int (pe_call G__law_draw (hr.mono (by decide)) rfl T.m__law_draw T.F__law_draw.kp T.b__law_draw .nil pass0 (pa_cons (pv 0) (pa_cons (pe_op op_pow pe_int pe_int) pa_nil)))))
      (pss_one (ps_ret (pe_tup (pa_cons pe_int (pa_cons pe_int (pa_cons (pe_call G__law_lowest (hr.mono (by decide)) rfl T.m__law_lowest T.F__law_lowest.kp T.b__law_lowest .nil pass0 (pa_cons (pe_op op_add (pe_op op_mulW (pv 2) (pv 5)) (pv 4)) (pa_cons (pe_op op_mulW (pv 3) (pv 5)) pa_nil))) pa_nil))))))))), ?_⟩
  walk_at "ss"
  refine ⟨_, _, rfl, SqT.of h2, rfl, ?_⟩
  refine ⟨_, _, rfl, ?_⟩
  refine ⟨_, _, rfl, rfl, ?_⟩
  walk_at "ss"
  refine ⟨f, c, 3, rfl, B, by decide, by decide, fun d H1 d0 d1 B1 k1 => ?_⟩
  walk_at "ss"
  refine ⟨f, c, 1000000000, rfl, B1, by decide, by decide, fun e H2 e0 e1 B2 k2 => ?_⟩
  obtain ⟨m, hm⟩ : ∃ m : Nat, 1 + d = m := ⟨(1 + d).toNat, by omega⟩
  obtain ⟨n, hn⟩ : ∃ n : Nat, 1 + e = n := ⟨(1 + e).toNat, by omega⟩
  have hm1 : m ≤ 3 := by omega
  have hn1 : n ≤ 1000000000 := by omega
  have hn0 : 0 < n := by omega
  have lim : T50 ≤ LIM := by decide +kernel
  have limn : n ≤ LIM := Nat.le_trans hn1 (by decide +kernel)
  have w1 : CMulW (x : Int) (1 + e) := by rw [hn]; exact mulW (Nat.le_trans l1 lim) limn
  have w2 : CMulW (y : Int) (1 + e) := by rw [hn]; exact mulW (Nat.le_trans l2 lim) limn
  have m1 : (x : Int) * (1 + e) + (1 + d) = ((x * n + m : Nat) : Int) := by rw [hn, hm, Int.natCast_add, Int.natCast_mul]
  have m2 : (y : Int) * (1 + e) = ((y * n : Nat) : Int) := by rw [hn, Int.natCast_mul]
  have big1 : x * n ≤ T50 * 1000000000 := Nat.mul_le_mul l1 hn1
  have big2 : y * n ≤ T50 * 1000000000 := Nat.mul_le_mul l2 hn1
  have t1 : T50 * 1000000000 + 3 ≤ T60 := by decide +kernel
  have n1 : x * n + m ≤ T60 := by omega
  have n2 : y * n ≤ T60 := by omega
  have n3 : 0 < y * n := Nat.mul_pos l3 hn0
  walk_at "ss"
  refine ⟨_, _, two_eq m1 m2, n3, Nat.le_trans n2 t60_lim, fun v H5 f5 s5 hv => ?_⟩
  walk_at "ss"
  intro r hr5
  have s6 := s5.trans (same_new hr5 (.tup [.int 0, .int 0, .ref v]))
  exact q r _ _ ⟨v, _, _, upd_same, same_new hr5 _ _ _ hv, low_pos n3, Nat.le_trans (low_le1 _ _) n1, Nat.le_trans (low_le2 _ _) n2⟩ (B2.same s6) (k1.trans (k2.trans (Keep.of s6)))
def spTwo : Sp := fun vs H Q _ => ∃ (p q : Addr) (a b : Rt), vs = [.ref p, .ref q] ∧ Third H p a ∧ Third H q b ∧ ∀ H', Same H H' → Q (.bl true) H'
theorem ok_two (T : Top K mg) : FnOk P w K mg base CX0 4 T.f__law_two T.d__law_two ["one", "other"] spTwo := by
  have G__law_lowest := ok_lowest (P := P) (w := w) (base := base) T
  have G__law_alike := ok_alike (P := P) (w := w) (base := base) T 3
  have G_add_ratios := ok_add (P := P) (w := w) (base := base) T
  have G_multiply_ratios := ok_mul (P := P) (w := w) (base := base) T
  have G_at_most := ok_le (P := P) (w := w) (base := base) T
  refine T.F__law_two.ok scLtwo (fun vs H Q E h => ?_) (fun cdv A outer s H vs Q E hr h => ?_)
  · obtain ⟨_, _, _, _, rfl, _⟩ := h
    rfl
  obtain ⟨p, q, a, b, rfl, ⟨p2, x1, y1, hp1, hp2, pa, u1, u2⟩, ⟨q2, x2, y2, hq1, hq2, pb, u3, u4⟩, k⟩ := h
  have m1 : (a.1 : Int) * (b.2 : Int) + (b.1 : Int) * (a.2 : Int) = ((a.1 * b.2 + b.1 * a.2 : Nat) : Int) := by rw [Int.natCast_add, Int.natCast_mul, Int.natCast_mul]
  have m2 : (a.2 : Int) * (b.2 : Int) = ((a.2 * b.2 : Nat) : Int) := by rw [Int.natCast_mul]
  have m3 : (a.1 : Int) * (b.1 : Int) = ((a.1 * b.1 : Nat) : Int) := by rw [Int.natCast_mul]
  have lm : a.2 * b.2 ≤ LIM := Nat.le_trans (t60_sq u2 u4) (Nat.le_trans (by decide +kernel) lim_120)
  refine ⟨_, (pss_cons (ps_set (i := 2) scLtwo.nd rfl (Or.inl rfl) (pe_ix ix_tup (pv 0) pe_int (fun _ _ => rfl)))
      (pss_cons (ps_set (i := 3) scLtwo.nd rfl (Or.inl rfl) (pe_ix ix_tup (pv 1) pe_int (fun _ _ => rfl)))
      (pss_cons (ps_set (i := 4) scLtwo.nd rfl (Or.inl rfl) (pe_call G__law_lowest (hr.mono (by decide)) rfl T.m__law_lowest T.F__law_lowest.kp T.b__law_lowest .nil pass0 (pa_cons (pe_op op_add (pe_op op_mulW (pe_ix ix_tup (pv 2) pe_int (fun _ _ => rfl)) (pe_ix ix_tup (pv 3) pe_int (fun _ _ => rfl))) (pe_op op_mulW (pe_ix ix_tup (pv 3) pe_int (fun _ _ => rfl)) (pe_ix ix_tup (pv 2) pe_int (fun _ _ => rfl)))) (pa_cons (pe_op op_mulW (pe_ix ix_tup (pv 2) pe_int (fun _ _ => rfl)) (pe_ix ix_tup (pv 3) pe_int (fun _ _ => rfl))) pa_nil))))
      (pss_cons (ps_set (i := 5) scLtwo.nd rfl (Or.inl rfl) (pe_call G__law_lowest (hr.mono (by decide)) rfl T.m__law_lowest T.F__law_lowest.kp T.b__law_lowest .nil pass0 (pa_cons (pe_op op_mulW (pe_ix ix_tup (pv 2) pe_int (fun _ _ => rfl)) (pe_ix ix_tup (pv 3) pe_int (fun _ _ => rfl))) (pa_cons (pe_op op_mulW (pe_ix ix_tup (pv 2) pe_int (fun _ _ => rfl)) (pe_ix ix_tup (pv 3) pe_int (fun _ _ => rfl))) pa_nil))))
      (pss_cons (ps_if (pt_not (pt_val (pe_call G__law_alike (hr.mono (by decide)) rfl T.m__law_alike T.F__law_alike.kp T.b__law_alike .nil pass0 (pa_cons (pe_tup (pa_cons (pe_call G_add_ratios (hr.mono (by decide)) rfl T.m_add_ratios T.F_add_ratios.kp T.b_add_ratios .nil pass0 (pa_cons (pv 2) (pa_cons (pv 3) pa_nil))) (pa_cons (pe_call G_multiply_ratios (hr.mono (by decide)) rfl T.m_multiply_ratios T.F_multiply_ratios.kp T.b_multiply_ratios .nil pass0 (pa_cons (pv 2) (pa_cons (pv 3) pa_nil))) pa_nil))) (pa_cons (pe_tup (pa_cons (pv 4) (pa_cons (pv 5) pa_nil))) pa_nil))))) (pss_one (ps_ret pe_bl)) pss_nil)
      (pss_cons (ps_if (pt_not (pt_val (pe_call G__law_alike (hr.mono (by decide)) rfl T.m__law_alike T.F__law_alike.kp T.b__law_alike .nil pass0 (pa_cons (pe_tup (pa_cons (pe_callK0 G_add_ratios (hr.mono (by decide)) rfl T.m_add_ratios T.F_add_ratios.kp T.k_add_ratios_0_second_first pass0 (pk_cons (pv 2) (pk_cons (pv 3) pk_nil))) (pa_cons (pe_callK0 G_multiply_ratios (hr.mono (by decide)) rfl T.m_multiply_ratios T.F_multiply_ratios.kp T.k_multiply_ratios_0_second_first pass0 (pk_cons (pv 2) (pk_cons (pv 3) pk_nil))) pa_nil))) (pa_cons (pe_tup (pa_cons (pv 4) (pa_cons (pv 5) pa_nil))) pa_nil))))) (pss_one (ps_ret pe_bl)) pss_nil)
      (pss_cons (ps_if (pt_not (pt_val (pe_call G__law_alike (hr.mono (by decide)) rfl T.m__law_alike T.F__law_alike.kp T.b__law_alike .nil pass0 (pa_cons (pe_call G_at_most (hr.mono (by decide)) rfl T.m_at_most T.F_at_most.kp T.b_at_most .nil pass0 (pa_cons (pv 2) (pa_cons (pv 3) pa_nil))) (pa_cons (pe_cmpR op_le (pe_op op_mulW (pe_ix ix_tup (pv 2) pe_int (fun _ _ => rfl)) (pe_ix ix_tup (pv 3) pe_int (fun _ _ => rfl))) (pe_op op_mulW (pe_ix ix_tup (pv 3) pe_int (fun _ _ => rfl)) (pe_ix ix_tup (pv 2) pe_int (fun _ _ => rfl))) (nomark _)) pa_nil))))) (pss_one (ps_ret pe_bl)) pss_nil)
      (pss_one (ps_ret (pe_call G__law_alike (hr.mono (by decide)) rfl T.m__law_alike T.F__law_alike.kp T.b__law_alike .nil pass0 (pa_cons (pe_callK0 G_at_most (hr.mono (by decide)) rfl T.m_at_most T.F_at_most.kp T.k_at_most_0_second_first pass0 (pk_cons (pv 2) (pk_cons (pv 3) pk_nil))) (pa_cons (pe_cmpR op_le (pe_op op_mulW (pe_ix ix_tup (pv 3) pe_int (fun _ _ => rfl)) (pe_ix ix_tup (pv 2) pe_int (fun _ _ => rfl))) (pe_op op_mulW (pe_ix ix_tup (pv 2) pe_int (fun _ _ => rfl)) (pe_ix ix_tup (pv 3) pe_int (fun _ _ => rfl))) (nomark _)) pa_nil)))))))))))), ?_⟩
  have g1 : H p2 = some (.tup [.int (a.1 : Int), .int (a.2 : Int)]) := hp2
  have g2 : H q2 = some (.tup [.int (b.1 : Int), .int (b.2 : Int)]) := hq2
  walk_at "ss"
  refine And.intro (wU u1 u4) ?_
  walk_at "ss"
  refine And.intro (wU u3 u2) ?_
  walk_at "ss"
  refine And.intro (wU u2 u4) ?_
  refine ⟨_, _, two_eq m1 m2, Nat.mul_pos pa pb, lm, fun z1 H1 f1 s1 hz1 => ?_⟩
  have g1 := s1 _ _ g1
  have g2 := s1 _ _ g2
  walk_at "ss"
  refine And.intro (wU u1 u3) ?_
  walk_at "ss"
  refine And.intro (wU u2 u4) ?_
  refine ⟨_, _, two_eq m3 m2, Nat.mul_pos pa pb, lm, fun z2 H2 f2 s2 hz2 => ?_⟩
  have g1 := s2 _ _ g1
  have g2 := s2 _ _ g2
  have hz1 := s2 _ _ hz1
  have S2 := s1.trans s2
  -- the sum and the product
  walk_at "ss"
  refine ⟨_, _, a, b, rfl, g1, g2, pa, pb, u1, u2, u3, u4, fun r1 H3 f3 s3 hr1 => ?_⟩
  walk_at "ss"
  refine ⟨_, _, a, b, rfl, s3 _ _ g1, s3 _ _ g2, pa, pb, u1, u2, u3, u4, fun r2 H4 f4 s4 hr2 => ?_⟩
  walk_at "ss"
  intro t1 ht1
  walk_at "ss"
  intro t2 ht2
  have st1 := same_new ht1 (.tup [.ref r1, .ref r2])
  have st2 := same_new ht2 (.tup [.ref z1, .ref z2])
  have S4 := s3.trans (s4.trans (st1.trans st2))
  refine ⟨_, _, rfl, .tup2 (st2 _ _ upd_same) upd_same (.rt (st2 _ _ (st1 _ _ (s4 _ _ hr1))) (S4 _ _ hz1)) (.rt (st2 _ _ (st1 _ _ hr2)) (S4 _ _ hz2)), fun H5 s5 => ?_⟩
  have S5 := S4.trans s5
  have g1 := S5 _ _ g1
  have g2 := S5 _ _ g2
  have hz1 := S5 _ _ hz1
  have hz2 := S5 _ _ hz2
  have S2 := S2.trans S5
  clear S5 S4 s5 st2 st1
  walk_at "ss"
  -- by name, the other way round
  refine ⟨_, _, b, a, rfl, g2, g1, pb, pa, u3, u4, u1, u2, fun r3 H6 f6 s6 hr3 => ?_⟩
  walk_at "ss"
  refine ⟨_, _, b, a, rfl, s6 _ _ g2, s6 _ _ g1, pb, pa, u3, u4, u1, u2, fun r4 H7 f7 s7 hr4 => ?_⟩
  rw [radd_comm] at hr3
  rw [rmul_comm] at hr4
  walk_at "ss"
  intro t3 ht3
  walk_at "ss"
  intro t4 ht4
  have st1 := same_new ht3 (.tup [.ref r3, .ref r4])
  have st2 := same_new ht4 (.tup [.ref z1, .ref z2])
  have S4 := s6.trans (s7.trans (st1.trans st2))
  refine ⟨_, _, rfl, .tup2 (st2 _ _ upd_same) upd_same (.rt (st2 _ _ (st1 _ _ (s7 _ _ hr3))) (S4 _ _ hz1)) (.rt (st2 _ _ (st1 _ _ hr4)) (S4 _ _ hz2)), fun H8 s8 => ?_⟩
  have S5 := S4.trans s8
  have g1 := S5 _ _ g1
  have g2 := S5 _ _ g2
  have S2 := S2.trans S5
  walk_at "ss"
  refine ⟨_, _, a, b, rfl, g1, g2, u1, u2, u3, u4, ?_⟩
  walk_at "ss"
  refine And.intro (wU u1 u4) ?_
  walk_at "ss"
  refine And.intro (wU u3 u2) ?_
  walk_at "ss"
  refine ⟨_, _, rfl, .bl _ _, fun H9 s9 => ?_⟩
  have g1 := s9 _ _ g1
  have g2 := s9 _ _ g2
  walk_at "ss"
  refine ⟨_, _, b, a, rfl, g2, g1, u3, u4, u1, u2, ?_⟩
  walk_at "ss"
  refine And.intro (wU u3 u2) ?_
  walk_at "ss"
  refine And.intro (wU u1 u4) ?_
  walk_at "ss"
  refine ⟨_, _, rfl, .bl _ _, fun H10 s10 => ?_⟩
  exact k _ (S2.trans (s9.trans s10))
end
def spLaw (K : PySem.W.Frag) : Sp := fun vs H Q _ => ∃ (a : Addr) (ns : List Int), vs = [.ref a] ∧ SqL K H a (ns.map V.int) ∧ ns.length ≤ 63 ∧ ∀ H', Q (.bl true) H'
section
variable {P : Program} {w : World} {K : PySem.W.Frag} {mg : Str → Option Value} {base : Heap}
structure Lw (f cf L p1 p2 p3 : Addr) (t1 u1 t2 u2 t3 u3 : Nat) (H : Hp) : Prop where
  l : H L = some (.lst [.ref p1, .ref p2, .ref p3])
  a : PairAt H p1 t1 u1
  b : PairAt H p2 t2 u2
  c : PairAt H p3 t3 u3
  f : BoxAt H f cf
theorem Lw.same {f cf L p1 p2 p3 : Addr} {t1 u1 t2 u2 t3 u3 : Nat} {H H' : Hp} (W : Lw f cf L p1 p2 p3 t1 u1 t2 u2 t3 u3 H) (s : Same H H') : Lw f cf L p1 p2 p3 t1 u1 t2 u2 t3 u3 H' :=
  ⟨s _ _ W.l, W.a.same s, W.b.same s, W.c.same s, W.f.same s⟩
theorem Lw.keep {f cf L p1 p2 p3 : Addr} {t1 u1 t2 u2 t3 u3 : Nat} {H H' : Hp} (W : Lw f cf L p1 p2 p3 t1 u1 t2 u2 t3 u3 H) (k : Keep f H H') (B : BoxAt H' f cf) : Lw f cf L p1 p2 p3 t1 u1 t2 u2 t3 u3 H' :=
  ⟨k _ _ W.l (W.f.ne_lst W.l (by simp)), W.a.keep k W.f, W.b.keep k W.f, W.c.keep k W.f, B⟩
theorem low0 {u : Nat} (h : 0 < u) : low 0 u = (0, 1) := by
  unfold low
  rw [Nat.gcd_zero_left, Nat.zero_div, Nat.div_self h]
/-- a tuple whose third item is a ratio of small numbers -/
abbrev T14 : Nat := 100000000000000
def Sm (H : Hp) (p : Addr) (a : Rt) : Prop := ∃ (q : Addr) (x y : V), H p = some (.tup [x, y, .ref q]) ∧ H q = some (tupR a) ∧ 0 < a.2 ∧ a.1 ≤ T14 ∧ a.2 ≤ T14
theorem Sm.same {H H' : Hp} {p : Addr} {a : Rt} (h : Sm H p a) (s : Same H H') : Sm H' p a := by
  obtain ⟨q, x, y, h1, h2, h3⟩ := h
  exact ⟨q, x, y, s _ _ h1, s _ _ h2, h3⟩
theorem tup_put {H : Hp} {D p : Addr} {xs ys zs : List V} (hd : H D = some (.lst xs)) (h : H p = some (.tup zs)) : upd H D (.lst ys) p = some (.tup zs) := by
  rw [upd_ne (ne_of h hd (by intro z; cases z))]
  exact h
theorem Sm.put {H : Hp} {p D : Addr} {a : Rt} {xs ys : List V} (h : Sm H p a) (hd : H D = some (.lst xs)) : Sm (upd H D (.lst ys)) p a := by
  obtain ⟨q, x, y, h1, h2, h3⟩ := h
  exact ⟨q, x, y, tup_put hd h1, tup_put hd h2, h3⟩
theorem PairAt.put {H : Hp} {p D : Addr} {t b : Nat} {xs ys : List V} (h : PairAt H p t b) (hd : H D = some (.lst xs)) : PairAt (upd H D (.lst ys)) p t b := by
  obtain ⟨q, h1, h2, h3⟩ := h
  exact ⟨q, tup_put hd h1, tup_put hd h2, h3⟩
theorem mul14 {a b : Nat} (ha : a ≤ T14) (hb : b ≤ T14) : a * b ≤ 10000000000000000000000000000 := Nat.le_trans (Nat.mul_le_mul ha hb) (by decide +kernel)
theorem radd_le {a b : Rt} (h1 : a.1 ≤ T14) (h2 : a.2 ≤ T14) (h3 : b.1 ≤ T14) (h4 : b.2 ≤ T14) : (radd a b).1 ≤ T60 ∧ (radd a b).2 ≤ T60 := by
  have e1 := mul14 h1 h4
  have e2 := mul14 h3 h2
  have e3 := mul14 h2 h4
  have f1 := low_le1 (a.1 * b.2 + b.1 * a.2) (a.2 * b.2)
  have f2 := low_le2 (a.1 * b.2 + b.1 * a.2) (a.2 * b.2)
  unfold radd T60
  omega
theorem rmul_le {a b : Rt} (h1 : a.1 ≤ T14) (h2 : a.2 ≤ T14) (h3 : b.1 ≤ T14) (h4 : b.2 ≤ T14) : (rmul a b).1 ≤ T60 ∧ (rmul a b).2 ≤ T60 := by
  have e1 := mul14 h1 h3
  have e3 := mul14 h2 h4
  have f1 := low_le1 (a.1 * b.1) (a.2 * b.2)
  have f2 := low_le2 (a.1 * b.1) (a.2 * b.2)
  unfold rmul T60
  omega
theorem t14_60 {a : Nat} (h : a ≤ T14) : a ≤ T60 := Nat.le_trans h (by decide +kernel)
structure Six (r1 r2 r3 x1 x2 x3 : Addr) (a1 a2 a3 : Rt) (v1 w1 v2 w2 v3 w3 : V) (H : Hp) : Prop where
  k1 : H r1 = some (.tup [v1, w1, .ref x1])
  l1 : H x1 = some (tupR a1)
  k2 : H r2 = some (.tup [v2, w2, .ref x2])
  l2 : H x2 = some (tupR a2)
  k3 : H r3 = some (.tup [v3, w3, .ref x3])
  l3 : H x3 = some (tupR a3)
theorem Six.same {r1 r2 r3 x1 x2 x3 : Addr} {a1 a2 a3 : Rt} {v1 w1 v2 w2 v3 w3 : V} {H H' : Hp} (h : Six r1 r2 r3 x1 x2 x3 a1 a2 a3 v1 w1 v2 w2 v3 w3 H) (s : Same H H') : Six r1 r2 r3 x1 x2 x3 a1 a2 a3 v1 w1 v2 w2 v3 w3 H' :=
  ⟨s _ _ h.k1, s _ _ h.l1, s _ _ h.k2, s _ _ h.l2, s _ _ h.k3, s _ _ h.l3⟩
theorem ok_law (T : Top K mg) : FnOk P w K mg base CX0 7 T.f_law T.d_law ["script"] (spLaw K) := by
  have G__law_box := ok_box (P := P) (w := w) (base := base) T
  have G__law_pair := ok_pair (P := P) (w := w) (base := base) T
  have G__law_lowest := ok_lowest (P := P) (w := w) (base := base) T
  have G__law_alike := ok_alike (P := P) (w := w) (base := base) T 3
  have G_add_ratios := ok_add (P := P) (w := w) (base := base) T
  have G_multiply_ratios := ok_mul (P := P) (w := w) (base := base) T
  have G_ratio := ok_ratio (P := P) (w := w) (base := base) T
  have G__law_two := ok_two (P := P) (w := w) (base := base) T
  have G__law_near := ok_near (P := P) (w := w) (base := base) T
  refine T.F_law.ok sclaw (fun vs H Q E h => ?_) (fun cdv A outer s H vs Q E hr h => ?_)
  · obtain ⟨_, _, rfl, _⟩ := h
    rfl
  obtain ⟨a, ns, rfl, hS, h63, q⟩ := h
  refine ⟨_, (pss_cons (ps_set (i := 1) sclaw.nd rfl (Or.inl rfl) (pe_call G__law_box (hr.mono (by decide)) rfl T.m__law_box T.F__law_box.kp T.b__law_box .nil pass0 (pa_cons (pv 0) (pa_cons pe_int pa_nil))))
      (pss_cons (ps_set (i := 2) sclaw.nd rfl (Or.inl rfl) (pe_call G__law_box (hr.mono (by decide)) rfl T.m__law_box T.F__law_box.kp T.b__law_box .nil pass0 (pa_cons (pv 0) (pa_cons pe_int pa_nil))))
      (pss_cons (ps_set (i := 3) sclaw.nd rfl (Or.inl rfl) (pe_lst (pa_cons (pe_call G__law_pair (hr.mono (by decide)) rfl T.m__law_pair T.F__law_pair.kp T.b__law_pair .nil pass0 (pa_cons (pv 1) pa_nil)) (pa_cons (pe_call G__law_pair (hr.mono (by decide)) rfl T.m__law_pair T.F__law_pair.kp T.b__law_pair .nil pass0 (pa_cons (pv 2) pa_nil)) (pa_cons (pe_call G__law_pair (hr.mono (by decide)) rfl T.m__law_pair T.F__law_pair.kp T.b__law_pair .nil pass0 (pa_cons (pv 2) pa_nil)) pa_nil)))))
      (pss_cons (ps_for PassesOwn.never rfl (pi_list (pv 3)) (pg_name (i := 4) sclaw.nd rfl (Or.inl rfl)) (pss_cons (ps_set (i := 5) sclaw.nd rfl (Or.inl rfl) (pe_callK0 G_ratio (hr.mono (by decide)) rfl T.m_ratio T.F_ratio.kp T.k_ratio_0_bottom_top pass0 (pk_cons (pe_ix ix_tup (pv 4) pe_int (fun _ _ => rfl)) (pk_cons (pe_ix ix_tup (pv 4) pe_int (fun _ _ => rfl)) pk_nil))))
      (pss_cons (ps_if (PW.pt (pw_or (pt_not (pt_val (pe_call G__law_alike (hr.mono (by decide)) rfl T.m__law_alike T.F__law_alike.kp T.b__law_alike .nil pass0 (pa_cons (pe_call G_ratio (hr.mono (by decide)) rfl T.m_ratio T.F_ratio.kp T.b_ratio .nil pass0 (pa_cons (pe_ix ix_tup (pv 4) pe_int (fun _ _ => rfl)) (pa_cons (pe_ix ix_tup (pv 4) pe_int (fun _ _ => rfl)) pa_nil))) (pa_cons (pe_ix ix_tup (pv 4) pe_int (fun _ _ => rfl)) pa_nil))))) (pw_or1 (pt_not (pt_val (pe_call G__law_alike (hr.mono (by decide)) rfl T.m__law_alike T.F__law_alike.kp T.b__law_alike .nil pass0 (pa_cons (pv 5) (pa_cons (pe_ix ix_tup (pv 4) pe_int (fun _ _ => rfl)) pa_nil)))))))) (pss_one (ps_ret pe_bl)) pss_nil)
      (pss_one (ps_if (PW.pt (pw_or (pt_not (pt_val (pe_call G__law_two (hr.mono (by decide)) rfl T.m__law_two T.F__law_two.kp T.b__law_two .nil pass0 (pa_cons (pv 4) (pa_cons (pv 4) pa_nil))))) (pw_or1 (pt_not (pt_val (pe_call G__law_two (hr.mono (by decide)) rfl T.m__law_two T.F__law_two.kp T.b__law_two .nil pass0 (pa_cons (pv 4) (pa_cons (pe_call G__law_near (hr.mono (by decide)) rfl T.m__law_near T.F__law_near.kp T.b__law_near .nil pass0 (pa_cons (pv 2) (pa_cons (pv 4) pa_nil))) pa_nil)))))))) (pss_one (ps_ret pe_bl)) pss_nil)))))
      (pss_cons (ps_asg (pv 3) (pg_unl (by rfl) (pgs_cons (pg_name (i := 6) sclaw.nd rfl (Or.inl rfl)) (pgs_cons (pg_name (i := 7) sclaw.nd rfl (Or.inl rfl)) (pgs_cons (pg_name (i := 8) sclaw.nd rfl (Or.inl rfl)) pgs_nil)))))
      (pss_cons (ps_if (PW.pt (pw_or (pt_not (pt_val (pe_call G__law_two (hr.mono (by decide)) rfl T.m__law_two T.F__law_two.kp T.b__law_two .nil pass0 (pa_cons (pv 6) (pa_cons (pv 7) pa_nil))))) (pw_or (pt_not (pt_val (pe_call G__law_two (hr.mono (by decide)) rfl T.m__law_two T.F__law_two.kp T.b__law_two .nil pass0 (pa_cons (pv 7) (pa_cons (pv 8) pa_nil))))) (pw_or1 (pt_not (pt_val (pe_call G__law_alike (hr.mono (by decide)) rfl T.m__law_alike T.F__law_alike.kp T.b__law_alike .nil pass0 (pa_cons (pe_call G_ratio (hr.mono (by decide)) rfl T.m_ratio T.F_ratio.kp T.b_ratio .nil pass0 (pa_cons pe_int (pa_cons (pe_ix ix_tup (pv 7) pe_int (fun _ _ => rfl)) pa_nil))) (pa_cons (pe_tup (pa_cons pe_int (pa_cons pe_int pa_nil))) pa_nil))))))))) (pss_one (ps_ret pe_bl)) pss_nil)
      (pss_cons (ps_asg (pe_lc (own := [("pair", 4)]) (g := gName 4) (tt := tYes) rfl sclaw.nd (pi_list (pv 3)) (blkOk_by (own := [("pair", 4)]) (N := ["script", "box", "far", "pairs", "pair", "told", "one", "other", "third", "sums", "parts", "whole"]) (sc := defScope s_law) (by decide +kernel)) (fun _ _ _ _ _ => (pg_name (i := 4) sclaw.nd rfl (Or.inl rfl))) (fun _ _ _ _ _ => pts_nil) (fun _ _ _ _ _ => (pe_tup (pa_cons pe_int (pa_cons pe_int (pa_cons (pe_call G__law_lowest (hr.mono (by decide)) rfl T.m__law_lowest T.F__law_lowest.kp T.b__law_lowest .nil pass0 (pa_cons (pe_op op_modN (pe_callTy call_int1 (by rfl) T.z_int (by decide +kernel) (pa_cons (pe_ix (show IxR _ (rIxT K) from ix_tup) (pv 4) pe_int (fun _ _ => rfl)) pa_nil)) (pe_op op_pow pe_int pe_int)) (pa_cons (pe_op op_add pe_int (pe_op op_modN (pe_callTy call_int1 (by rfl) T.z_int (by decide +kernel) (pa_cons (pe_ix (show IxR _ (rIxT K) from ix_tup) (pv 4) pe_int (fun _ _ => rfl)) pa_nil)) (pe_op op_pow pe_int pe_int))) pa_nil))) pa_nil)))))) (pg_unl (by rfl) (pgs_cons (pg_name (i := 6) sclaw.nd rfl (Or.inl rfl)) (pgs_cons (pg_name (i := 7) sclaw.nd rfl (Or.inl rfl)) (pgs_cons (pg_name (i := 8) sclaw.nd rfl (Or.inl rfl)) pgs_nil)))))
      (pss_cons (ps_set (i := 9) sclaw.nd rfl (Or.inl rfl) (pe_lst (pa_cons (pe_call G_add_ratios (hr.mono (by decide)) rfl T.m_add_ratios T.F_add_ratios.kp T.b_add_ratios .nil pass0 (pa_cons (pe_call G_add_ratios (hr.mono (by decide)) rfl T.m_add_ratios T.F_add_ratios.kp T.b_add_ratios .nil pass0 (pa_cons (pe_ix ix_tup (pv 6) pe_int (fun _ _ => rfl)) (pa_cons (pe_ix ix_tup (pv 7) pe_int (fun _ _ => rfl)) pa_nil))) (pa_cons (pe_ix ix_tup (pv 8) pe_int (fun _ _ => rfl)) pa_nil))) (pa_cons (pe_call G_add_ratios (hr.mono (by decide)) rfl T.m_add_ratios T.F_add_ratios.kp T.b_add_ratios .nil pass0 (pa_cons (pe_ix ix_tup (pv 6) pe_int (fun _ _ => rfl)) (pa_cons (pe_call G_add_ratios (hr.mono (by decide)) rfl T.m_add_ratios T.F_add_ratios.kp T.b_add_ratios .nil pass0 (pa_cons (pe_ix ix_tup (pv 7) pe_int (fun _ _ => rfl)) (pa_cons (pe_ix ix_tup (pv 8) pe_int (fun _ _ => rfl)) pa_nil))) pa_nil))) pa_nil))))
      (pss_cons (ps_set (i := 10) sclaw.nd rfl (Or.inl rfl) (pe_lst (pa_cons (pe_call G_multiply_ratios (hr.mono (by decide)) rfl T.m_multiply_ratios T.F_multiply_ratios.kp T.b_multiply_ratios .nil pass0 (pa_cons (pe_ix ix_tup (pv 6) pe_int (fun _ _ => rfl)) (pa_cons (pe_ix ix_tup (pv 8) pe_int (fun _ _ => rfl)) pa_nil))) (pa_cons (pe_call G_multiply_ratios (hr.mono (by decide)) rfl T.m_multiply_ratios T.F_multiply_ratios.kp T.b_multiply_ratios .nil pass0 (pa_cons (pe_ix ix_tup (pv 7) pe_int (fun _ _ => rfl)) (pa_cons (pe_ix ix_tup (pv 8) pe_int (fun _ _ => rfl)) pa_nil))) pa_nil))))
      (pss_cons (ps_set (i := 11) sclaw.nd rfl (Or.inl rfl) (pe_call G_multiply_ratios (hr.mono (by decide)) rfl T.m_multiply_ratios T.F_multiply_ratios.kp T.b_multiply_ratios .nil pass0 (pa_cons (pe_call G_add_ratios (hr.mono (by decide)) rfl T.m_add_ratios T.F_add_ratios.kp T.b_add_ratios .nil pass0 (pa_cons (pe_ix ix_tup (pv 6) pe_int (fun _ _ => rfl)) (pa_cons (pe_ix ix_tup (pv 7) pe_int (fun _ _ => rfl)) pa_nil))) (pa_cons (pe_ix ix_tup (pv 8) pe_int (fun _ _ => rfl)) pa_nil))))
      (pss_one (ps_ret (pe_and (pe_call G__law_alike (hr.mono (by decide)) rfl T.m__law_alike T.F__law_alike.kp T.b__law_alike .nil pass0 (pa_cons (pe_ix ix_list (pv 9) pe_int (fun _ _ => rfl)) (pa_cons (pe_ix ix_list (pv 9) pe_int (fun _ _ => rfl)) pa_nil))) (pe_one (pe_call G__law_alike (hr.mono (by decide)) rfl T.m__law_alike T.F__law_alike.kp T.b__law_alike .nil pass0 (pa_cons (pe_call G_add_ratios (hr.mono (by decide)) rfl T.m_add_ratios T.F_add_ratios.kp T.b_add_ratios .nil pass0 (pa_cons (pe_ix ix_list (pv 10) pe_int (fun _ _ => rfl)) (pa_cons (pe_ix ix_list (pv 10) pe_int (fun _ _ => rfl)) pa_nil))) (pa_cons (pv 11) pa_nil))))))))))))))))), ?_⟩
  have lim : T50 ≤ LIM := by decide +kernel
  walk_at "ss"
  refine ⟨a, ns, 0, rfl, hS, h63, by decide, fun b cb H1 s1 nb nc B => ?_⟩
  walk_at "ss"
  refine ⟨a, ns, 1, rfl, s1.seq hS, h63, by decide, fun f cf H2 s2 nf nfc F => ?_⟩
  walk_at "ss"
  obtain ⟨ob, hob⟩ := B.got
  have fb : f ≠ b := (ne_of_none hob nf).symm
  have cfb : cf ≠ b := (ne_of_none hob nfc).symm
  refine ⟨b, cb, rfl, B.same s2, fun p1 t1 u1 H3 P1 B3 k3 => ?_⟩
  have F3 := F.keep k3 fb cfb
  walk_at "ss"
  refine ⟨f, cf, rfl, F3, fun p2 t2 u2 H4 P2 F4 k4 => ?_⟩
  have P1 := P1.keep k4 F3
  walk_at "ss"
  refine ⟨f, cf, rfl, F4, fun p3 t3 u3 H5 P3 F5 k5 => ?_⟩
  have P1 := P1.keep k5 F4
  have P2 := P2.keep k5 F4
  walk_at "ss"
  intro L hL
  have sL := same_new hL (.lst [.ref p1, .ref p2, .ref p3])
  have W : Lw f cf L p1 p2 p3 t1 u1 t2 u2 t3 u3 _ := ⟨upd_same, P1.same sL, P2.same sL, P3.same sL, F5.same sL⟩
  walk_at "ss"
  refine ⟨⟨_, SqL.of upd_same⟩, for_list (K := K) (a := L) (xs := [.ref p1, .ref p2, .ref p3]) (fun i σ H2 => ∃ v w : Option V, σ = [some (.ref a), some (.ref b), some (.ref f), some (.ref L), v, w, none, none, none, none, none, none] ∧ Lw f cf L p1 p2 p3 t1 u1 t2 u2 t3 u3 H2)
    ⟨_, _, rfl, W⟩ (fun i σ H2 _ ⟨_, _, _, W⟩ => SqL.of W.l) ?_ ?_⟩
  · rintro i x σ H6 hi ⟨v, w, rfl, W⟩
    obtain ⟨p, t, u, rfl, Pp⟩ : ∃ p t u, x = V.ref p ∧ PairAt H6 p t u := by
      match i, hi with
      | 0, hi => cases hi; exact ⟨_, _, _, rfl, W.a⟩
      | 1, hi => cases hi; exact ⟨_, _, _, rfl, W.b⟩
      | 2, hi => cases hi; exact ⟨_, _, _, rfl, W.c⟩
      | i + 3, hi => simp at hi
    obtain ⟨z, hp, hz, hu, ht50, hu50⟩ := id Pp
    have hlim := Nat.le_trans hu50 lim
    walk_at "ss"
    refine ⟨t, u, rfl, hu, hlim, fun z1 H7 n7 s7 hz1 => ?_⟩
    have hp7 := s7 _ _ hp
    walk_at "ss"
    refine ⟨t, u, rfl, hu, hlim, fun z2 H8 n8 s8 hz2 => ?_⟩
    have hp8 := s8 _ _ hp7
    have S8 := s7.trans s8
    walk_at "ss"
    refine ⟨_, _, rfl, .rt hz2 (S8 _ _ hz), fun H9 s9 => ?_⟩
    have S9 := S8.trans s9
    have hp9 := s9 _ _ hp8
    walk_at "ss"
    refine ⟨_, _, rfl, .rt (s9 _ _ (s8 _ _ hz1)) (S9 _ _ hz), fun H10 s10 => ?_⟩
    have S10 := S9.trans s10
    have P10 := Pp.same S10
    have W10 := W.same S10
    walk_at "ss"
    refine ⟨_, _, _, _, rfl, P10.third, P10.third, fun H11 s11 => ?_⟩
    have P11 := P10.same s11
    have W11 := W10.same s11
    walk_at "ss"
    refine ⟨f, cf, p, t, u, rfl, W11.f, P11, fun r g H12 th F12 k12 => ?_⟩
    have P12 := P11.keep k12 W11.f
    have W12 := W11.keep k12 F12
    walk_at "ss"
    refine ⟨_, _, _, _, rfl, P12.third, th, fun H13 s13 => ?_⟩
    walk_at "ss"
    exact ⟨_, _, rfl, W12.same s13⟩
  · rintro σ H6 ⟨v, w, rfl, W⟩
    walk_at "ss"
    refine ⟨_, _, rfl, SqL.of W.l, rfl, ?_⟩
    refine ⟨_, _, rfl, _, _, rfl, _, _, rfl, rfl, ?_⟩
    walk_at "ss"
    refine ⟨_, _, _, _, rfl, W.a.third, W.b.third, fun H7 s7 => ?_⟩
    have W := W.same s7
    walk_at "ss"
    refine ⟨_, _, _, _, rfl, W.b.third, W.c.third, fun H8 s8 => ?_⟩
    have W := W.same s8
    obtain ⟨z2, hp2, hz2, hu2, ht2, hu2'⟩ := id W.b
    walk_at "ss"
    refine ⟨0, u2, rfl, hu2, Nat.le_trans hu2' lim, fun r1 H9 n9 s9 hr1 => ?_⟩
    rw [low0 hu2] at hr1
    have W := W.same s9
    walk_at "ss"
    intro t0 ht0
    have st := same_new ht0 (.tup [.int 0, .int 1])
    refine ⟨_, _, rfl, .rt (st _ _ hr1) upd_same, fun H10 s10 => ?_⟩
    have W := (W.same st).same s10
    clear hr1 hp2 hz2
    walk_at "ss"
    -- the three with small numbers
    refine ⟨⟨_, SqL.of W.l⟩, fun D hD => ?_⟩
    have LD : L ≠ D := ne_of_none W.l hD
    have sD := same_new hD (.lst [])
    refine lc_list (K := K) (a := L) (xs := [.ref p1, .ref p2, .ref p3]) (fun i H2 => H2 L = some (.lst [.ref p1, .ref p2, .ref p3]) ∧ PairAt H2 p1 t1 u1 ∧ PairAt H2 p2 t2 u2 ∧ PairAt H2 p3 t3 u3 ∧
      ∃ acc : List Addr, acc.length = i ∧ H2 D = some (.lst (acc.map V.ref)) ∧ ∀ r, r ∈ acc → ∃ g : Rt, Sm H2 r g)
      ⟨sD _ _ W.l, W.a.same sD, W.b.same sD, W.c.same sD, [], rfl, upd_same, fun r h => (List.not_mem_nil h).elim⟩ (fun i H2 _ g => SqL.of g.1) ?_ ?_
    · rintro i x H11 hi ⟨hl, A1, A2, A3, acc, hacc, hd, hall⟩
      obtain ⟨p, t, u, rfl, Pp⟩ : ∃ p t u, x = V.ref p ∧ PairAt H11 p t u := by
        match i, hi with
        | 0, hi => cases hi; exact ⟨_, _, _, rfl, A1⟩
        | 1, hi => cases hi; exact ⟨_, _, _, rfl, A2⟩
        | 2, hi => cases hi; exact ⟨_, _, _, rfl, A3⟩
        | i + 3, hi => simp at hi
      have hi3 : i < 3 := (List.getElem?_eq_some_iff.mp hi).1
      obtain ⟨z, hp, hz, hu, ht50, hu50⟩ := id Pp
      refine ⟨rfl, ?_⟩
      have e1 := fm (x := (t : Int)) (m := 100000000000000) (by decide)
      have e2 := fm (x := (u : Int)) (m := 100000000000000) (by decide)
      obtain ⟨x, hx⟩ : ∃ x : Nat, (t : Int).fmod 100000000000000 = x := ⟨((t : Int).fmod 100000000000000).toNat, by omega⟩
      obtain ⟨y, hy⟩ : ∃ y : Nat, (u : Int).fmod 100000000000000 = y := ⟨((u : Int).fmod 100000000000000).toNat, by omega⟩
      have hx1 : x ≤ T14 := by unfold T14; omega
      have hy1 : 1 + y ≤ T14 := by unfold T14; omega
      have hy2 : 1 + (u : Int).fmod 100000000000000 = ((1 + y : Nat) : Int) := by rw [hy]; omega
      walk_at "ss"
      refine ⟨_, _, two_eq hx hy2, by omega, Nat.le_trans hy1 (by decide +kernel), fun v H12 n12 s12 hv => ?_⟩
      walk_at "ss"
      intro r hr
      have sr := same_new hr (.tup [.int 0, .int 0, .ref v])
      have S := s12.trans sr
      have hd' := S _ _ hd
      refine ⟨_, hd', by rw [List.length_map]; exact small1000 (by omega), ?_⟩
      refine ⟨by rw [upd_ne LD]; exact S _ _ hl, (A1.same S).put hd', (A2.same S).put hd', (A3.same S).put hd', acc ++ [r], by rw [List.length_append, hacc]; rfl, by rw [List.map_append]; exact upd_same, fun c hc => ?_⟩
      rcases List.mem_append.mp hc with hc | hc
      · obtain ⟨g, hg⟩ := hall c hc
        exact ⟨g, (hg.same S).put hd'⟩
      · rw [List.mem_singleton.mp hc]
        refine ⟨low x (1 + y), Sm.put ⟨v, _, _, upd_same, sr _ _ hv, low_pos (by omega), Nat.le_trans (low_le1 _ _) hx1, Nat.le_trans (low_le2 _ _) hy1⟩ hd'⟩
    · rintro H11 ⟨hl, A1, A2, A3, acc, hacc, hd, hall⟩
      match acc, hacc, hd, hall with
      | [r1, r2, r3], _, hd, hall =>
        obtain ⟨a1, x1, v1, w1, k1, l1, c1, d1, e1⟩ := hall r1 (by simp)
        obtain ⟨a2, x2, v2, w2, k2, l2, c2, d2, e2⟩ := hall r2 (by simp)
        obtain ⟨a3, x3, v3, w3, k3, l3, c3, d3, e3⟩ := hall r3 (by simp)
        refine ⟨_, _, rfl, SqL.of hd, rfl, ?_⟩
        refine ⟨_, _, rfl, _, _, rfl, _, _, rfl, rfl, ?_⟩
        have X : Six r1 r2 r3 x1 x2 x3 a1 a2 a3 v1 w1 v2 w2 v3 w3 H11 := ⟨k1, l1, k2, l2, k3, l3⟩
        clear k1 l1 k2 l2 k3 l3 hall A1 A2 A3 hl
        have b12 := radd_le d1 e1 d2 e2
        have b23 := radd_le d2 e2 d3 e3
        have n13 := rmul_le d1 e1 d3 e3
        have n23 := rmul_le d2 e2 d3 e3
        have p12 := radd_pos c1 c2
        have p23 := radd_pos c2 c3
        have o13 := rmul_pos c1 c3
        have o23 := rmul_pos c2 c3
        have u1 := t14_60 d1
        have u2 := t14_60 d2
        have u3 := t14_60 d3
        have y1 := t14_60 e1
        have y2 := t14_60 e2
        have y3 := t14_60 e3
        obtain ⟨k1, l1, k2, l2, k3, l3⟩ := id X
        walk_at "ss"
        refine ⟨_, _, a1, a2, rfl, l1, l2, c1, c2, u1, y1, u2, y2, fun ra G1 ma g1 hra => ?_⟩
        clear k1 l1 k2 l2 k3 l3
        have X := X.same g1
        obtain ⟨k1, l1, k2, l2, k3, l3⟩ := id X
        walk_at "ss"
        refine ⟨_, _, _, a3, rfl, hra, l3, p12, c3, b12.1, b12.2, u3, y3, fun rb G2 mb g2 hrb => ?_⟩
        clear k1 l1 k2 l2 k3 l3
        have X := X.same g2
        obtain ⟨k1, l1, k2, l2, k3, l3⟩ := id X
        walk_at "ss"
        refine ⟨_, _, a2, a3, rfl, l2, l3, c2, c3, u2, y2, u3, y3, fun rc G3 mc g3 hrc => ?_⟩
        have hrb := g3 _ _ hrb
        clear k1 l1 k2 l2 k3 l3
        have X := X.same g3
        obtain ⟨k1, l1, k2, l2, k3, l3⟩ := id X
        walk_at "ss"
        refine ⟨_, _, a1, _, rfl, l1, hrc, c1, p23, u1, y1, b23.1, b23.2, fun rd G4 md g4 hrd => ?_⟩
        have hrb := g4 _ _ hrb
        have X := X.same g4
        clear k1 l1 k2 l2 k3 l3
        rw [← radd_assoc c1 c2 c3] at hrd
        walk_at "ss"
        intro Ls hLs
        have g5 := same_new hLs (.lst [.ref rb, .ref rd])
        have hLs' : upd G4 Ls (.lst [.ref rb, .ref rd]) Ls = some (.lst [.ref rb, .ref rd]) := upd_same
        have hrb := g5 _ _ hrb
        have hrd := g5 _ _ hrd
        have X := X.same g5
        obtain ⟨k1, l1, k2, l2, k3, l3⟩ := id X
        walk_at "ss"
        refine ⟨_, _, a1, a3, rfl, l1, l3, c1, c3, u1, y1, u3, y3, fun m1 G6 mm g6 hm1 => ?_⟩
        have hrb := g6 _ _ hrb
        have hrd := g6 _ _ hrd
        have hLs' := g6 _ _ hLs'
        have X := X.same g6
        clear k1 l1 k2 l2 k3 l3
        obtain ⟨k1, l1, k2, l2, k3, l3⟩ := id X
        walk_at "ss"
        refine ⟨_, _, a2, a3, rfl, l2, l3, c2, c3, u2, y2, u3, y3, fun m2 G7 mn g7 hm2 => ?_⟩
        have hrb := g7 _ _ hrb
        have hrd := g7 _ _ hrd
        have hLs' := g7 _ _ hLs'
        have hm1 := g7 _ _ hm1
        have X := X.same g7
        clear k1 l1 k2 l2 k3 l3
        walk_at "ss"
        intro Lp hLp
        have g8 := same_new hLp (.lst [.ref m1, .ref m2])
        have hLp' : upd G7 Lp (.lst [.ref m1, .ref m2]) Lp = some (.lst [.ref m1, .ref m2]) := upd_same
        have hrb := g8 _ _ hrb
        have hrd := g8 _ _ hrd
        have hLs' := g8 _ _ hLs'
        have hm1 := g8 _ _ hm1
        have hm2 := g8 _ _ hm2
        have X := X.same g8
        obtain ⟨k1, l1, k2, l2, k3, l3⟩ := id X
        walk_at "ss"
        refine ⟨_, _, a1, a2, rfl, l1, l2, c1, c2, u1, y1, u2, y2, fun re G9 me g9 hre => ?_⟩
        have hrb := g9 _ _ hrb
        have hrd := g9 _ _ hrd
        have hLs' := g9 _ _ hLs'
        have hLp' := g9 _ _ hLp'
        have hm1 := g9 _ _ hm1
        have hm2 := g9 _ _ hm2
        have X := X.same g9
        clear k1 l1 k2 l2 k3 l3
        obtain ⟨k1, l1, k2, l2, k3, l3⟩ := id X
        walk_at "ss"
        refine ⟨_, _, _, a3, rfl, hre, l3, p12, c3, b12.1, b12.2, u3, y3, fun rw G10 mw g10 hrw => ?_⟩
        have hrb := g10 _ _ hrb
        have hrd := g10 _ _ hrd
        have hLs' := g10 _ _ hLs'
        have hLp' := g10 _ _ hLp'
        have hm1 := g10 _ _ hm1
        have hm2 := g10 _ _ hm2
        walk_at "ss"
        refine ⟨_, _, rfl, .rt hrb hrd, fun G11 g11 => ?_⟩
        have hLp' := g11 _ _ hLp'
        have hm1 := g11 _ _ hm1
        have hm2 := g11 _ _ hm2
        have hrw := g11 _ _ hrw
        walk_at "ss"
        refine ⟨_, _, _, _, rfl, hm1, hm2, o13, o23, n13.1, n13.2, n23.1, n23.2, fun rz G12 mz g12 hrz => ?_⟩
        have hrw := g12 _ _ hrw
        rw [rdist c1 c2 c3] at hrz
        walk_at "ss"
        exact ⟨_, _, rfl, .rt hrz hrw, fun G13 g13 => q _⟩
end
theorem all_mk {l : PySem.W.OpenLaw} {w : World} {K : PySem.W.Frag} {h : Heap} {mg : Str → Option Value} {fa : Addr} (X : K.In h) (G : h.Ns mainGlobals mg) (hfa : mg "law" = some (.ref fa))
    {f_ratio : Addr} {od_ratio an_ratio : Option Addr} {sl_ratio : Array (Option Value)} {oc_ratio kV_ratio dc_ratio pm_ratio cd_ratio ct_ratio : Value}
    {f_add_ratios : Addr} {od_add_ratios an_add_ratios : Option Addr} {sl_add_ratios : Array (Option Value)} {oc_add_ratios kV_add_ratios dc_add_ratios pm_add_ratios cd_add_ratios ct_add_ratios : Value}
    {f_multiply_ratios : Addr} {od_multiply_ratios an_multiply_ratios : Option Addr} {sl_multiply_ratios : Array (Option Value)} {oc_multiply_ratios kV_multiply_ratios dc_multiply_ratios pm_multiply_ratios cd_multiply_ratios ct_multiply_ratios : Value}
    {f_at_most : Addr} {od_at_most an_at_most : Option Addr} {sl_at_most : Array (Option Value)} {oc_at_most kV_at_most dc_at_most pm_at_most cd_at_most ct_at_most : Value}
    {f__law_mix : Addr} {od__law_mix an__law_mix : Option Addr} {sl__law_mix : Array (Option Value)} {oc__law_mix kV__law_mix dc__law_mix pm__law_mix cd__law_mix ct__law_mix : Value}
    {f__law_box : Addr} {od__law_box an__law_box : Option Addr} {sl__law_box : Array (Option Value)} {oc__law_box kV__law_box dc__law_box pm__law_box cd__law_box ct__law_box : Value}
    {f__law_draw : Addr} {od__law_draw an__law_draw : Option Addr} {sl__law_draw : Array (Option Value)} {oc__law_draw kV__law_draw dc__law_draw pm__law_draw cd__law_draw ct__law_draw : Value}
    {f__law_alike : Addr} {od__law_alike an__law_alike : Option Addr} {sl__law_alike : Array (Option Value)} {oc__law_alike kV__law_alike dc__law_alike pm__law_alike cd__law_alike ct__law_alike : Value}
    {f__law_great : Addr} {od__law_great an__law_great : Option Addr} {sl__law_great : Array (Option Value)} {oc__law_great kV__law_great dc__law_great pm__law_great cd__law_great ct__law_great : Value}
    {f__law_common : Addr} {od__law_common an__law_common : Option Addr} {sl__law_common : Array (Option Value)} {oc__law_common kV__law_common dc__law_common pm__law_common cd__law_common ct__law_common : Value}
    {f__law_lowest : Addr} {od__law_lowest an__law_lowest : Option Addr} {sl__law_lowest : Array (Option Value)} {oc__law_lowest kV__law_lowest dc__law_lowest pm__law_lowest cd__law_lowest ct__law_lowest : Value}
    {f__law_number : Addr} {od__law_number an__law_number : Option Addr} {sl__law_number : Array (Option Value)} {oc__law_number kV__law_number dc__law_number pm__law_number cd__law_number ct__law_number : Value}
    {f__law_pair : Addr} {od__law_pair an__law_pair : Option Addr} {sl__law_pair : Array (Option Value)} {oc__law_pair kV__law_pair dc__law_pair pm__law_pair cd__law_pair ct__law_pair : Value}
    {f__law_two : Addr} {od__law_two an__law_two : Option Addr} {sl__law_two : Array (Option Value)} {oc__law_two kV__law_two dc__law_two pm__law_two cd__law_two ct__law_two : Value}
    {f__law_near : Addr} {od__law_near an__law_near : Option Addr} {sl__law_near : Array (Option Value)} {oc__law_near kV__law_near dc__law_near pm__law_near cd__law_near ct__law_near : Value}
    {f_law : Addr} {od_law an_law : Option Addr} {sl_law : Array (Option Value)} {oc_law kV_law dc_law pm_law cd_law ct_law : Value}
    
    (a_ratio : PySem.W.nsIn K mainGlobals "ratio" = some (some (.ref f_ratio))) (l_ratio : K.lookup f_ratio = some ⟨oc_ratio, od_ratio, .func (PySem.W.fnOf "ratio" "ratio" (defArgs s_ratio) (defBody s_ratio) (defScope s_ratio) .none kV_ratio dc_ratio pm_ratio an_ratio cd_ratio ct_ratio), sl_ratio⟩) (c_ratio : PySem.W.codeIn K cd_ratio "ratio" = true) (k_ratio : PySem.W.keepIn K (.ref f_ratio) = true)
    (a_add_ratios : PySem.W.nsIn K mainGlobals "add_ratios" = some (some (.ref f_add_ratios))) (l_add_ratios : K.lookup f_add_ratios = some ⟨oc_add_ratios, od_add_ratios, .func (PySem.W.fnOf "add_ratios" "add_ratios" (defArgs s_add_ratios) (defBody s_add_ratios) (defScope s_add_ratios) .none kV_add_ratios dc_add_ratios pm_add_ratios an_add_ratios cd_add_ratios ct_add_ratios), sl_add_ratios⟩) (c_add_ratios : PySem.W.codeIn K cd_add_ratios "add_ratios" = true) (k_add_ratios : PySem.W.keepIn K (.ref f_add_ratios) = true)
    (a_multiply_ratios : PySem.W.nsIn K mainGlobals "multiply_ratios" = some (some (.ref f_multiply_ratios))) (l_multiply_ratios : K.lookup f_multiply_ratios = some ⟨oc_multiply_ratios, od_multiply_ratios, .func (PySem.W.fnOf "multiply_ratios" "multiply_ratios" (defArgs s_multiply_ratios) (defBody s_multiply_ratios) (defScope s_multiply_ratios) .none kV_multiply_ratios dc_multiply_ratios pm_multiply_ratios an_multiply_ratios cd_multiply_ratios ct_multiply_ratios), sl_multiply_ratios⟩) (c_multiply_ratios : PySem.W.codeIn K cd_multiply_ratios "multiply_ratios" = true) (k_multiply_ratios : PySem.W.keepIn K (.ref f_multiply_ratios) = true)
    (a_at_most : PySem.W.nsIn K mainGlobals "at_most" = some (some (.ref f_at_most))) (l_at_most : K.lookup f_at_most = some ⟨oc_at_most, od_at_most, .func (PySem.W.fnOf "at_most" "at_most" (defArgs s_at_most) (defBody s_at_most) (defScope s_at_most) .none kV_at_most dc_at_most pm_at_most an_at_most cd_at_most ct_at_most), sl_at_most⟩) (c_at_most : PySem.W.codeIn K cd_at_most "at_most" = true) (k_at_most : PySem.W.keepIn K (.ref f_at_most) = true)
    (a__law_mix : PySem.W.nsIn K mainGlobals "_law_mix" = some (some (.ref f__law_mix))) (l__law_mix : K.lookup f__law_mix = some ⟨oc__law_mix, od__law_mix, .func (PySem.W.fnOf "_law_mix" "_law_mix" (defArgs s_Lmix) (defBody s_Lmix) (defScope s_Lmix) .none kV__law_mix dc__law_mix pm__law_mix an__law_mix cd__law_mix ct__law_mix), sl__law_mix⟩) (c__law_mix : PySem.W.codeIn K cd__law_mix "_law_mix" = true) (k__law_mix : PySem.W.keepIn K (.ref f__law_mix) = true)
    (a__law_box : PySem.W.nsIn K mainGlobals "_law_box" = some (some (.ref f__law_box))) (l__law_box : K.lookup f__law_box = some ⟨oc__law_box, od__law_box, .func (PySem.W.fnOf "_law_box" "_law_box" (defArgs s_Lbox) (defBody s_Lbox) (defScope s_Lbox) .none kV__law_box dc__law_box pm__law_box an__law_box cd__law_box ct__law_box), sl__law_box⟩) (c__law_box : PySem.W.codeIn K cd__law_box "_law_box" = true) (k__law_box : PySem.W.keepIn K (.ref f__law_box) = true)
    (a__law_draw : PySem.W.nsIn K mainGlobals "_law_draw" = some (some (.ref f__law_draw))) (l__law_draw : K.lookup f__law_draw = some ⟨oc__law_draw, od__law_draw, .func (PySem.W.fnOf "_law_draw" "_law_draw" (defArgs s_Ldraw) (defBody s_Ldraw) (defScope s_Ldraw) .none kV__law_draw dc__law_draw pm__law_draw an__law_draw cd__law_draw ct__law_draw), sl__law_draw⟩) (c__law_draw : PySem.W.codeIn K cd__law_draw "_law_draw" = true) (k__law_draw : PySem.W.keepIn K (.ref f__law_draw) = true)
    (a__law_alike : PySem.W.nsIn K mainGlobals "_law_alike" = some (some (.ref f__law_alike))) (l__law_alike : K.lookup f__law_alike = some ⟨oc__law_alike, od__law_alike, .func (PySem.W.fnOf "_law_alike" "_law_alike" (defArgs s_Lalike) (defBody s_Lalike) (defScope s_Lalike) .none kV__law_alike dc__law_alike pm__law_alike an__law_alike cd__law_alike ct__law_alike), sl__law_alike⟩) (c__law_alike : PySem.W.codeIn K cd__law_alike "_law_alike" = true) (k__law_alike : PySem.W.keepIn K (.ref f__law_alike) = true)
    (a__law_great : PySem.W.nsIn K mainGlobals "_law_great" = some (some (.ref f__law_great))) (l__law_great : K.lookup f__law_great = some ⟨oc__law_great, od__law_great, .func (PySem.W.fnOf "_law_great" "_law_great" (defArgs s_Lgreat) (defBody s_Lgreat) (defScope s_Lgreat) .none kV__law_great dc__law_great pm__law_great an__law_great cd__law_great ct__law_great), sl__law_great⟩) (c__law_great : PySem.W.codeIn K cd__law_great "_law_great" = true) (k__law_great : PySem.W.keepIn K (.ref f__law_great) = true)
    (a__law_common : PySem.W.nsIn K mainGlobals "_law_common" = some (some (.ref f__law_common))) (l__law_common : K.lookup f__law_common = some ⟨oc__law_common, od__law_common, .func (PySem.W.fnOf "_law_common" "_law_common" (defArgs s_Lcommon) (defBody s_Lcommon) (defScope s_Lcommon) .none kV__law_common dc__law_common pm__law_common an__law_common cd__law_common ct__law_common), sl__law_common⟩) (c__law_common : PySem.W.codeIn K cd__law_common "_law_common" = true) (k__law_common : PySem.W.keepIn K (.ref f__law_common) = true)
    (a__law_lowest : PySem.W.nsIn K mainGlobals "_law_lowest" = some (some (.ref f__law_lowest))) (l__law_lowest : K.lookup f__law_lowest = some ⟨oc__law_lowest, od__law_lowest, .func (PySem.W.fnOf "_law_lowest" "_law_lowest" (defArgs s_Llowest) (defBody s_Llowest) (defScope s_Llowest) .none kV__law_lowest dc__law_lowest pm__law_lowest an__law_lowest cd__law_lowest ct__law_lowest), sl__law_lowest⟩) (c__law_lowest : PySem.W.codeIn K cd__law_lowest "_law_lowest" = true) (k__law_lowest : PySem.W.keepIn K (.ref f__law_lowest) = true)
    (a__law_number : PySem.W.nsIn K mainGlobals "_law_number" = some (some (.ref f__law_number))) (l__law_number : K.lookup f__law_number = some ⟨oc__law_number, od__law_number, .func (PySem.W.fnOf "_law_number" "_law_number" (defArgs s_Lnumber) (defBody s_Lnumber) (defScope s_Lnumber) .none kV__law_number dc__law_number pm__law_number an__law_number cd__law_number ct__law_number), sl__law_number⟩) (c__law_number : PySem.W.codeIn K cd__law_number "_law_number" = true) (k__law_number : PySem.W.keepIn K (.ref f__law_number) = true)
    (a__law_pair : PySem.W.nsIn K mainGlobals "_law_pair" = some (some (.ref f__law_pair))) (l__law_pair : K.lookup f__law_pair = some ⟨oc__law_pair, od__law_pair, .func (PySem.W.fnOf "_law_pair" "_law_pair" (defArgs s_Lpair) (defBody s_Lpair) (defScope s_Lpair) .none kV__law_pair dc__law_pair pm__law_pair an__law_pair cd__law_pair ct__law_pair), sl__law_pair⟩) (c__law_pair : PySem.W.codeIn K cd__law_pair "_law_pair" = true) (k__law_pair : PySem.W.keepIn K (.ref f__law_pair) = true)
    (a__law_two : PySem.W.nsIn K mainGlobals "_law_two" = some (some (.ref f__law_two))) (l__law_two : K.lookup f__law_two = some ⟨oc__law_two, od__law_two, .func (PySem.W.fnOf "_law_two" "_law_two" (defArgs s_Ltwo) (defBody s_Ltwo) (defScope s_Ltwo) .none kV__law_two dc__law_two pm__law_two an__law_two cd__law_two ct__law_two), sl__law_two⟩) (c__law_two : PySem.W.codeIn K cd__law_two "_law_two" = true) (k__law_two : PySem.W.keepIn K (.ref f__law_two) = true)
    (a__law_near : PySem.W.nsIn K mainGlobals "_law_near" = some (some (.ref f__law_near))) (l__law_near : K.lookup f__law_near = some ⟨oc__law_near, od__law_near, .func (PySem.W.fnOf "_law_near" "_law_near" (defArgs s_Lnear) (defBody s_Lnear) (defScope s_Lnear) .none kV__law_near dc__law_near pm__law_near an__law_near cd__law_near ct__law_near), sl__law_near⟩) (c__law_near : PySem.W.codeIn K cd__law_near "_law_near" = true) (k__law_near : PySem.W.keepIn K (.ref f__law_near) = true)
    (a_law : PySem.W.nsIn K mainGlobals "law" = some (some (.ref f_law))) (l_law : K.lookup f_law = some ⟨oc_law, od_law, .func (PySem.W.fnOf "law" "law" (defArgs s_law) (defBody s_law) (defScope s_law) .none kV_law dc_law pm_law an_law cd_law ct_law), sl_law⟩) (c_law : PySem.W.codeIn K cd_law "law" = true) (k_law : PySem.W.keepIn K (.ref f_law) = true)
    (z_abs : PySem.W.nsIn K mainGlobals "abs" = some none)
    (z_bool : PySem.W.nsIn K mainGlobals "bool" = some none)
    (z_int : PySem.W.nsIn K mainGlobals "int" = some none)
    (z_isinstance : PySem.W.nsIn K mainGlobals "isinstance" = some none)
    (z_len : PySem.W.nsIn K mainGlobals "len" = some none)
    (z_list : PySem.W.nsIn K mainGlobals "list" = some none)
    (z_range : PySem.W.nsIn K mainGlobals "range" = some none)
    (z_str : PySem.W.nsIn K mainGlobals "str" = some none)
    (z_tuple : PySem.W.nsIn K mainGlobals "tuple" = some none)
    (a_gcd : PySem.W.nsIn K mainGlobals "gcd" = some (some (.builtin "math.gcd")))
    : ∃ fd : FuncData, (∀ (s : Shared) (v : Value), BindsTo s fd ⟨[v], []⟩ [("script", v)]) ∧ ∀ base : Heap, K.In base → base.Ns mainGlobals mg → FnOk l.prog w K mg base CX0 7 fa fd ["script"] (spLaw K) := by
  have e := hfa.symm.trans (PySem.W.mg_of X G a_law)
  cases e
  let T : Top K mg := { f_ratio := f_ratio, d_ratio := _, F_ratio := fun_mk (st := s_ratio) l_ratio c_ratio k_ratio, m_ratio := PySem.W.mg_of X G a_ratio, b_ratio := (fun_mk (st := s_ratio) l_ratio c_ratio k_ratio).binds (ps := ["top", "bottom"]) (fun _ _ _ _ _ _ us hl => match us, hl with | [_, _], _ => rfl),
                        f_add_ratios := f_add_ratios, d_add_ratios := _, F_add_ratios := fun_mk (st := s_add_ratios) l_add_ratios c_add_ratios k_add_ratios, m_add_ratios := PySem.W.mg_of X G a_add_ratios, b_add_ratios := (fun_mk (st := s_add_ratios) l_add_ratios c_add_ratios k_add_ratios).binds (ps := ["first", "second"]) (fun _ _ _ _ _ _ us hl => match us, hl with | [_, _], _ => rfl),
                        f_multiply_ratios := f_multiply_ratios, d_multiply_ratios := _, F_multiply_ratios := fun_mk (st := s_multiply_ratios) l_multiply_ratios c_multiply_ratios k_multiply_ratios, m_multiply_ratios := PySem.W.mg_of X G a_multiply_ratios, b_multiply_ratios := (fun_mk (st := s_multiply_ratios) l_multiply_ratios c_multiply_ratios k_multiply_ratios).binds (ps := ["first", "second"]) (fun _ _ _ _ _ _ us hl => match us, hl with | [_, _], _ => rfl),
                        f_at_most := f_at_most, d_at_most := _, F_at_most := fun_mk (st := s_at_most) l_at_most c_at_most k_at_most, m_at_most := PySem.W.mg_of X G a_at_most, b_at_most := (fun_mk (st := s_at_most) l_at_most c_at_most k_at_most).binds (ps := ["first", "second"]) (fun _ _ _ _ _ _ us hl => match us, hl with | [_, _], _ => rfl),
                        f__law_mix := f__law_mix, d__law_mix := _, F__law_mix := fun_mk (st := s_Lmix) l__law_mix c__law_mix k__law_mix, m__law_mix := PySem.W.mg_of X G a__law_mix, b__law_mix := (fun_mk (st := s_Lmix) l__law_mix c__law_mix k__law_mix).binds (ps := ["cell", "salt"]) (fun _ _ _ _ _ _ us hl => match us, hl with | [_, _], _ => rfl),
                        f__law_box := f__law_box, d__law_box := _, F__law_box := fun_mk (st := s_Lbox) l__law_box c__law_box k__law_box, m__law_box := PySem.W.mg_of X G a__law_box, b__law_box := (fun_mk (st := s_Lbox) l__law_box c__law_box k__law_box).binds (ps := ["script", "at"]) (fun _ _ _ _ _ _ us hl => match us, hl with | [_, _], _ => rfl),
                        f__law_draw := f__law_draw, d__law_draw := _, F__law_draw := fun_mk (st := s_Ldraw) l__law_draw c__law_draw k__law_draw, m__law_draw := PySem.W.mg_of X G a__law_draw, b__law_draw := (fun_mk (st := s_Ldraw) l__law_draw c__law_draw k__law_draw).binds (ps := ["box", "many"]) (fun _ _ _ _ _ _ us hl => match us, hl with | [_, _], _ => rfl),
                        f__law_alike := f__law_alike, d__law_alike := _, F__law_alike := fun_mk (st := s_Lalike) l__law_alike c__law_alike k__law_alike, m__law_alike := PySem.W.mg_of X G a__law_alike, b__law_alike := (fun_mk (st := s_Lalike) l__law_alike c__law_alike k__law_alike).binds (ps := ["told", "due"]) (fun _ _ _ _ _ _ us hl => match us, hl with | [_, _], _ => rfl),
                        f__law_great := f__law_great, d__law_great := _, F__law_great := fun_mk (st := s_Lgreat) l__law_great c__law_great k__law_great, m__law_great := PySem.W.mg_of X G a__law_great, b__law_great := (fun_mk (st := s_Lgreat) l__law_great c__law_great k__law_great).binds (ps := ["box"]) (fun _ _ _ _ _ _ us hl => match us, hl with | [_], _ => rfl),
                        f__law_common := f__law_common, d__law_common := _, F__law_common := fun_mk (st := s_Lcommon) l__law_common c__law_common k__law_common, m__law_common := PySem.W.mg_of X G a__law_common, b__law_common := (fun_mk (st := s_Lcommon) l__law_common c__law_common k__law_common).binds (ps := ["a", "b"]) (fun _ _ _ _ _ _ us hl => match us, hl with | [_, _], _ => rfl),
                        f__law_lowest := f__law_lowest, d__law_lowest := _, F__law_lowest := fun_mk (st := s_Llowest) l__law_lowest c__law_lowest k__law_lowest, m__law_lowest := PySem.W.mg_of X G a__law_lowest, b__law_lowest := (fun_mk (st := s_Llowest) l__law_lowest c__law_lowest k__law_lowest).binds (ps := ["top", "bottom"]) (fun _ _ _ _ _ _ us hl => match us, hl with | [_, _], _ => rfl),
                        f__law_number := f__law_number, d__law_number := _, F__law_number := fun_mk (st := s_Lnumber) l__law_number c__law_number k__law_number, m__law_number := PySem.W.mg_of X G a__law_number, b__law_number := (fun_mk (st := s_Lnumber) l__law_number c__law_number k__law_number).binds (ps := ["box", "least"]) (fun _ _ _ _ _ _ us hl => match us, hl with | [_, _], _ => rfl),
                        f__law_pair := f__law_pair, d__law_pair := _, F__law_pair := fun_mk (st := s_Lpair) l__law_pair c__law_pair k__law_pair, m__law_pair := PySem.W.mg_of X G a__law_pair, b__law_pair := (fun_mk (st := s_Lpair) l__law_pair c__law_pair k__law_pair).binds (ps := ["box"]) (fun _ _ _ _ _ _ us hl => match us, hl with | [_], _ => rfl),
                        f__law_two := f__law_two, d__law_two := _, F__law_two := fun_mk (st := s_Ltwo) l__law_two c__law_two k__law_two, m__law_two := PySem.W.mg_of X G a__law_two, b__law_two := (fun_mk (st := s_Ltwo) l__law_two c__law_two k__law_two).binds (ps := ["one", "other"]) (fun _ _ _ _ _ _ us hl => match us, hl with | [_, _], _ => rfl),
                        f__law_near := f__law_near, d__law_near := _, F__law_near := fun_mk (st := s_Lnear) l__law_near c__law_near k__law_near, m__law_near := PySem.W.mg_of X G a__law_near, b__law_near := (fun_mk (st := s_Lnear) l__law_near c__law_near k__law_near).binds (ps := ["box", "one"]) (fun _ _ _ _ _ _ us hl => match us, hl with | [_, _], _ => rfl),
                        f_law := fa, d_law := _, F_law := fun_mk (st := s_law) l_law c_law k_law, m_law := PySem.W.mg_of X G a_law, b_law := (fun_mk (st := s_law) l_law c_law k_law).binds (ps := ["script"]) (fun _ _ _ _ _ _ us hl => match us, hl with | [_], _ => rfl),
                        k_add_ratios_0_second_first := fun_kbinds (fun_mk (st := s_add_ratios) l_add_ratios c_add_ratios k_add_ratios) g_add_ratios_0_second_first_rel (fun _ _ _ _ _ _ us ws hl => match us, ws, hl with | [], [_, _], _ => rfl),
                        k_at_most_0_second_first := fun_kbinds (fun_mk (st := s_at_most) l_at_most c_at_most k_at_most) g_at_most_0_second_first_rel (fun _ _ _ _ _ _ us ws hl => match us, ws, hl with | [], [_, _], _ => rfl),
                        k_multiply_ratios_0_second_first := fun_kbinds (fun_mk (st := s_multiply_ratios) l_multiply_ratios c_multiply_ratios k_multiply_ratios) g_multiply_ratios_0_second_first_rel (fun _ _ _ _ _ _ us ws hl => match us, ws, hl with | [], [_, _], _ => rfl),
                        k_ratio_0_bottom_top := fun_kbinds (fun_mk (st := s_ratio) l_ratio c_ratio k_ratio) g_ratio_0_bottom_top_rel (fun _ _ _ _ _ _ us ws hl => match us, ws, hl with | [], [_, _], _ => rfl),
                        z_abs := PySem.W.mg_none_of X G z_abs,
                        z_bool := PySem.W.mg_none_of X G z_bool,
                        z_int := PySem.W.mg_none_of X G z_int,
                        z_isinstance := PySem.W.mg_none_of X G z_isinstance,
                        z_len := PySem.W.mg_none_of X G z_len,
                        z_list := PySem.W.mg_none_of X G z_list,
                        z_range := PySem.W.mg_none_of X G z_range,
                        z_str := PySem.W.mg_none_of X G z_str,
                        z_tuple := PySem.W.mg_none_of X G z_tuple,
                        m_gcd := PySem.W.mg_of X G a_gcd }
  refine ⟨T.d_law, fun s v => .of_eq rfl, fun base _ _ => ?_⟩
  exact ok_law T
theorem walk {l : PySem.W.OpenLaw} {q : Program} {loose : List Str} {XP : (Str → Option Value) → Heap → Prop} {YP : World → Heap → Prop} {d : DefRec} {K : Params → PySem.W.Frag} (hn : l.most = some 63) (hdf : d.params.defaults = [])
    (hY : ∀ (w : World) (h : Heap), YP w h → (K w.params).In h)
    (F : ∀ (w : World) (mg : Str → Option Value) (fa : Addr) (h : Heap), (K w.params).In h → h.Ns mainGlobals mg → mg d.name = some (.ref fa) →
      ∃ fd : FuncData, (∀ (s : Shared) (u : Value), BindsTo s fd ⟨[u], []⟩ [("script", u)]) ∧ ∀ base : Heap, (K w.params).In base → base.Ns mainGlobals mg → FnOk l.prog w (K w.params) mg base CX0 7 fa fd ["script"] (spLaw (K w.params))) :
    PySem.W.WalkO q loose XP YP l.row.toRowW d [] (fun f vs => PySem.call f vs) :=
  L2.walk_of (n := 63) (k := 7) (x := "script") (CX := fun _ => CX0) (sp := fun w => spLaw (K w.params)) hn (by decide) hdf ⟨rfl, by decide, by decide⟩ hY F (fun _ _ a ns hl _ hS => ⟨a, ns, rfl, hS, hl, fun _ => rfl⟩) fun _ _ _ _ _ z => z
end Toy
open PySem PySem.W PyProof.Rows
set_option maxRecDepth 100000 in
set_option maxHeartbeats 0 in
theorem PySem.Challenge.cw_hushpapers_k04_ratios_holds : PySem.Challenge.rw_hushpapers_k04_ratios.Holds := by
  w_on; o_law; k_head; (case hw => w_witness2)
  k_fill
  refine Toy.walk (l := PySem.Challenge.rw_hushpapers_k04_ratios) rfl rfl (fun w h Y => PySem.W.kIn_of Y) ?F
  case F =>
    intro w mg fa h KX G hmg
    refine' Toy.all_mk KX G hmg ?a_ratio ?l_ratio ?c_ratio ?k_ratio ?a_add_ratios ?l_add_ratios ?c_add_ratios ?k_add_ratios ?a_multiply_ratios ?l_multiply_ratios ?c_multiply_ratios ?k_multiply_ratios ?a_at_most ?l_at_most ?c_at_most ?k_at_most ?a__law_mix ?l__law_mix ?c__law_mix ?k__law_mix ?a__law_box ?l__law_box ?c__law_box ?k__law_box ?a__law_draw ?l__law_draw ?c__law_draw ?k__law_draw ?a__law_alike ?l__law_alike ?c__law_alike ?k__law_alike ?a__law_great ?l__law_great ?c__law_great ?k__law_great ?a__law_common ?l__law_common ?c__law_common ?k__law_common ?a__law_lowest ?l__law_lowest ?c__law_lowest ?k__law_lowest ?a__law_number ?l__law_number ?c__law_number ?k__law_number ?a__law_pair ?l__law_pair ?c__law_pair ?k__law_pair ?a__law_two ?l__law_two ?c__law_two ?k__law_two ?a__law_near ?l__law_near ?c__law_near ?k__law_near ?a_law ?l_law ?c_law ?k_law ?z_abs ?z_bool ?z_int ?z_isinstance ?z_len ?z_list ?z_range ?z_str ?z_tuple ?a_gcd
    (case a_ratio => k_is)
    (case l_ratio => k_is)
    (case c_ratio => k_is)
    (case k_ratio => k_is)
    (case a_add_ratios => k_is)
    (case l_add_ratios => k_is)
    (case c_add_ratios => k_is)
    (case k_add_ratios => k_is)
    (case a_multiply_ratios => k_is)
    (case l_multiply_ratios => k_is)
    (case c_multiply_ratios => k_is)
    (case k_multiply_ratios => k_is)
    (case a_at_most => k_is)
    (case l_at_most => k_is)
    (case c_at_most => k_is)
    (case k_at_most => k_is)
    (case a__law_mix => k_is)
    (case l__law_mix => k_is)
    (case c__law_mix => k_is)
    (case k__law_mix => k_is)
    (case a__law_box => k_is)
    (case l__law_box => k_is)
    (case c__law_box => k_is)
    (case k__law_box => k_is)
    (case a__law_draw => k_is)
    (case l__law_draw => k_is)
    (case c__law_draw => k_is)
    (case k__law_draw => k_is)
    (case a__law_alike => k_is)
    (case l__law_alike => k_is)
    (case c__law_alike => k_is)
    (case k__law_alike => k_is)
    (case a__law_great => k_is)
    (case l__law_great => k_is)
    (case c__law_great => k_is)
    (case k__law_great => k_is)
    (case a__law_common => k_is)
    (case l__law_common => k_is)
    (case c__law_common => k_is)
    (case k__law_common => k_is)
    (case a__law_lowest => k_is)
    (case l__law_lowest => k_is)
    (case c__law_lowest => k_is)
    (case k__law_lowest => k_is)
    (case a__law_number => k_is)
    (case l__law_number => k_is)
    (case c__law_number => k_is)
    (case k__law_number => k_is)
    (case a__law_pair => k_is)
    (case l__law_pair => k_is)
    (case c__law_pair => k_is)
    (case k__law_pair => k_is)
    (case a__law_two => k_is)
    (case l__law_two => k_is)
    (case c__law_two => k_is)
    (case k__law_two => k_is)
    (case a__law_near => k_is)
    (case l__law_near => k_is)
    (case c__law_near => k_is)
    (case k__law_near => k_is)
    (case a_law => k_is)
    (case l_law => k_is)
    (case c_law => k_is)
    (case k_law => k_is)
    (case z_abs => k_is)
    (case z_bool => k_is)
    (case z_int => k_is)
    (case z_isinstance => k_is)
    (case z_len => k_is)
    (case z_list => k_is)
    (case z_range => k_is)
    (case z_str => k_is)
    (case z_tuple => k_is)
    (case a_gcd => k_is)
