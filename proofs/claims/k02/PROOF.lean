import PyProof.Rows.All
import Wide.All
import OpenK.AllK
import Wide.FinOn
import HandS.ForMost
import HandS.Wide
import HandS.IsInst
import HandS.Gcd
import HandS.NoneIn
import HandS.ForExc
import HandS.ExcIs
import HandS.Star
import HandS.Walk
import HandS.Zip
import HandS.TupAny
import HandS.Strs
import HandS.TupMul
import HandS.ClsMeth
import HandS.DictComp
import HandS.MakeKw
import HandS.Property
import KE.KSuper
import KE.GoesMore
import HandS.Conv
import HandS.Rev
import HandS.RevTup
import HandS.Deep
import HandS.CallSlots
import HandS.EndBits
import HandS.Flow
import HandS.SetFor
import HandS.SortInts
import HandS.Style
import HandS.SortKw
import KE.DatumOrd
import KE.KMathGC
import HandS.Iter
import PyProof.Rows.SetFrom
import PySem.Challenge.RW_hushpapers_k02_values_and_interpolation
set_option Elab.async false
set_option linter.all false
set_option maxRecDepth 100000
set_option maxHeartbeats 4000000
namespace Toy
open PySem L2
/-! ### values, described; what stands still; environments -/
inductive PV where
  | non | bl (b : Bool) | int (i : Int) | str (x : Str)
  | tup (xs : List PV) | lst (xs : List PV) | fls (xs : List PV)
  | ins (C : Str) (fs : List (Str × PV)) | dct (kvs : List (Key × PV))
  | ty (n : String)
  | er (a : Addr)
mutual
inductive Is (K : PySem.W.Frag) (cl : Str → Option Addr) (F : Hp) : V → PV → Prop
  | non : Is K cl F .non .non
  | bl (b : Bool) : Is K cl F (.bl b) (.bl b)
  | int (i : Int) : Is K cl F (.int i) (.int i)
  | str (x : Str) : Is K cl F (.str x) (.str x)
  | ty (n : String) : Is K cl F (.ty n) (.ty n)
  | er (a : Addr) : Is K cl F (.ref a) (.er a)
  | tup {a : Addr} {vs : List V} {ps : List PV} : SqT K F a vs → IsL K cl F vs ps → Is K cl F (.ref a) (.tup ps)
  | lst {a : Addr} {vs : List V} {ps : List PV} : F a = some (.lst vs) → IsL K cl F vs ps → Is K cl F (.ref a) (.lst ps)
  | fls {a : Addr} {vs : List V} {ps : List PV} : SqL K F a vs → IsL K cl F vs ps → Is K cl F (.ref a) (.fls ps)
  | ins {a c dx : Addr} {C : Str} {vs : List (Str × V)} {fs : List (Str × PV)} : cl C = some c → F a = some (.ins c dx vs) → IsF K cl F vs fs → Is K cl F (.ref a) (.ins C fs)
  | dct {a : Addr} {vs : List (Key × V)} {ps : List (Key × PV)} : F a = some (.dK vs) → IsK K cl F vs ps → Is K cl F (.ref a) (.dct ps)
inductive IsL (K : PySem.W.Frag) (cl : Str → Option Addr) (F : Hp) : List V → List PV → Prop
  | nil : IsL K cl F [] []
  | cons {v : V} {p : PV} {vs : List V} {ps : List PV} : Is K cl F v p → IsL K cl F vs ps → IsL K cl F (v :: vs) (p :: ps)
inductive IsF (K : PySem.W.Frag) (cl : Str → Option Addr) (F : Hp) : List (Str × V) → List (Str × PV) → Prop
  | nil : IsF K cl F [] []
  | cons {f : Str} {v : V} {p : PV} {vs : List (Str × V)} {ps : List (Str × PV)} : Is K cl F v p → IsF K cl F vs ps → IsF K cl F ((f, v) :: vs) ((f, p) :: ps)
inductive IsK (K : PySem.W.Frag) (cl : Str → Option Addr) (F : Hp) : List (Key × V) → List (Key × PV) → Prop
  | nil : IsK K cl F [] []
  | cons {f : Key} {v : V} {p : PV} {vs : List (Key × V)} {ps : List (Key × PV)} : Is K cl F v p → IsK K cl F vs ps → IsK K cl F ((f, v) :: vs) ((f, p) :: ps)
end
section
variable {K : PySem.W.Frag} {cl : Str → Option Addr} {F F' : Hp}
def Sub (F F' : Hp) : Prop := ∀ a o, F a = some o → F' a = some o
theorem Sub.refl {F : Hp} : Sub F F := fun _ _ h => h
theorem Sub.trans {F F' F2 : Hp} (a : Sub F F') (b : Sub F' F2) : Sub F F2 := fun x o h => b x o (a x o h)
theorem Sub.rd {a : Addr} {u : HO} (s : Sub F F') (h : Rd F a u) : Rd F' a u := by
  rcases h with h | ⟨o, h⟩
  · exact .inl (s _ _ h)
  · exact .inr ⟨o, s _ _ h⟩
theorem Sub.sqT {a : Addr} {vs : List V} (s : Sub F F') (h : SqT K F a vs) : SqT K F' a vs := h.imp (fun h => s.rd h) id
theorem Sub.sqL {a : Addr} {vs : List V} (s : Sub F F') (h : SqL K F a vs) : SqL K F' a vs := h.imp (fun h => s.rd h) id
mutual
theorem Is.mono (s : Sub F F') : ∀ {v : V} {p : PV}, Is K cl F v p → Is K cl F' v p
  | _, _, .non => .non
  | _, _, .bl b => .bl b
  | _, _, .int i => .int i
  | _, _, .str x => .str x
  | _, _, .ty n => .ty n
  | _, _, .er a => .er a
  | _, _, .tup h r => .tup (s.sqT h) (IsL.mono s r)
  | _, _, .lst h r => .lst (s _ _ h) (IsL.mono s r)
  | _, _, .fls h r => .fls (s.sqL h) (IsL.mono s r)
  | _, _, .ins c h r => .ins c (s _ _ h) (IsF.mono s r)
  | _, _, .dct h r => .dct (s _ _ h) (IsK.mono s r)
theorem IsL.mono (s : Sub F F') : ∀ {vs : List V} {ps : List PV}, IsL K cl F vs ps → IsL K cl F' vs ps
  | _, _, .nil => .nil
  | _, _, .cons a r => .cons (Is.mono s a) (IsL.mono s r)
theorem IsF.mono (s : Sub F F') : ∀ {vs : List (Str × V)} {ps : List (Str × PV)}, IsF K cl F vs ps → IsF K cl F' vs ps
  | _, _, .nil => .nil
  | _, _, .cons a r => .cons (Is.mono s a) (IsF.mono s r)
theorem IsK.mono (s : Sub F F') : ∀ {vs : List (Key × V)} {ps : List (Key × PV)}, IsK K cl F vs ps → IsK K cl F' vs ps
  | _, _, .nil => .nil
  | _, _, .cons a r => .cons (Is.mono s a) (IsK.mono s r)
end
theorem IsL.len : ∀ {vs : List V} {ps : List PV}, IsL K cl F vs ps → vs.length = ps.length
  | _, _, .nil => rfl
  | _, _, .cons _ r => congrArg (· + 1) r.len
theorem IsL.get : ∀ {vs : List V} {ps : List PV} {i : Nat} {p : PV}, IsL K cl F vs ps → ps[i]? = some p → ∃ v, vs[i]? = some v ∧ Is K cl F v p
  | _, _, _, _, .nil, e => by simp at e
  | _, _, 0, _, .cons a _, e => by simp at e; subst e; exact ⟨_, rfl, a⟩
  | _, _, i + 1, _, .cons _ r, e => by
    obtain ⟨v, h, q⟩ := r.get (i := i) (by simpa using e)
    exact ⟨v, by simpa using h, q⟩
theorem IsL.get' : ∀ {vs : List V} {ps : List PV} {i : Nat} {v : V}, IsL K cl F vs ps → vs[i]? = some v → ∃ p, ps[i]? = some p ∧ Is K cl F v p
  | _, _, _, _, .nil, e => by simp at e
  | _, _, 0, _, .cons a _, e => by simp at e; subst e; exact ⟨_, rfl, a⟩
  | _, _, i + 1, _, .cons _ r, e => by
    obtain ⟨v, h, q⟩ := r.get' (i := i) (by simpa using e)
    exact ⟨v, by simpa using h, q⟩
theorem IsL.append : ∀ {vs ws : List V} {ps qs : List PV}, IsL K cl F vs ps → IsL K cl F ws qs → IsL K cl F (vs ++ ws) (ps ++ qs)
  | _, _, _, _, .nil, s => s
  | _, _, _, _, .cons a r, s => .cons a (r.append s)
theorem IsL.one {v : V} {p : PV} (h : Is K cl F v p) : IsL K cl F [v] [p] := .cons h .nil
theorem IsL.take : ∀ {vs : List V} {ps : List PV} (n : Nat), IsL K cl F vs ps → IsL K cl F (vs.take n) (ps.take n)
  | _, _, 0, _ => .nil
  | _, _, _ + 1, .nil => .nil
  | _, _, n + 1, .cons a r => .cons a (r.take n)
theorem IsL.drop : ∀ {vs : List V} {ps : List PV} (n : Nat), IsL K cl F vs ps → IsL K cl F (vs.drop n) (ps.drop n)
  | _, _, 0, r => r
  | _, _, _ + 1, .nil => .nil
  | _, _, n + 1, .cons _ r => r.drop n
theorem IsL.set {v : V} {p : PV} (h : Is K cl F v p) : ∀ {vs : List V} {ps : List PV} (n : Nat), IsL K cl F vs ps → IsL K cl F (vs.set n v) (ps.set n p)
  | _, _, _, .nil => .nil
  | _, _, 0, .cons _ r => .cons h r
  | _, _, n + 1, .cons a r => .cons a (IsL.set h n r)
theorem IsL.erase : ∀ {vs : List V} {ps : List PV} (n : Nat), IsL K cl F vs ps → IsL K cl F (vs.eraseIdx n) (ps.eraseIdx n)
  | _, _, _, .nil => .nil
  | _, _, 0, .cons _ r => r
  | _, _, n + 1, .cons a r => .cons a (IsL.erase n r)
theorem IsL.rep {v : V} {p : PV} (h : Is K cl F v p) : ∀ n : Nat, IsL K cl F (List.replicate n v) (List.replicate n p)
  | 0 => .nil
  | n + 1 => .cons h (IsL.rep h n)
theorem IsL.reverse {vs : List V} {ps : List PV} (h : IsL K cl F vs ps) : IsL K cl F vs.reverse ps.reverse := by
  induction vs generalizing ps with
  | nil => cases h; exact .nil
  | cons v vs ih =>
    cases h with
    | cons a r =>
      rw [List.reverse_cons, List.reverse_cons]
      exact (ih r).append (.one a)
theorem IsL.ints {vs : List V} : ∀ {ns : List Int}, IsL K cl F vs (ns.map PV.int) → vs = ns.map V.int := by
  intro ns
  induction ns generalizing vs with
  | nil => intro h; cases h; rfl
  | cons n ns ih =>
    intro h
    cases h with
    | cons a r =>
      cases a
      rw [ih r]
      rfl
theorem IsL.of_ints : ∀ ns : List Int, IsL K cl F (ns.map V.int) (ns.map PV.int)
  | [] => .nil
  | n :: ns => .cons (.int n) (IsL.of_ints ns)
theorem IsL.bls {vs : List V} : ∀ {ns : List Bool}, IsL K cl F vs (ns.map PV.bl) → vs = ns.map V.bl := by
  intro ns
  induction ns generalizing vs with
  | nil => intro h; cases h; rfl
  | cons n ns ih =>
    intro h
    cases h with
    | cons a r =>
      cases a
      rw [ih r]
      rfl
theorem IsF.look {f : Str} {p : PV} : ∀ {vs : List (Str × V)} {ps : List (Str × PV)}, IsF K cl F vs ps → ps.lookup f = some p → ∃ v, vs.lookup f = some v ∧ Is K cl F v p
  | _, _, .nil, e => by cases e
  | _, _, .cons (f := g) a r, e => by
    rw [List.lookup_cons] at e ⊢
    split at e
    · next h => cases e; exact ⟨_, rfl, a⟩
    · next h => exact r.look e
theorem IsF.nolook {f : Str} : ∀ {vs : List (Str × V)} {ps : List (Str × PV)}, IsF K cl F vs ps → ps.lookup f = none → vs.lookup f = none
  | _, _, .nil, _ => rfl
  | _, _, .cons (f := g) a r, e => by
    rw [List.lookup_cons] at e ⊢
    split at e
    · cases e
    · next h => exact r.nolook e
def valP (kvs : List (Key × PV)) (k : Key) : Option PV := (kvs.find? fun kv => decide (kv.1 = k)).map (·.2)
theorem IsK.val {k : Key} {p : PV} : ∀ {vs : List (Key × V)} {ps : List (Key × PV)}, IsK K cl F vs ps → valP ps k = some p → ∃ v, valV vs k = some v ∧ Is K cl F v p
  | _, _, .nil, e => by cases e
  | _, _, .cons (f := g) a r, e => by
    unfold valP at e
    unfold valV
    rw [List.find?_cons] at e ⊢
    by_cases h : g = k
    · rw [decide_eq_true h] at e ⊢
      cases e
      exact ⟨_, rfl, a⟩
    · rw [decide_eq_false h] at e ⊢
      exact r.val e
theorem IsK.noval {k : Key} : ∀ {vs : List (Key × V)} {ps : List (Key × PV)}, IsK K cl F vs ps → valP ps k = none → valV vs k = none
  | _, _, .nil, _ => rfl
  | _, _, .cons (f := g) a r, e => by
    unfold valP at e
    unfold valV
    rw [List.find?_cons] at e ⊢
    by_cases h : g = k
    · rw [decide_eq_true h] at e
      cases e
    · rw [decide_eq_false h] at e ⊢
      exact r.noval e
theorem IsK.len : ∀ {vs : List (Key × V)} {ps : List (Key × PV)}, IsK K cl F vs ps → vs.length = ps.length
  | _, _, .nil => rfl
  | _, _, .cons _ r => congrArg (· + 1) r.len
def putP (kvs : List (Key × PV)) (k : Key) (v : PV) : List (Key × PV) :=
  if (kvs.any fun kv => decide (kv.1 = k)) = true then kvs.map (fun kv => if kv.1 = k then (kv.1, v) else kv) else kvs ++ [(k, v)]
theorem IsK.any {k : Key} : ∀ {vs : List (Key × V)} {ps : List (Key × PV)}, IsK K cl F vs ps → (vs.any fun kv => decide (kv.1 = k)) = ps.any fun kv => decide (kv.1 = k)
  | _, _, .nil => rfl
  | _, _, .cons _ r => by rw [List.any_cons, List.any_cons, r.any]
theorem IsK.over {k : Key} {v : V} {p : PV} (h : Is K cl F v p) : ∀ {vs : List (Key × V)} {ps : List (Key × PV)}, IsK K cl F vs ps → IsK K cl F (vs.map fun kv => if kv.1 = k then (kv.1, v) else kv) (ps.map fun kv => if kv.1 = k then (kv.1, p) else kv)
  | _, _, .nil => .nil
  | _, _, .cons (f := g) a r => by
    rw [List.map_cons, List.map_cons]
    by_cases e : g = k
    · rw [if_pos e, if_pos e]
      exact .cons h (r.over h)
    · rw [if_neg e, if_neg e]
      exact .cons a (r.over h)
theorem IsK.append : ∀ {vs ws : List (Key × V)} {ps qs : List (Key × PV)}, IsK K cl F vs ps → IsK K cl F ws qs → IsK K cl F (vs ++ ws) (ps ++ qs)
  | _, _, _, _, .nil, s => s
  | _, _, _, _, .cons a r, s => .cons a (r.append s)
theorem IsK.put {k : Key} {v : V} {p : PV} (h : Is K cl F v p) {vs : List (Key × V)} {ps : List (Key × PV)} (r : IsK K cl F vs ps) : IsK K cl F (putK vs k v) (putP ps k p) := by
  unfold putK putP
  rw [r.any]
  split
  · exact r.over h
  · exact r.append (.cons h .nil)
end
/-! ### results -/
inductive Res (α : Type) where
  | val (a : α) | exc (c : Str) | stuck
def Res.bind {α β : Type} : Res α → (α → Res β) → Res β
  | .val a, f => f a
  | .exc c, _ => .exc c
  | .stuck, _ => .stuck
instance : Monad Res where
  pure := .val
  bind := Res.bind
def wp {α : Type} (m : Res α) (Q : α → Prop) (E : Str → Prop) : Prop := match m with
  | .val a => Q a
  | .exc c => E c
  | .stuck => False
section
variable {α β : Type} {Q : α → Prop} {E : Str → Prop} {R : β → Prop}
theorem wp_val {a : α} : wp (.val a) Q E ↔ Q a := Iff.rfl
theorem wp_bind {m : Res β} {f : β → Res α} : wp (m >>= f) Q E ↔ wp m (fun b => wp (f b) Q E) E := by cases m <;> rfl
theorem wp_mono {m : Res α} {Q' : α → Prop} {E' : Str → Prop} (h : wp m Q E) (q : ∀ a, Q a → Q' a) (e : ∀ c, E c → E' c) : wp m Q' E' := by
  cases m with
  | val a => exact q a h
  | exc c => exact e c h
  | stuck => exact h
@[simp] theorem bind_val {a : β} {f : β → Res α} : (Res.val a >>= f) = f a := rfl
@[simp] theorem bind_exc {c : Str} {f : β → Res α} : (Res.exc c >>= f) = .exc c := rfl
@[simp] theorem bind_stuck {f : β → Res α} : ((Res.stuck : Res β) >>= f) = .stuck := rfl
@[simp] theorem pure_val {a : α} : (pure a : Res α) = .val a := rfl
theorem wp_of_val {m : Res α} {a : α} (h : m = .val a) (q : Q a) : wp m Q E := by subst h; exact q
theorem wp_get {m : Res α} (h : wp m Q (fun _ => False)) : ∃ a, m = .val a ∧ Q a := by
  cases m with
  | val a => exact ⟨a, rfl, h⟩
  | exc c => exact h.elim
  | stuck => exact h.elim
end
/-! ### environments -/
inductive MO where
  | lst (xs : List PV) | dct (kvs : List (Key × PV)) | ob (C : Str) (fs : List (Str × PV))
inductive Slot where
  | un | fz (p : PV) | ow (m : MO) | rf (k : Nat) (m : MO)
abbrev Ro := List Slot
def frz (H : Hp) (A : List Addr) : Hp := fun a => if a ∈ A then none else H a
theorem frz_some {H : Hp} {A : List Addr} {a : Addr} {o : HO} : frz H A a = some o ↔ a ∉ A ∧ H a = some o := by
  unfold frz
  by_cases h : a ∈ A
  · rw [if_pos h]
    exact ⟨(fun z => nomatch z), fun z => absurd h z.1⟩
  · rw [if_neg h]
    exact ⟨fun z => ⟨h, z⟩, fun z => z.2⟩
theorem frz_sub {H : Hp} {A : List Addr} : Sub (frz H A) H := fun _ _ h => (frz_some.mp h).2
theorem frz_in {H : Hp} {A : List Addr} {a : Addr} (h : a ∈ A) : frz H A a = none := by unfold frz; rw [if_pos h]
/-- all but A is kept; what is in A' is of A or new -/
def Gr (A : List Addr) (H : Hp) (A' : List Addr) (H' : Hp) : Prop := (∀ x o, x ∉ A → H x = some o → H' x = some o) ∧ ∀ x, x ∈ A' → x ∈ A ∨ H x = none
theorem Gr.refl {A : List Addr} {H : Hp} : Gr A H A H := ⟨fun _ _ _ h => h, fun _ h => .inl h⟩
theorem Gr.trans {A B C : List Addr} {H H1 H2 : Hp} (a : Gr A H B H1) (b : Gr B H1 C H2) : Gr A H C H2 := by
  refine ⟨fun x o n h => ?_, fun x hx => ?_⟩
  · have h1 := a.1 x o n h
    refine b.1 x o (fun z => ?_) h1
    rcases a.2 x z with c | c
    · exact n c
    · rw [c] at h; cases h
  · rcases b.2 x hx with c | c
    · exact a.2 x c
    · cases e : H x with
      | none => exact .inr rfl
      | some o =>
        by_cases m : x ∈ A
        · exact .inl m
        · rw [a.1 x o m e] at c; cases c
theorem Gr.of {A : List Addr} {H H1 : Hp} (s : Sub H H1) : Gr A H A H1 := ⟨fun x o _ h => s x o h, fun _ h => .inl h⟩
theorem Gr.sub {O A A' : List Addr} {H H' : Hp} (g : Gr A H A' H') (hO : ∀ a, a ∈ O → ∃ o, H a = some o) : Sub (frz H (O ++ A)) (frz H' (O ++ A')) := fun x o h => by
  obtain ⟨n, h⟩ := frz_some.mp h
  rw [List.mem_append] at n
  refine frz_some.mpr ⟨fun z => ?_, g.1 x o (fun z => n (.inr z)) h⟩
  rcases List.mem_append.mp z with z | z
  · exact n (.inl z)
  · rcases g.2 x z with c | c
    · exact n (.inr c)
    · rw [c] at h; cases h
def adr : Ro → St → List Addr
  | .ow _ :: ρ, some (.ref a) :: σ => a :: adr ρ σ
  | .rf _ _ :: ρ, some (.ref a) :: σ => a :: adr ρ σ
  | _ :: ρ, _ :: σ => adr ρ σ
  | _, _ => []
def owa : Ro → St → List Addr
  | .ow _ :: ρ, some (.ref a) :: σ => a :: owa ρ σ
  | _ :: ρ, _ :: σ => owa ρ σ
  | _, _ => []
section
variable (K : PySem.W.Frag) (cl : Str → Option Addr)
def MoIs (F H : Hp) (a : Addr) : MO → Prop
  | .lst ps => ∃ vs, H a = some (.lst vs) ∧ IsL K cl F vs ps
  | .dct ps => ∃ vs, H a = some (.dK vs) ∧ IsK K cl F vs ps
  | .ob C fs => ∃ c dx vs, cl C = some c ∧ H a = some (.ins c dx vs) ∧ IsF K cl F vs fs
def SlotIs (bs : List Addr) (F H : Hp) : Slot → Option V → Prop
  | .un, _ => True
  | .fz p, x => ∃ v, x = some v ∧ Is K cl F v p
  | .ow m, x => ∃ a, x = some (.ref a) ∧ MoIs K cl F H a m
  | .rf k m, x => ∃ a, x = some (.ref a) ∧ bs[k]? = some a ∧ MoIs K cl F H a m
inductive RelS (bs : List Addr) (F H : Hp) : Ro → St → Prop
  | nil : RelS bs F H [] []
  | cons {s : Slot} {x : Option V} {ρ : Ro} {σ : St} : SlotIs K cl bs F H s x → RelS bs F H ρ σ → RelS bs F H (s :: ρ) (x :: σ)
structure Rel (O bs : List Addr) (ρ : Ro) (σ : St) (H : Hp) : Prop where
  sl : RelS K cl bs (frz H (O ++ adr ρ σ)) H ρ σ
  nd : (adr ρ σ).Nodup
  al : ∀ a, a ∈ O → ∃ o, H a = some o
  ow : ∀ a, a ∈ owa ρ σ → a ∉ O
end
section
variable {K : PySem.W.Frag} {cl : Str → Option Addr} {F F' H H' : Hp} {O bs : List Addr} {ρ : Ro} {σ : St}
theorem MoIs.mono {a : Addr} {m : MO} (h : MoIs K cl F H a m) (s : Sub F F') (e : ∀ o, H a = some o → H' a = some o) : MoIs K cl F' H' a m := by
  cases m with
  | lst ps => obtain ⟨vs, h, r⟩ := h; exact ⟨vs, e _ h, r.mono s⟩
  | dct ps => obtain ⟨vs, h, r⟩ := h; exact ⟨vs, e _ h, r.mono s⟩
  | ob C fs => obtain ⟨c, dx, vs, h0, h, r⟩ := h; exact ⟨c, dx, vs, h0, e _ h, r.mono s⟩
theorem MoIs.got {a : Addr} {m : MO} (h : MoIs K cl F H a m) : ∃ o, H a = some o := by
  cases m with
  | lst ps => obtain ⟨vs, h, r⟩ := h; exact ⟨_, h⟩
  | dct ps => obtain ⟨vs, h, r⟩ := h; exact ⟨_, h⟩
  | ob C fs => obtain ⟨c, dx, vs, h0, h, r⟩ := h; exact ⟨_, h⟩
theorem SlotIs.mono {s : Slot} {x : Option V} (h : SlotIs K cl bs F H s x) (q : Sub F F') (e : ∀ a o, (x = some (.ref a) ∧ s ≠ .un ∧ (∀ p, s ≠ .fz p)) → H a = some o → H' a = some o) : SlotIs K cl bs F' H' s x := by
  cases s with
  | un => trivial
  | fz p => obtain ⟨v, rfl, h⟩ := h; exact ⟨v, rfl, h.mono q⟩
  | ow m => obtain ⟨a, rfl, h⟩ := h; exact ⟨a, rfl, h.mono q fun o => e a o ⟨rfl, (fun z => nomatch z), fun _ z => nomatch z⟩⟩
  | rf k m => obtain ⟨a, rfl, b, h⟩ := h; exact ⟨a, rfl, b, h.mono q fun o => e a o ⟨rfl, (fun z => nomatch z), fun _ z => nomatch z⟩⟩
theorem RelS.mono (h : RelS K cl bs F H ρ σ) (q : Sub F F') (e : ∀ a o, a ∈ adr ρ σ → H a = some o → H' a = some o) : RelS K cl bs F' H' ρ σ := by
  induction h with
  | nil => exact .nil
  | @cons s x ρ σ a r ih =>
    refine .cons (a.mono q fun b o z h => e b o ?_ h) (ih fun b o z h => e b o ?_ h)
    · obtain ⟨rfl, n1, n2⟩ := z
      cases s with
      | un => exact absurd rfl n1
      | fz p => exact absurd rfl (n2 p)
      | ow m => exact List.mem_cons_self
      | rf k m => exact List.mem_cons_self
    · cases s with
      | un => exact z
      | fz p => exact z
      | ow m => obtain ⟨c, rfl, _⟩ := a; exact List.mem_cons_of_mem _ z
      | rf k m => obtain ⟨c, rfl, _⟩ := a; exact List.mem_cons_of_mem _ z
theorem RelS.len (h : RelS K cl bs F H ρ σ) : ρ.length = σ.length := by
  induction h with
  | nil => rfl
  | cons _ _ ih => exact congrArg (· + 1) ih
theorem RelS.get {i : Nat} {s : Slot} (h : RelS K cl bs F H ρ σ) (e : ρ[i]? = some s) : ∃ x, σ[i]? = some x ∧ SlotIs K cl bs F H s x := by
  induction h generalizing i with
  | nil => simp at e
  | cons a r ih =>
    cases i with
    | zero => simp at e; subst e; exact ⟨_, rfl, a⟩
    | succ i =>
      obtain ⟨x, h1, h2⟩ := ih (i := i) (by simpa using e)
      exact ⟨x, by simpa using h1, h2⟩
theorem RelS.adr_got (h : RelS K cl bs F H ρ σ) {a : Addr} (ha : a ∈ adr ρ σ) : ∃ o, H a = some o := by
  induction h with
  | nil => cases ha
  | @cons s x ρ σ a r ih =>
    cases s with
    | un => exact ih ha
    | fz p => exact ih ha
    | ow m =>
      obtain ⟨c, rfl, q⟩ := a
      rcases List.mem_cons.mp ha with e | e
      · rw [e]; exact q.got
      · exact ih e
    | rf k m =>
      obtain ⟨c, rfl, _, q⟩ := a
      rcases List.mem_cons.mp ha with e | e
      · rw [e]; exact q.got
      · exact ih e
theorem Rel.same (h : Rel K cl O bs ρ σ H) (s : Sub H H') : Rel K cl O bs ρ σ H' :=
  ⟨h.sl.mono ((Gr.of s).sub h.al) fun _ _ _ e => s _ _ e, h.nd, fun a ha => let ⟨o, e⟩ := h.al a ha; ⟨o, s _ _ e⟩, h.ow⟩
theorem Rel.sub (h : Rel K cl O bs ρ σ H) (s : Sub H H') : Sub (frz H (O ++ adr ρ σ)) (frz H' (O ++ adr ρ σ)) := (Gr.of s).sub h.al
/-- all of O and of the owned stands -/
theorem Rel.got (h : Rel K cl O bs ρ σ H) {a : Addr} (ha : a ∈ O ++ adr ρ σ) : ∃ o, H a = some o := by
  rcases List.mem_append.mp ha with c | c
  · exact h.al a c
  · exact h.sl.adr_got c
/-- what is new is frozen at once -/
theorem Rel.new_frz (h : Rel K cl O bs ρ σ H) {p : Addr} (hp : H p = none) (o : HO) : frz (upd H p o) (O ++ adr ρ σ) p = some o := by
  refine frz_some.mpr ⟨fun z => ?_, upd_same⟩
  obtain ⟨u, e⟩ := h.got z
  rw [hp] at e
  cases e
theorem sub_new {H : Hp} {p : Addr} (h : H p = none) (o : HO) : Sub H (upd H p o) := fun b u q => by rw [upd_ne (ne_of_none q h)]; exact q
end
/-! ### readings that give a described value -/
def IsV (K : PySem.W.Frag) (cl : Str → Option Addr) (F H : Hp) (v : V) : PV → Prop
  | .lst ps => ∃ a vs, v = .ref a ∧ H a = some (.lst vs) ∧ IsL K cl F vs ps
  | .dct ps => ∃ a vs, v = .ref a ∧ H a = some (.dK vs) ∧ IsK K cl F vs ps
  | p => Is K cl F v p
section
variable (K : PySem.W.Frag) (cl : Str → Option Addr) (W : WX)
def XW (σ : St) (H : Hp) (c : Str) : Prop := ∀ C H', cl c = some C → Sub H H' → W (.ref C) none σ H'
/-- strictly frozen -/
def Pur (t : TE) (ρ : Ro) (m : Res PV) : Prop := ∀ (O bs : List Addr) (σ : St) (H : Hp) (Q : VK), Rel K cl O bs ρ σ H →
  wp m (fun r => ∀ v H', Sub H H' → Is K cl (frz H' (O ++ adr ρ σ)) v r → Q v H') (XW cl W σ H) → t σ H Q
/-- a view: the container may be owned -/
def Vw (t : TE) (ρ : Ro) (m : Res PV) : Prop := ∀ (O bs : List Addr) (σ : St) (H : Hp) (Q : VK), Rel K cl O bs ρ σ H →
  wp m (fun r => ∀ v H', Sub H H' → IsV K cl (frz H' (O ++ adr ρ σ)) H' v r → Q v H') (XW cl W σ H) → t σ H Q
def PurL (t : TA) (ρ : Ro) (m : Res (List PV)) : Prop := ∀ (O bs : List Addr) (σ : St) (H : Hp) (Q : List V → Hp → Prop), Rel K cl O bs ρ σ H →
  wp m (fun r => ∀ vs H', Sub H H' → IsL K cl (frz H' (O ++ adr ρ σ)) vs r → Q vs H') (XW cl W σ H) → t σ H Q
def Tst (t : TT) (ρ : Ro) (m : Res Bool) : Prop := ∀ (O bs : List Addr) (σ : St) (H : Hp) (Q : Bool → Hp → Prop), Rel K cl O bs ρ σ H →
  wp m (fun r => ∀ H', Sub H H' → Q r H') (XW cl W σ H) → t σ H Q
/-- an operation on two values -/
def Op2 (r : R2) (f : PV → PV → Res PV) : Prop := ∀ (A : List Addr) (H : Hp) (x y : V) (p q : PV) (Q : VK) (E : Str → Prop), (∀ a, a ∈ A → ∃ o, H a = some o) → IsV K cl (frz H A) H x p → IsV K cl (frz H A) H y q →
  wp (f p q) (fun z => ∀ v H', Sub H H' → Is K cl (frz H' A) v z → Q v H') E → r x y H Q
def Op1 (r : V → Hp → VK → Prop) (f : PV → Res PV) : Prop := ∀ (A : List Addr) (H : Hp) (x : V) (p : PV) (Q : VK) (E : Str → Prop), (∀ a, a ∈ A → ∃ o, H a = some o) → IsV K cl (frz H A) H x p →
  wp (f p) (fun z => ∀ v H', Sub H H' → Is K cl (frz H' A) v z → Q v H') E → r x H Q
/-- a built-in on one view -/
def Bi1 (r : List V → Hp → VK → Prop) (f : PV → Res PV) : Prop := Op1 K cl (fun x H Q => r [x] H Q) f
def Bi2 (r : List V → Hp → VK → Prop) (f : PV → PV → Res PV) : Prop := Op2 K cl (fun x y H Q => r [x, y] H Q) f
end
section
variable {K : PySem.W.Frag} {cl : Str → Option Addr} {W : WX} {ρ : Ro} {σ : St} {H H' F : Hp} {A : List Addr} {t ta tb tc : TE} {m ma mb : Res PV} {f : PV → PV → Res PV} {r : R2}
theorem Is.view {v : V} {p : PV} (h : Is K cl F v p) (s : Sub F H) : IsV K cl F H v p := by
  cases h with
  | tup h r => exact .tup h r
  | lst h r => exact ⟨_, _, rfl, s _ _ h, r⟩
  | fls h r => exact .fls h r
  | dct h r => exact ⟨_, _, rfl, s _ _ h, r⟩
  | non => exact .non
  | bl b => exact .bl b
  | int i => exact .int i
  | str x => exact .str x
  | ty n => exact .ty n
  | er a => exact .er a
  | ins c h r => exact .ins c h r
theorem IsV.mono {F' : Hp} {v : V} {p : PV} (h : IsV K cl F H v p) (s : Sub F F') (s2 : Sub H H') : IsV K cl F' H' v p := by
  cases p with
  | tup ps => exact Is.mono s h
  | lst ps => obtain ⟨a, vs, e, h, r⟩ := h; exact ⟨a, vs, e, s2 _ _ h, r.mono s⟩
  | fls ps => exact Is.mono s h
  | dct ps => obtain ⟨a, vs, e, h, r⟩ := h; exact ⟨a, vs, e, s2 _ _ h, r.mono s⟩
  | non => exact Is.mono s h
  | bl b => exact Is.mono s h
  | int i => exact Is.mono s h
  | str x => exact Is.mono s h
  | ty n => exact Is.mono s h
  | er a => exact Is.mono s h
  | ins C fs => exact Is.mono s h
theorem new_frz (hA : ∀ a, a ∈ A → ∃ o, H a = some o) {p : Addr} (hp : H p = none) (o : HO) : frz (upd H p o) A p = some o := by
  refine frz_some.mpr ⟨fun z => ?_, upd_same⟩
  obtain ⟨u, e⟩ := hA _ z
  rw [hp] at e
  cases e
theorem frz_same (s : Sub H H') : Sub (frz H A) (frz H' A) := fun x o h => by
  obtain ⟨n, h⟩ := frz_some.mp h
  exact frz_some.mpr ⟨n, s _ _ h⟩
theorem new_lst (hA : ∀ a, a ∈ A → ∃ o, H a = some o) {p : Addr} (hp : H p = none) {vs : List V} {ps : List PV} (h : IsL K cl (frz H A) vs ps) : Is K cl (frz (upd H p (.lst vs)) A) (.ref p) (.lst ps) :=
  .lst (new_frz hA hp _) (h.mono (frz_same (sub_new hp _)))
theorem new_tup (hA : ∀ a, a ∈ A → ∃ o, H a = some o) {p : Addr} (hp : H p = none) {vs : List V} {ps : List PV} (h : IsL K cl (frz H A) vs ps) : Is K cl (frz (upd H p (.tup vs)) A) (.ref p) (.tup ps) :=
  .tup (.inl (.inl (new_frz hA hp _))) (h.mono (frz_same (sub_new hp _)))
theorem Pur.vw (h : Pur K cl W t ρ m) : Vw K cl W t ρ m := fun O bs σ H Q R q => h O bs σ H Q R (wp_mono q (fun r k v H' s i => k v H' s (i.view frz_sub)) fun _ z => z)
theorem XW.mono {c : Str} (h : XW cl W σ H c) (s : Sub H H') : XW cl W σ H' c := fun C H2 e s2 => h C H2 e (s.trans s2)
theorem pu_var {i : Nat} {p : PV} (h : ρ[i]? = some (.fz p)) : Pur K cl W (tVar i) ρ (.val p) := fun O bs σ H Q R q => by
  obtain ⟨x, e, v, rfl, hv⟩ := R.sl.get h
  exact ⟨v, e, q v H .refl hv⟩
theorem vw_own {i : Nat} {ps : List PV} (h : ρ[i]? = some (.ow (.lst ps))) : Vw K cl W (tVar i) ρ (.val (.lst ps)) := fun O bs σ H Q R q => by
  obtain ⟨x, e, a, rfl, vs, ha, hv⟩ := R.sl.get h
  exact ⟨_, e, q _ H .refl ⟨a, vs, rfl, ha, hv⟩⟩
theorem vw_ownd {i : Nat} {ps : List (Key × PV)} (h : ρ[i]? = some (.ow (.dct ps))) : Vw K cl W (tVar i) ρ (.val (.dct ps)) := fun O bs σ H Q R q => by
  obtain ⟨x, e, a, rfl, vs, ha, hv⟩ := R.sl.get h
  exact ⟨_, e, q _ H .refl ⟨a, vs, rfl, ha, hv⟩⟩
theorem vw_rf {i k : Nat} {ps : List PV} (h : ρ[i]? = some (.rf k (.lst ps))) : Vw K cl W (tVar i) ρ (.val (.lst ps)) := fun O bs σ H Q R q => by
  obtain ⟨x, e, a, rfl, _, vs, ha, hv⟩ := R.sl.get h
  exact ⟨_, e, q _ H .refl ⟨a, vs, rfl, ha, hv⟩⟩
theorem vw_rfd {i k : Nat} {ps : List (Key × PV)} (h : ρ[i]? = some (.rf k (.dct ps))) : Vw K cl W (tVar i) ρ (.val (.dct ps)) := fun O bs σ H Q R q => by
  obtain ⟨x, e, a, rfl, _, vs, ha, hv⟩ := R.sl.get h
  exact ⟨_, e, q _ H .refl ⟨a, vs, rfl, ha, hv⟩⟩
theorem pu_c {v : V} {p : PV} (h : ∀ F, Is K cl F v p) : Pur K cl W (tC v) ρ (.val p) := fun O bs σ H Q R q => q v H .refl (h _)
theorem pu_int {i : Int} : Pur K cl W (tC (.int i)) ρ (.val (.int i)) := pu_c fun _ => .int i
theorem pu_bl {i : Bool} : Pur K cl W (tC (.bl i)) ρ (.val (.bl i)) := pu_c fun _ => .bl i
theorem pu_str {i : Str} : Pur K cl W (tC (.str i)) ρ (.val (.str i)) := pu_c fun _ => .str i
theorem pu_non : Pur K cl W (tC .non) ρ (.val .non) := pu_c fun _ => .non
theorem pu_ty {n : String} : Pur K cl W (tC (.ty n)) ρ (.val (.ty n)) := pu_c fun _ => .ty n
theorem pu_op (ho : Op2 K cl r f) (ha : Vw K cl W ta ρ ma) (hb : Vw K cl W tb ρ mb) : Pur K cl W (tOp r ta tb) ρ (ma >>= fun x => mb >>= fun y => f x y) := fun O bs σ H Q R q => by
  refine ha O bs σ H _ R (wp_mono (wp_bind.mp q) (fun x qx v1 H1 s1 i1 => ?_) fun _ z => z)
  have R1 := R.same s1
  refine hb O bs σ H1 _ R1 (wp_mono (wp_bind.mp qx) (fun y qy v2 H2 s2 i2 => ?_) fun _ z => z.mono s1)
  have R2 := R1.same s2
  refine ho _ H2 v1 v2 x y _ _ (fun a h => R2.got h) (i1.mono (frz_same s2) s2) i2 (wp_mono qy (fun z qz v H' s iz => qz v H' ((s1.trans s2).trans s) iz) fun _ z => z)
theorem pu_un {r : V → Hp → VK → Prop} {f : PV → Res PV} (ho : Op1 K cl r f) (ha : Vw K cl W ta ρ ma) : Pur K cl W (tUn r ta) ρ (ma >>= f) := fun O bs σ H Q R q => by
  refine ha O bs σ H _ R (wp_mono (wp_bind.mp q) (fun x qx v1 H1 s1 i1 => ?_) fun _ z => z)
  exact ho _ H1 v1 x _ _ (fun a h => (R.same s1).got h) i1 (wp_mono qx (fun z qz v H' s iz => qz v H' (s1.trans s) iz) fun _ z => z)
/-- both bools known to be so -/
def asB : PV → Res Bool
  | .bl b => .val b
  | _ => .stuck
theorem isV_bl {v : V} {b : Bool} (h : IsV K cl F H v (.bl b)) : v = .bl b := by cases h; rfl
theorem isV_int {v : V} {b : Int} (h : IsV K cl F H v (.int b)) : v = .int b := by cases h; rfl
theorem wp_asB {p : PV} {Q : Bool → Prop} {E : Str → Prop} (h : wp (asB p) Q E) : ∃ b, p = .bl b ∧ Q b := by
  cases p with
  | bl b => exact ⟨b, rfl, h⟩
  | _ => exact h.elim
theorem ts_val (ha : Vw K cl W ta ρ ma) : Tst K cl W (tB ta) ρ (ma >>= asB) := fun O bs σ H Q R q => by
  refine ha O bs σ H _ R (wp_mono (wp_bind.mp q) (fun x qx v1 H1 s1 i1 => ?_) fun _ z => z)
  obtain ⟨b, rfl, qb⟩ := wp_asB qx
  exact ⟨b, isV_bl i1, qb H1 s1⟩
theorem ts_cmp (ha : Vw K cl W t ρ ma) : Tst K cl W (tTest t) ρ (ma >>= asB) := fun O bs σ H Q R q => by
  refine ha O bs σ H _ R (wp_mono (wp_bind.mp q) (fun x qx v1 H1 s1 i1 => ?_) fun _ z => z)
  obtain ⟨b, rfl, qb⟩ := wp_asB qx
  exact ⟨b, isV_bl i1, qb H1 s1⟩
variable {u w : TT} {mu mw : Res Bool}
theorem ts_and (hu : Tst K cl W u ρ mu) (hw : Tst K cl W w ρ mw) : Tst K cl W (tAnd u w) ρ (mu >>= fun b => if b = true then mw else .val false) := fun O bs σ H Q R q => by
  refine hu O bs σ H _ R (wp_mono (wp_bind.mp q) (fun b qb H1 s1 => ?_) fun _ z => z)
  cases b with
  | true => exact hw O bs σ H1 _ (R.same s1) (wp_mono qb (fun c qc H2 s2 => qc H2 (s1.trans s2)) fun _ z => z.mono s1)
  | false => exact qb H1 s1
theorem ts_or (hu : Tst K cl W u ρ mu) (hw : Tst K cl W w ρ mw) : Tst K cl W (tOr u w) ρ (mu >>= fun b => if b = true then .val true else mw) := fun O bs σ H Q R q => by
  refine hu O bs σ H _ R (wp_mono (wp_bind.mp q) (fun b qb H1 s1 => ?_) fun _ z => z)
  cases b with
  | false => exact hw O bs σ H1 _ (R.same s1) (wp_mono qb (fun c qc H2 s2 => qc H2 (s1.trans s2)) fun _ z => z.mono s1)
  | true => exact qb H1 s1
theorem ts_not (hu : Tst K cl W u ρ mu) : Tst K cl W (tNot u) ρ (mu >>= fun b => .val (!b)) := fun O bs σ H Q R q => by
  refine hu O bs σ H _ R (wp_mono (wp_bind.mp q) (fun b qb H1 s1 => qb H1 s1) fun _ z => z)
theorem pu_andV (ha : Vw K cl W ta ρ ma) (hb : Pur K cl W tb ρ mb) : Pur K cl W (tAndV ta tb) ρ (ma >>= asB >>= fun b => if b = true then mb else .val (.bl false)) := fun O bs σ H Q R q => by
  rw [wp_bind, wp_bind] at q
  refine ha O bs σ H _ R (wp_mono q (fun x qx v1 H1 s1 i1 => ?_) fun _ z => z)
  obtain ⟨b, rfl, qb⟩ := wp_asB qx
  refine ⟨b, isV_bl i1, ?_⟩
  cases b with
  | true => exact hb O bs σ H1 _ (R.same s1) (wp_mono qb (fun c qc v H2 s2 i => qc v H2 (s1.trans s2) i) fun _ z => z.mono s1)
  | false => exact qb _ H1 s1 (.bl false)
theorem pu_orV (ha : Vw K cl W ta ρ ma) (hb : Pur K cl W tb ρ mb) : Pur K cl W (tOrV ta tb) ρ (ma >>= asB >>= fun b => if b = true then .val (.bl true) else mb) := fun O bs σ H Q R q => by
  rw [wp_bind, wp_bind] at q
  refine ha O bs σ H _ R (wp_mono q (fun x qx v1 H1 s1 i1 => ?_) fun _ z => z)
  obtain ⟨b, rfl, qb⟩ := wp_asB qx
  refine ⟨b, isV_bl i1, ?_⟩
  cases b with
  | false => exact hb O bs σ H1 _ (R.same s1) (wp_mono qb (fun c qc v H2 s2 i => qc v H2 (s1.trans s2) i) fun _ z => z.mono s1)
  | true => exact qb _ H1 s1 (.bl true)
theorem pu_notV (ha : Vw K cl W ta ρ ma) : Pur K cl W (tNotV ta) ρ (ma >>= asB >>= fun b => .val (.bl (!b))) := fun O bs σ H Q R q => by
  rw [wp_bind, wp_bind] at q
  refine ha O bs σ H _ R (wp_mono q (fun x qx v1 H1 s1 i1 => ?_) fun _ z => z)
  obtain ⟨b, rfl, qb⟩ := wp_asB qx
  exact ⟨b, isV_bl i1, qb _ H1 s1 (.bl _)⟩
theorem pu_if (hu : Tst K cl W u ρ mu) (ha : Pur K cl W ta ρ ma) (hb : Pur K cl W tb ρ mb) : Pur K cl W (tIf u ta tb) ρ (mu >>= fun b => if b = true then ma else mb) := fun O bs σ H Q R q => by
  refine hu O bs σ H _ R (wp_mono (wp_bind.mp q) (fun b qb H1 s1 => ?_) fun _ z => z)
  cases b with
  | true => exact ha O bs σ H1 _ (R.same s1) (wp_mono qb (fun c qc v H2 s2 i => qc v H2 (s1.trans s2) i) fun _ z => z.mono s1)
  | false => exact hb O bs σ H1 _ (R.same s1) (wp_mono qb (fun c qc v H2 s2 i => qc v H2 (s1.trans s2) i) fun _ z => z.mono s1)
theorem pu_chain {r' : R2} {f' : PV → PV → Res PV} {mc : Res PV} (ho : Op2 K cl r f) (ho' : Op2 K cl r' f') (ha : Vw K cl W ta ρ ma) (hb : Vw K cl W tb ρ mb) (hc : Vw K cl W tc ρ mc) :
    Pur K cl W (tChain r r' ta tb tc) ρ (ma >>= fun x => mb >>= fun y => f x y >>= asB >>= fun b => if b = true then mc >>= fun z => f' y z else .val (.bl false)) := fun O bs σ H Q R q => by
  refine ha O bs σ H _ R (wp_mono (wp_bind.mp q) (fun x qx v1 H1 s1 i1 => ?_) fun _ z => z)
  have R1 := R.same s1
  refine hb O bs σ H1 _ R1 (wp_mono (wp_bind.mp qx) (fun y qy v2 H2 s2 i2 => ?_) fun _ z => z.mono s1)
  have R2 := R1.same s2
  rw [wp_bind, wp_bind] at qy
  refine ho _ H2 v1 v2 x y _ _ (fun a h => R2.got h) (i1.mono (frz_same s2) s2) i2 (wp_mono qy (fun z qz v3 H3 s3 i3 => ?_) fun _ z => z)
  obtain ⟨b, rfl, qb⟩ := wp_asB qz
  refine ⟨b, by cases i3; rfl, ?_⟩
  have s13 := (s1.trans s2).trans s3
  cases b with
  | false => exact qb _ H3 s13 (.bl false)
  | true =>
    have R3 := R2.same s3
    refine hc O bs σ H3 _ R3 (wp_mono (wp_bind.mp qb) (fun z qz v4 H4 s4 i4 => ?_) fun _ z => z.mono s13)
    exact ho' _ H4 v2 v4 y z _ _ (fun a h => (R3.same s4).got h) (i2.mono (frz_same (s3.trans s4)) (s3.trans s4)) i4 (wp_mono qz (fun z qz v H' s iz => qz v H' ((s13.trans s4).trans s) iz) fun _ z => z)
variable {tr : TA} {ml : Res (List PV)}
theorem pl_nil : PurL K cl W tNil ρ (.val []) := fun O bs σ H Q R q => q [] H .refl .nil
theorem pl_cons (ha : Pur K cl W ta ρ ma) (hl : PurL K cl W tr ρ ml) : PurL K cl W (tCons ta tr) ρ (ma >>= fun x => ml >>= fun xs => .val (x :: xs)) := fun O bs σ H Q R q => by
  refine ha O bs σ H _ R (wp_mono (wp_bind.mp q) (fun x qx v1 H1 s1 i1 => ?_) fun _ z => z)
  refine hl O bs σ H1 _ (R.same s1) (wp_mono (wp_bind.mp qx) (fun xs qs vs H2 s2 i2 => ?_) fun _ z => z.mono s1)
  exact qs _ H2 (s1.trans s2) (.cons (i1.mono (frz_same s2)) i2)
def asSq : PV → Res (List PV)
  | .tup ps => .val ps
  | .lst ps => .val ps
  | .fls ps => .val ps
  | _ => .stuck
theorem wp_asSq {p : PV} {v : V} {Q : List PV → Prop} {E : Str → Prop} (h : wp (asSq p) Q E) (i : IsV K cl F H v p) (s : Sub F H := by exact frz_sub) : ∃ a vs ps, v = .ref a ∧ (SqT K H a vs ∨ SqL K H a vs) ∧ IsL K cl F vs ps ∧ Q ps := by
  cases p with
  | tup ps => cases i with | tup h1 r => exact ⟨_, _, ps, rfl, .inl (s.sqT h1), r, h⟩
  | lst ps => obtain ⟨a, vs, e, h1, r⟩ := i; exact ⟨a, vs, ps, e, .inr (.inl (.inl h1)), r, h⟩
  | fls ps => cases i with | fls h1 r => exact ⟨_, _, ps, rfl, .inr (s.sqL h1), r, h⟩
  | _ => exact h.elim
theorem pl_star (ha : Vw K cl W ta ρ ma) (hl : PurL K cl W tr ρ ml) : PurL K cl W (StX.tStar K ta tr) ρ (ma >>= asSq >>= fun ys => ml >>= fun xs => .val (ys ++ xs)) := fun O bs σ H Q R q => by
  rw [wp_bind, wp_bind] at q
  refine ha O bs σ H _ R (wp_mono q (fun x qx v1 H1 s1 i1 => ?_) fun _ z => z)
  obtain ⟨a, vs, ps, rfl, hs, hl1, qp⟩ := wp_asSq qx i1
  refine ⟨a, vs, rfl, hs, hl O bs σ H1 _ (R.same s1) (wp_mono (wp_bind.mp qp) (fun xs qs vs H2 s2 i2 => ?_) fun _ z => z.mono s1)⟩
  exact qs _ H2 (s1.trans s2) ((hl1.mono (frz_same s2)).append i2)
def sized (n : Nat) : Res Unit := if n ≤ sizeLine then .val () else .stuck
theorem wp_sized {n : Nat} {Q : Unit → Prop} {E : Str → Prop} (h : wp (sized n) Q E) : n ≤ sizeLine ∧ Q () := by
  unfold sized at h
  by_cases c : n ≤ sizeLine
  · rw [if_pos c] at h; exact ⟨c, h⟩
  · rw [if_neg c] at h; exact h.elim
def mkT (ps : List PV) : Res PV := sized ps.length >>= fun _ => .val (.tup ps)
def mkL (ps : List PV) : Res PV := sized ps.length >>= fun _ => .val (.lst ps)
theorem pu_tup (hl : PurL K cl W tr ρ ml) : Pur K cl W (tTup tr) ρ (ml >>= mkT) := fun O bs σ H Q R q => by
  refine hl O bs σ H _ R (wp_mono (wp_bind.mp q) (fun ps qs vs H1 s1 i1 => ?_) fun _ z => z)
  obtain ⟨z, qs⟩ := wp_sized (wp_bind.mp qs)
  refine ⟨by rw [i1.len]; exact z, fun p hp => qs _ _ (s1.trans (sub_new hp _)) (new_tup (fun a h => (R.same s1).got h) hp i1)⟩
theorem pu_lst (hl : PurL K cl W tr ρ ml) : Pur K cl W (tLst tr) ρ (ml >>= mkL) := fun O bs σ H Q R q => by
  refine hl O bs σ H _ R (wp_mono (wp_bind.mp q) (fun ps qs vs H1 s1 i1 => ?_) fun _ z => z)
  obtain ⟨z, qs⟩ := wp_sized (wp_bind.mp qs)
  refine ⟨by rw [i1.len]; exact z, fun p hp => qs _ _ (s1.trans (sub_new hp _)) (new_lst (fun a h => (R.same s1).got h) hp i1)⟩
theorem pu_cb1 {r : List V → Hp → VK → Prop} {f : PV → Res PV} (ho : Bi1 K cl r f) (ha : Vw K cl W ta ρ ma) : Pur K cl W (tCB r (tCons ta tNil)) ρ (ma >>= f) := fun O bs σ H Q R q => by
  refine ha O bs σ H _ R (wp_mono (wp_bind.mp q) (fun x qx v1 H1 s1 i1 => ?_) fun _ z => z)
  exact ho _ H1 v1 x _ _ (fun a h => (R.same s1).got h) i1 (wp_mono qx (fun z qz v H' s iz => qz v H' (s1.trans s) iz) fun _ z => z)
theorem pu_cb2 {r : List V → Hp → VK → Prop} (ho : Bi2 K cl r f) (ha : Vw K cl W ta ρ ma) (hb : Vw K cl W tb ρ mb) : Pur K cl W (tCB r (tCons ta (tCons tb tNil))) ρ (ma >>= fun x => mb >>= fun y => f x y) :=
  pu_op (r := fun x y H Q => r [x, y] H Q) ho ha hb
end
/-! ### operations -/
section
variable {X : Cx} {f : Value → Value → Sem Value} {r1 r2 : R2}
def rOr (r1 r2 : R2) : R2 := fun x y H Q => r1 x y H Q ∨ r2 x y H Q
theorem OpR.or (h1 : OpR X f r1) (h2 : OpR X f r2) : OpR X f (rOr r1 r2) := fun pins s σ H x y v u Q I rx ry h => h.elim (h1 pins s σ H x y v u Q I rx ry) (h2 pins s σ H x y v u Q I rx ry)
theorem IxR.or (h1 : IxR X r1) (h2 : IxR X r2) : IxR X (rOr r1 r2) := fun va sl pins s σ H x y v u Q I rx ry h hs => h.elim (fun h => h1 va sl pins s σ H x y v u Q I rx ry h hs) (fun h => h2 va sl pins s σ H x y v u Q I rx ry h hs)
def cOr (r1 r2 : List V → Hp → VK → Prop) : List V → Hp → VK → Prop := fun xs H Q => r1 xs H Q ∨ r2 xs H Q
theorem CallR.or {f : Value} {r1 r2 : List V → Hp → VK → Prop} (h1 : CallR X f r1) (h2 : CallR X f r2) : CallR X f (cOr r1 r2) := fun pins s σ H xs us Q I r h => h.elim (h1 pins s σ H xs us Q I r) (h2 pins s σ H xs us Q I r)
def sOr (r1 r2 : V → Option Int → Option Int → Hp → VK → Prop) : V → Option Int → Option Int → Hp → VK → Prop := fun x l h H Q => r1 x l h H Q ∨ r2 x l h H Q
theorem SlR.or {r1 r2 : V → Option Int → Option Int → Hp → VK → Prop} (h1 : SlR X r1) (h2 : SlR X r2) : SlR X (sOr r1 r2) := fun pins s σ H x v vl vu lo hi sl Q I rx hs pl pu h => h.elim (h1 pins s σ H x v vl vu lo hi sl Q I rx hs pl pu) (h2 pins s σ H x v vl vu lo hi sl Q I rx hs pl pu)
end
section
variable {K : PySem.W.Frag} {cl : Str → Option Addr} {F H : Hp} {r r1 r2 : R2} {f g : PV → PV → Res PV}
def ints2 (g : Int → Int → Res PV) : PV → PV → Res PV
  | .int i, .int j => g i j
  | _, _ => .stuck
theorem o2_ints {g : Int → Int → Res PV} {r : R2} (h : ∀ (A : List Addr) (H : Hp) (i j : Int) (Q : VK) (E : Str → Prop), wp (g i j) (fun z => ∀ v H', Sub H H' → Is K cl (frz H' A) v z → Q v H') E → r (.int i) (.int j) H Q) : Op2 K cl r (ints2 g) := fun A H x y p q Q E hA ix iy w => by
  unfold ints2 at w
  split at w
  · cases isV_int ix
    cases isV_int iy
    exact h A H _ _ Q E w
  · exact w.elim
theorem o2_i0 {g : Int → Int → V} {k : Int → Int → PV} (h : ∀ i j F, Is K cl F (g i j) (k i j)) : Op2 K cl (rI0 g) (ints2 fun i j => .val (k i j)) := o2_ints fun A H i j Q E w => ⟨i, j, rfl, rfl, w _ H .refl (h i j _)⟩
theorem o2_i {C : Int → Int → Prop} [∀ i j, Decidable (C i j)] {g : Int → Int → V} {k : Int → Int → PV} (h : ∀ i j F, Is K cl F (g i j) (k i j)) : Op2 K cl (rI C g) (ints2 fun i j => if C i j then .val (k i j) else .stuck) := o2_ints fun A H i j Q E w => by
  by_cases c : C i j
  · rw [if_pos c] at w
    exact ⟨i, j, rfl, rfl, c, w _ H .refl (h i j _)⟩
  · rw [if_neg c] at w
    exact w.elim
/-- one rule or the other, by what the first mirror makes -/
def orS (f g : PV → PV → Res PV) : PV → PV → Res PV := fun x y => match f x y with
  | .stuck => g x y
  | z => z
theorem o2_or (h1 : Op2 K cl r1 f) (h2 : Op2 K cl r2 g) : Op2 K cl (rOr r1 r2) (orS f g) := fun A H x y p q Q E hA ix iy w => by
  unfold orS at w
  split at w
  · exact .inr (h2 A H x y p q Q E hA ix iy w)
  · exact .inl (h1 A H x y p q Q E hA ix iy w)
instance (i j : Int) : Decidable (CMul i j) := by unfold CMul; infer_instance
instance (i j : Int) : Decidable (CMulW i j) := by unfold CMulW; infer_instance
instance (i j : Int) : Decidable (CDivN i j) := by unfold CDivN; infer_instance
instance (i j : Int) : Decidable (CDivW i j) := by unfold CDivW; infer_instance
instance (i j : Int) : Decidable (CPow i j) := by unfold CPow; infer_instance
/-! +, -, *, //, %, **, shifts -/
def catS : PV → PV → Res PV
  | .str i, .str j => if i.length + j.length ≤ sizeLine then .val (.str (i ++ j)) else .stuck
  | _, _ => .stuck
def catL : PV → PV → Res PV
  | .lst i, .lst j => if i.length + j.length ≤ sizeLine then .val (.lst (i ++ j)) else .stuck
  | _, _ => .stuck
def catT : PV → PV → Res PV
  | .tup i, .tup j => if i.length + j.length ≤ sizeLine then .val (.tup (i ++ j)) else .stuck
  | _, _ => .stuck
theorem isV_str {v : V} {b : Str} (h : IsV K cl F H v (.str b)) : v = .str b := by cases h; rfl
theorem o2_catS : Op2 K cl (fun x y H Q => ∃ i j, x = .str i ∧ y = .str j ∧ i.length + j.length ≤ sizeLine ∧ Q (.str (i ++ j)) H) catS := fun A H x y p q Q E hA ix iy w => by
  unfold catS at w
  split at w
  · cases isV_str ix
    cases isV_str iy
    split at w
    · next c => exact ⟨_, _, rfl, rfl, c, w _ H .refl (.str _)⟩
    · exact w.elim
  · exact w.elim
theorem o2_catL : Op2 K cl rCat catL := fun A H x y p q Q E hA ix iy w => by
  unfold catL at w
  split at w
  · obtain ⟨a, vs, rfl, ha, la⟩ := ix
    obtain ⟨b, ws, rfl, hb, lb⟩ := iy
    split at w
    · next c =>
      rw [← la.len, ← lb.len] at c
      exact ⟨a, b, vs, ws, rfl, rfl, ha, hb, c, fun p hp => w _ _ (sub_new hp _) (new_lst hA hp (la.append lb))⟩
    · exact w.elim
  · exact w.elim
theorem o2_catT : Op2 K cl (rCatA K) catT := fun A H x y p q Q E hA ix iy w => by
  unfold catT at w
  split at w
  · cases ix with
    | tup h1 l1 =>
    cases iy with
    | tup h2 l2 =>
    split at w
    · next c =>
      rw [← l1.len, ← l2.len] at c
      refine ⟨_, _, _, _, rfl, rfl, frz_sub.sqT h1, frz_sub.sqT h2, c, fun e => ?_, fun _ e => ?_, fun _ _ p hp => w _ _ (sub_new hp _) (new_tup hA hp (l1.append l2))⟩
      · refine w _ H .refl (.tup h2 ?_)
        subst e
        cases l1
        exact l2
      · refine w _ H .refl (.tup h1 ?_)
        subst e
        cases l2
        rw [List.append_nil]
        exact l1
    · exact w.elim
  · exact w.elim
def addP : PV → PV → Res PV := orS (ints2 fun i j => .val (.int (i + j))) (orS catS (orS catL catT))
def rAddV (K : PySem.W.Frag) : R2 := rOr (rI0 fun i j => .int (i + j)) (rOr (fun x y H Q => ∃ i j, x = .str i ∧ y = .str j ∧ i.length + j.length ≤ sizeLine ∧ Q (.str (i ++ j)) H) (rOr rCat (rCatA K)))
theorem o2_add : Op2 K cl (rAddV K) addP := o2_or (o2_i0 fun _ _ _ => .int _) (o2_or o2_catS (o2_or o2_catL o2_catT))
theorem op_addV (K : PySem.W.Frag) {X : Cx} (e : X.K = K) : OpR X (binaryOp .Add) (rAddV K) := by
  subst e
  exact op_add.or (op_add_str.or (op_cat.or op_catA))
def subP : PV → PV → Res PV := ints2 fun i j => .val (.int (i - j))
theorem o2_sub : Op2 K cl (rI0 fun i j => .int (i - j)) subP := o2_i0 fun _ _ _ => .int _
def repL : PV → PV → Res PV
  | .lst xs, .int k => if -(2 ^ 63) ≤ k ∧ k < 2 ^ 63 ∧ xs.length * k.toNat ≤ sizeLine then .val (.lst (List.replicate k.toNat xs).flatten) else .stuck
  | _, _ => .stuck
theorem IsL.reps {vs : List V} {ps : List PV} (h : IsL K cl F vs ps) : ∀ n : Nat, IsL K cl F (List.replicate n vs).flatten (List.replicate n ps).flatten
  | 0 => .nil
  | n + 1 => by
    rw [List.replicate_succ, List.replicate_succ, List.flatten_cons, List.flatten_cons]
    exact h.append (h.reps n)
theorem o2_repL : Op2 K cl rRep repL := fun A H x y p q Q E hA ix iy w => by
  unfold repL at w
  split at w
  · obtain ⟨a, vs, rfl, ha, la⟩ := ix
    cases isV_int iy
    split at w
    · next c =>
      rw [← la.len] at c
      exact ⟨a, _, vs, rfl, rfl, ha, c.1, c.2.1, c.2.2, fun p hp => w _ _ (sub_new hp _) (new_lst hA hp (la.reps _))⟩
    · exact w.elim
  · exact w.elim
def mulI : PV → PV → Res PV := orS (ints2 fun i j => if CMul i j then .val (.int (i * j)) else .stuck) (ints2 fun i j => if CMulW i j then .val (.int (i * j)) else .stuck)
def mulP : PV → PV → Res PV := orS mulI repL
def rMulV : R2 := rOr (rOr (rI CMul fun i j => .int (i * j)) (rI CMulW fun i j => .int (i * j))) rRep
theorem o2_mul : Op2 K cl rMulV mulP := o2_or (o2_or (o2_i fun _ _ _ => .int _) (o2_i fun _ _ _ => .int _)) o2_repL
theorem op_mulV {X : Cx} : OpR X (binaryOp .Mult) rMulV := (op_mul.or op_mulW).or op_rep
def fdivP : PV → PV → Res PV := orS (ints2 fun i j => if CDivN i j then .val (.int (i.fdiv j)) else .stuck) (ints2 fun i j => if CDivW i j then .val (.int (i / j)) else .stuck)
def rFdivV : R2 := rOr (rI CDivN fun i j => .int (i.fdiv j)) (rI CDivW fun i j => .int (i / j))
theorem o2_fdiv : Op2 K cl rFdivV fdivP := o2_or (o2_i fun _ _ _ => .int _) (o2_i fun _ _ _ => .int _)
theorem op_fdivV {X : Cx} : OpR X (binaryOp .FloorDiv) rFdivV := op_fdivN.or op_fdivW
def modP : PV → PV → Res PV := ints2 fun i j => if j ≠ 0 then .val (.int (i.fmod j)) else .stuck
theorem o2_mod : Op2 K cl (rI (fun _ j => j ≠ 0) fun i j => .int (i.fmod j)) modP := o2_i (C := fun _ j => j ≠ 0) fun _ _ _ => .int _
def powP : PV → PV → Res PV := ints2 fun i j => if CPow i j then .val (.int (i ^ j.toNat)) else .stuck
theorem o2_pow : Op2 K cl (rI CPow fun i j => .int (i ^ j.toNat)) powP := o2_i fun _ _ _ => .int _
def shlP : PV → PV → Res PV := ints2 fun i j => if CPow i j then .val (.int (i * 2 ^ j.toNat)) else .stuck
theorem o2_shl : Op2 K cl (rI CPow fun i j => .int (i * 2 ^ j.toNat)) shlP := o2_i fun _ _ _ => .int _
def shrP : PV → PV → Res PV := ints2 fun i j => if 0 ≤ j then .val (.int (i / 2 ^ j.toNat)) else .stuck
theorem o2_shr : Op2 K cl (rI (fun _ j => 0 ≤ j) fun i j => .int (i / 2 ^ j.toNat)) shrP := o2_i (C := fun _ j => 0 ≤ j) fun _ _ _ => .int _
def negP : PV → Res PV
  | .int i => .val (.int (-i))
  | _ => .stuck
theorem o1_neg : Op1 K cl (rU fun i => .int (-i)) negP := fun A H x p Q E hA ix w => by
  unfold negP at w
  split at w
  · cases isV_int ix
    exact ⟨_, rfl, w _ H .refl (.int _)⟩
  · exact w.elim
/-! comparisons -/
def ltP : PV → PV → Res PV := ints2 fun i j => .val (.bl (decide (i < j)))
def leP : PV → PV → Res PV := ints2 fun i j => .val (.bl (decide (i ≤ j)))
def gtP : PV → PV → Res PV := ints2 fun i j => .val (.bl (decide (j < i)))
def geP : PV → PV → Res PV := ints2 fun i j => .val (.bl (decide (j ≤ i)))
theorem o2_lt : Op2 K cl (rI0 fun i j => .bl (decide (i < j))) ltP := o2_i0 fun _ _ _ => .bl _
theorem o2_le : Op2 K cl (rI0 fun i j => .bl (decide (i ≤ j))) leP := o2_i0 fun _ _ _ => .bl _
theorem o2_gt : Op2 K cl (rI0 fun i j => .bl (decide (j < i))) gtP := o2_i0 fun _ _ _ => .bl _
theorem o2_ge : Op2 K cl (rI0 fun i j => .bl (decide (j ≤ i))) geP := o2_i0 fun _ _ _ => .bl _
mutual
def toD : PV → Option PyData
  | .non => some .none
  | .bl b => some (.bool b)
  | .int i => some (.int i)
  | .str x => some (.str x)
  | .lst xs => (toDs xs).map .list
  | .tup xs => (toDs xs).map .tuple
  | .fls xs => (toDs xs).map .list
  | .ins _ _ => none
  | .dct _ => none
  | .ty _ => none
  | .er _ => none
def toDs : List PV → Option (List PyData)
  | [] => some []
  | x :: xs => (toD x).bind fun d => (toDs xs).map fun ds => d :: ds
end
mutual
theorem Is.dp : ∀ {v : V} {p : PV} {d : PyData}, Is K cl F v p → toD p = some d → Dp K F v d
  | _, _, _, .non, e => by cases e; exact .non
  | _, _, _, .bl b, e => by cases e; exact .bl b
  | _, _, _, .int b, e => by cases e; exact .int b
  | _, _, _, .str b, e => by cases e; exact .str b
  | _, _, _, .ty n, e => by cases e
  | _, _, _, .er n, e => by cases e
  | _, _, _, .ins _ _ _, e => by cases e
  | _, _, _, .dct _ _, e => by cases e
  | _, _, _, .tup h r, e => by
    unfold toD at e
    obtain ⟨ds, e1, rfl⟩ := Option.map_eq_some_iff.mp e
    exact .tup h (IsL.dp r e1)
  | _, _, _, .lst h r, e => by
    unfold toD at e
    obtain ⟨ds, e1, rfl⟩ := Option.map_eq_some_iff.mp e
    exact .lst (.inl (.inl h)) (IsL.dp r e1)
  | _, _, _, .fls h r, e => by
    unfold toD at e
    obtain ⟨ds, e1, rfl⟩ := Option.map_eq_some_iff.mp e
    exact .lst h (IsL.dp r e1)
theorem IsL.dp : ∀ {vs : List V} {ps : List PV} {ds : List PyData}, IsL K cl F vs ps → toDs ps = some ds → DpAll K F vs ds
  | _, _, _, .nil, e => by cases e; exact .nil
  | _, _, _, .cons a r, e => by
    unfold toDs at e
    obtain ⟨d, e1, e2⟩ := Option.bind_eq_some_iff.mp e
    obtain ⟨ds, e3, rfl⟩ := Option.map_eq_some_iff.mp e2
    exact .cons (Is.dp a e1) (IsL.dp r e3)
end
mutual
theorem dp_sub {F F' : Hp} (s : Sub F F') : ∀ {v : V} {d : PyData}, Dp K F v d → Dp K F' v d
  | _, _, .non => .non
  | _, _, .bl b => .bl b
  | _, _, .int b => .int b
  | _, _, .str b => .str b
  | _, _, .lst h r => .lst (s.sqL h) (dpall_sub s r)
  | _, _, .tup h r => .tup (s.sqT h) (dpall_sub s r)
theorem dpall_sub {F F' : Hp} (s : Sub F F') : ∀ {v : List V} {d : List PyData}, DpAll K F v d → DpAll K F' v d
  | _, _, .nil => .nil
  | _, _, .cons a r => .cons (dp_sub s a) (dpall_sub s r)
end
theorem IsV.dp {v : V} {p : PV} {d : PyData} (h : IsV K cl F H v p) (s : Sub F H) (e : toD p = some d) : Dp K H v d := by
  cases p with
  | lst ps =>
    obtain ⟨a, vs, rfl, h, r⟩ := h
    unfold toD at e
    obtain ⟨ds, e1, rfl⟩ := Option.map_eq_some_iff.mp e
    exact .lst (.inl (.inl h)) (dpall_sub s (r.dp e1))
  | dct ps => cases e
  | tup ps => exact dp_sub s (Is.dp (K := K) (cl := cl) (F := F) h e)
  | fls ps => exact dp_sub s (Is.dp (K := K) (cl := cl) (F := F) h e)
  | non => exact dp_sub s (Is.dp (K := K) (cl := cl) (F := F) h e)
  | bl b => exact dp_sub s (Is.dp (K := K) (cl := cl) (F := F) h e)
  | int i => exact dp_sub s (Is.dp (K := K) (cl := cl) (F := F) h e)
  | str x => exact dp_sub s (Is.dp (K := K) (cl := cl) (F := F) h e)
  | ty n => exact dp_sub s (Is.dp (K := K) (cl := cl) (F := F) h e)
  | er n => exact dp_sub s (Is.dp (K := K) (cl := cl) (F := F) h e)
  | ins C fs => exact dp_sub s (Is.dp (K := K) (cl := cl) (F := F) h e)
def eqB (p q : PV) : Option Bool := (toD p).bind fun d => (toD q).bind fun e => if SeqAt.shaped d = true ∧ SeqAt.shaped e = true then some (PyData.eqv d e) else none
def eqP (p q : PV) : Res PV := match eqB p q with
  | some b => .val (.bl b)
  | none => .stuck
def neP (p q : PV) : Res PV := match eqB p q with
  | some b => .val (.bl (!b))
  | none => .stuck
theorem eqB_some {p q : PV} {b : Bool} (h : eqB p q = some b) : ∃ d e, toD p = some d ∧ toD q = some e ∧ SeqAt.shaped d = true ∧ SeqAt.shaped e = true ∧ b = PyData.eqv d e := by
  unfold eqB at h
  obtain ⟨d, e1, h⟩ := Option.bind_eq_some_iff.mp h
  obtain ⟨e, e2, h⟩ := Option.bind_eq_some_iff.mp h
  split at h
  · next c => exact ⟨d, e, e1, e2, c.1, c.2, (Option.some.inj h).symm⟩
  · cases h
theorem o2_eq : Op2 K cl (rEqD K) eqP := fun A H x y p q Q E hA ix iy w => by
  unfold eqP at w
  split at w
  · next b h =>
    obtain ⟨d, e, e1, e2, s1, s2, rfl⟩ := eqB_some h
    exact ⟨d, e, ix.dp frz_sub e1, iy.dp frz_sub e2, s1, s2, w _ H .refl (.bl _)⟩
  · exact w.elim
theorem o2_ne : Op2 K cl (rNeD K) neP := fun A H x y p q Q E hA ix iy w => by
  unfold neP at w
  split at w
  · next b h =>
    obtain ⟨d, e, e1, e2, s1, s2, rfl⟩ := eqB_some h
    exact ⟨d, e, ix.dp frz_sub e1, iy.dp frz_sub e2, s1, s2, w _ H .refl (.bl _)⟩
  · exact w.elim
def isNo : PV → Bool
  | .non => true
  | _ => false
theorem is_non {v : V} {p : PV} (h : Is K cl F v p) : decide (v = .non) = isNo p := by cases h <;> rfl
theorem isV_non {v : V} {p : PV} (h : IsV K cl F H v p) : decide (v = .non) = isNo p := by
  cases p with
  | lst ps => obtain ⟨a, vs, rfl, _⟩ := h; rfl
  | dct ps => obtain ⟨a, vs, rfl, _⟩ := h; rfl
  | _ => exact is_non (K := K) (cl := cl) (F := F) h
def isP : PV → PV → Res PV
  | p, .non => .val (.bl (isNo p))
  | _, _ => .stuck
def isnP : PV → PV → Res PV
  | p, .non => .val (.bl (!isNo p))
  | _, _ => .stuck
theorem o2_is : Op2 K cl (fun x y H Q => y = .non ∧ Q (.bl (decide (x = .non))) H) isP := fun A H x y p q Q E hA ix iy w => by
  unfold isP at w
  split at w
  · cases iy
    exact ⟨rfl, w _ H .refl (by rw [isV_non ix]; exact .bl _)⟩
  · exact w.elim
theorem o2_isn : Op2 K cl (fun x y H Q => y = .non ∧ Q (.bl (!decide (x = .non))) H) isnP := fun A H x y p q Q E hA ix iy w => by
  unfold isnP at w
  split at w
  · cases iy
    exact ⟨rfl, w _ H .refl (by rw [isV_non ix]; exact .bl _)⟩
  · exact w.elim
/-! items -/
def ixP : PV → PV → Res PV
  | .lst xs, .int i => match atI xs i with | some p => .val p | none => .stuck
  | .tup xs, .int i => match atI xs i with | some p => .val p | none => .stuck
  | .fls xs, .int i => match atI xs i with | some p => .val p | none => .stuck
  | _, _ => .stuck
def rIxV (K : PySem.W.Frag) : R2 := rOr (rIxL K) (rIxT K)
theorem ix_V {X : Cx} : IxR X (rIxV X.K) := ix_list.or ix_tup
theorem ix_VK (K : PySem.W.Frag) {X : Cx} (e : X.K = K) : IxR X (rIxV K) := by subst e; exact ix_V
theorem IsL.atI {vs : List V} {ps : List PV} {i : Int} {p : PV} (h : IsL K cl F vs ps) (e : atI ps i = some p) : ∃ v, atI vs i = some v ∧ Is K cl F v p := by
  unfold L2.atI at e ⊢
  rw [h.len]
  cases c : ixN ps.length i with
  | none => rw [c] at e; cases e
  | some j =>
    rw [c] at e
    exact h.get e
theorem o2_ix : Op2 K cl (rIxV K) ixP := fun A H x y p q Q E hA ix iy w => by
  unfold ixP at w
  split at w
  · obtain ⟨a, vs, rfl, ha, la⟩ := ix
    cases isV_int iy
    split at w
    · next c =>
      obtain ⟨v, e, i⟩ := la.atI c
      exact .inl ⟨a, vs, _, v, rfl, rfl, .inl (.inl ha), e, w v H .refl i⟩
    · exact w.elim
  · cases ix with
    | tup ha la =>
    cases isV_int iy
    split at w
    · next c =>
      obtain ⟨v, e, i⟩ := la.atI c
      exact .inr ⟨_, _, _, v, rfl, rfl, frz_sub.sqT ha, e, w v H .refl i⟩
    · exact w.elim
  · cases ix with
    | fls ha la =>
    cases isV_int iy
    split at w
    · next c =>
      obtain ⟨v, e, i⟩ := la.atI c
      exact .inl ⟨_, _, _, v, rfl, rfl, frz_sub.sqL ha, e, w v H .refl i⟩
    · exact w.elim
  · exact w.elim
/-! x in xs: flat things only -/
def flatP : PV → Option V
  | .non => some .non
  | .bl b => some (.bl b)
  | .int i => some (.int i)
  | .str x => some (.str x)
  | _ => none
def flatsP : List PV → Option (List V)
  | [] => some []
  | x :: xs => (flatP x).bind fun v => (flatsP xs).map fun vs => v :: vs
theorem flatP_is {v w : V} {p : PV} (h : Is K cl F v p) (e : flatP p = some w) : v = w ∧ flatV v = true := by
  cases h <;> cases e <;> exact ⟨rfl, rfl⟩
theorem isV_flat {v w : V} {p : PV} (h : IsV K cl F H v p) (e : flatP p = some w) : v = w ∧ flatV v = true := by
  cases p with
  | non => exact flatP_is (K := K) (cl := cl) (F := F) h e
  | bl b => exact flatP_is (K := K) (cl := cl) (F := F) h e
  | int i => exact flatP_is (K := K) (cl := cl) (F := F) h e
  | str x => exact flatP_is (K := K) (cl := cl) (F := F) h e
  | tup ps => cases e
  | lst ps => cases e
  | fls ps => cases e
  | dct ps => cases e
  | ty n => cases e
  | er n => cases e
  | ins C fs => cases e
theorem flatsP_is : ∀ {vs : List V} {ps : List PV} {ws : List V}, IsL K cl F vs ps → flatsP ps = some ws → vs = ws ∧ vs.all flatV = true
  | _, _, _, .nil, e => by cases e; exact ⟨rfl, rfl⟩
  | _, _, _, .cons a r, e => by
    unfold flatsP at e
    obtain ⟨d, e1, e2⟩ := Option.bind_eq_some_iff.mp e
    obtain ⟨ds, e3, rfl⟩ := Option.map_eq_some_iff.mp e2
    obtain ⟨rfl, c1⟩ := flatP_is a e1
    obtain ⟨rfl, c2⟩ := flatsP_is r e3
    exact ⟨rfl, by rw [List.all_cons, c1, c2]; rfl⟩
def inP (neg : Bool) (p q : PV) : Res PV := asSq q >>= fun qs => match flatP p, flatsP qs with
  | some v, some vs => .val (.bl (if neg then !inV v vs else inV v vs))
  | _, _ => .stuck
theorem o2_in {neg : Bool} : Op2 K cl (rIn K neg) (inP neg) := fun A H x y p q Q E hA ix iy w => by
  unfold inP at w
  obtain ⟨a, vs, ps, rfl, hs, hl, w⟩ := wp_asSq (wp_bind.mp w) iy
  split at w
  · next v ws e1 e2 =>
    obtain ⟨rfl, c1⟩ := isV_flat ix e1
    obtain ⟨rfl, c2⟩ := flatsP_is hl e2
    exact ⟨a, vs, rfl, hs.symm, c1, c2, w _ H .refl (.bl _)⟩
  · exact w.elim
/-! built-ins -/
def lenP (p : PV) : Res PV := match p with
  | .str z => if z.length ≤ sizeLine then .val (.int z.length) else .stuck
  | .dct kvs => .val (.int kvs.length)
  | p => asSq p >>= fun ps => .val (.int ps.length)
def rLenS (K : PySem.W.Frag) : List V → Hp → VK → Prop := fun xs H Q => ∃ p ys, xs = [.ref p] ∧ (SqL K H p ys ∨ SqT K H p ys) ∧ Q (.int ys.length) H
def rLenV (K : PySem.W.Frag) : List V → Hp → VK → Prop := cOr (rLenS K) (cOr (fun xs H Q => ∃ z, xs = [.str z] ∧ z.length ≤ sizeLine ∧ Q (.int z.length) H) (fun xs H Q => ∃ a kvs, xs = [V.ref a] ∧ H a = some (.dK kvs) ∧ Q (.int kvs.length) H))
theorem call_lenV {X : Cx} : CallR X (.builtin "len") (rLenV X.K) := call_len_seq.or (call_len_str.or call_lenD)
theorem call_lenVK (K : PySem.W.Frag) {X : Cx} (e : X.K = K) : CallR X (.builtin "len") (rLenV K) := by subst e; exact call_lenV
theorem b1_len : Bi1 K cl (rLenV K) lenP := fun A H x p Q E hA ix w => by
  unfold lenP at w
  split at w
  · cases isV_str ix
    split at w
    · next c => exact .inr (.inl ⟨_, rfl, c, w _ H .refl (.int _)⟩)
    · exact w.elim
  · obtain ⟨a, vs, rfl, ha, la⟩ := ix
    exact .inr (.inr ⟨a, vs, rfl, ha, by rw [la.len]; exact w _ H .refl (.int _)⟩)
  · obtain ⟨a, vs, ps, rfl, hs, hl, w⟩ := wp_asSq (wp_bind.mp w) ix
    exact .inl ⟨a, vs, rfl, hs.symm, by rw [hl.len]; exact w _ H .refl (.int _)⟩
def listP (p : PV) : Res PV := asSq p >>= fun ps => .val (.lst ps)
def rListV (K : PySem.W.Frag) : List V → Hp → VK → Prop := fun xs H Q => ∃ p ys, xs = [.ref p] ∧ (SqL K H p ys ∨ SqT K H p ys) ∧ ∀ l, H l = none → Q (.ref l) (upd H l (.lst ys))
theorem call_listV (K : PySem.W.Frag) {X : Cx} (e : X.K = K) : CallR X (.type "list") (rListV K) := by subst e; exact call_list_of
theorem b1_list : Bi1 K cl (rListV K) listP := fun A H x p Q E hA ix w => by
  obtain ⟨a, vs, ps, rfl, hs, hl, w⟩ := wp_asSq (wp_bind.mp w) ix
  exact ⟨a, vs, rfl, hs.symm, fun l hl' => w _ _ (sub_new hl' _) (new_lst hA hl' hl)⟩
def tupleP (p : PV) : Res PV := asSq p >>= fun ps => .val (.tup ps)
def rTupleV (K : PySem.W.Frag) : List V → Hp → VK → Prop := fun xs H Q => ∃ p ys, xs = [.ref p] ∧ ((SqL K H p ys ∧ ∀ l, H l = none → Q (.ref l) (upd H l (.tup ys))) ∨ (SqT K H p ys ∧ Q (.ref p) H))
theorem call_tupleV (K : PySem.W.Frag) {X : Cx} (e : X.K = K) : CallR X (.type "tuple") (rTupleV K) := by subst e; exact call_tuple_of
theorem b1_tuple : Bi1 K cl (rTupleV K) tupleP := fun A H x p Q E hA ix w => by
  cases p with
  | tup ps =>
    cases ix with
    | tup h r => exact ⟨_, _, rfl, .inr ⟨frz_sub.sqT h, w _ H .refl (.tup h r)⟩⟩
  | lst ps =>
    obtain ⟨a, vs, rfl, h, r⟩ := ix
    exact ⟨a, vs, rfl, .inl ⟨.inl (.inl h), fun l hl => w _ _ (sub_new hl _) (new_tup hA hl r)⟩⟩
  | fls ps =>
    cases ix with
    | fls h r => exact ⟨_, _, rfl, .inl ⟨frz_sub.sqL h, fun l hl => w _ _ (sub_new hl _) (new_tup hA hl r)⟩⟩
  | _ => exact w.elim
/-! int, bool, abs, sum, all, any, isinstance -/
def intP : PV → Res PV
  | .int i => .val (.int i)
  | .bl b => .val (.int (if b then 1 else 0))
  | _ => .stuck
def rIntV : List V → Hp → VK → Prop := fun xs H Q => (∃ i, xs = [.int i] ∧ Q (.int i) H) ∨ ∃ k, xs = [.bl k] ∧ Q (.int (if k then 1 else 0)) H
theorem b1_int : Bi1 K cl rIntV intP := fun A H x p Q E hA ix w => by
  unfold intP at w
  split at w
  · cases isV_int ix; exact .inl ⟨_, rfl, w _ H .refl (.int _)⟩
  · cases isV_bl ix; exact .inr ⟨_, rfl, w _ H .refl (.int _)⟩
  · exact w.elim
def boolP : PV → Res PV
  | .int i => .val (.bl (i != 0))
  | .bl b => .val (.bl b)
  | _ => .stuck
def rBoolV : List V → Hp → VK → Prop := fun xs H Q => (∃ i, xs = [.int i] ∧ Q (.bl (i != 0)) H) ∨ ∃ k, xs = [.bl k] ∧ Q (.bl k) H
theorem b1_bool : Bi1 K cl rBoolV boolP := fun A H x p Q E hA ix w => by
  unfold boolP at w
  split at w
  · cases isV_int ix; exact .inl ⟨_, rfl, w _ H .refl (.bl _)⟩
  · cases isV_bl ix; exact .inr ⟨_, rfl, w _ H .refl (.bl _)⟩
  · exact w.elim
def absP : PV → Res PV
  | .int i => .val (.int (if i < 0 then -i else i))
  | _ => .stuck
theorem b1_abs : Bi1 K cl (fun xs H Q => ∃ i, xs = [.int i] ∧ Q (.int (if i < 0 then -i else i)) H) absP := fun A H x p Q E hA ix w => by
  unfold absP at w
  split at w
  · cases isV_int ix; exact ⟨_, rfl, w _ H .refl (.int _)⟩
  · exact w.elim
def maxP : PV → PV → Res PV := ints2 fun i j => .val (.int (if j > i then j else i))
theorem b2_max : Bi2 K cl (fun xs H Q => ∃ i j, xs = [.int i, .int j] ∧ Q (.int (if j > i then j else i)) H) maxP := o2_ints fun A H i j Q E w => ⟨i, j, rfl, w _ H .refl (.int _)⟩
def minP : PV → PV → Res PV := ints2 fun i j => .val (.int (if j < i then j else i))
theorem b2_min : Bi2 K cl (fun xs H Q => ∃ i j, xs = [.int i, .int j] ∧ Q (.int (if j < i then j else i)) H) minP := o2_ints fun A H i j Q E w => ⟨i, j, rfl, w _ H .refl (.int _)⟩
def allI : List PV → Option (List Int)
  | [] => some []
  | .int i :: r => (allI r).map fun is => i :: is
  | _ :: _ => none
theorem allI_eq : ∀ {ps : List PV} {is : List Int}, allI ps = some is → ps = is.map PV.int
  | [], _, e => by cases e; rfl
  | p :: r, is, e => by
    cases p with
    | int i =>
      obtain ⟨js, e1, rfl⟩ := Option.map_eq_some_iff.mp (show (allI r).map (fun is => i :: is) = some is from e)
      rw [allI_eq e1]
      rfl
    | _ => cases e
theorem allI_map : ∀ is : List Int, allI (is.map PV.int) = some is
  | [] => rfl
  | i :: is => by
    show (allI (is.map PV.int)).map (fun js => i :: js) = _
    rw [allI_map is]
    rfl
def allB : List PV → Option (List Bool)
  | [] => some []
  | .bl i :: r => (allB r).map fun is => i :: is
  | _ :: _ => none
theorem allB_eq : ∀ {ps : List PV} {is : List Bool}, allB ps = some is → ps = is.map PV.bl
  | [], _, e => by cases e; rfl
  | p :: r, is, e => by
    cases p with
    | bl i =>
      obtain ⟨js, e1, rfl⟩ := Option.map_eq_some_iff.mp (show (allB r).map (fun is => i :: is) = some is from e)
      rw [allB_eq e1]
      rfl
    | _ => cases e
theorem allB_map : ∀ is : List Bool, allB (is.map PV.bl) = some is
  | [] => rfl
  | i :: is => by
    show (allB (is.map PV.bl)).map (fun js => i :: js) = _
    rw [allB_map is]
    rfl
def asLi : PV → Res (List PV)
  | .lst ps => .val ps
  | .fls ps => .val ps
  | _ => .stuck
theorem wp_asLi {p : PV} {v : V} {Q : List PV → Prop} {E : Str → Prop} (h : wp (asLi p) Q E) (i : IsV K cl F H v p) (s : Sub F H := by exact frz_sub) : ∃ a vs ps, v = .ref a ∧ SqL K H a vs ∧ IsL K cl F vs ps ∧ Q ps := by
  cases p with
  | lst ps => obtain ⟨a, vs, e, h1, r⟩ := i; exact ⟨a, vs, ps, e, .inl (.inl h1), r, h⟩
  | fls ps => cases i with | fls h1 r => exact ⟨_, _, ps, rfl, s.sqL h1, r, h⟩
  | _ => exact h.elim
def sumP (p : PV) : Res PV := asLi p >>= fun ps => match allI ps with
  | some is => .val (.int is.sum)
  | none => .stuck
theorem b1_sum : Bi1 K cl (rSum K) sumP := fun A H x p Q E hA ix w => by
  obtain ⟨a, vs, ps, rfl, hs, hl, w⟩ := wp_asLi (wp_bind.mp w) ix
  split at w
  · next is e =>
    cases allI_eq e
    cases hl.ints
    exact ⟨a, is, rfl, hs, w _ H .refl (.int _)⟩
  · exact w.elim
def allP (p : PV) : Res PV := asLi p >>= fun ps => match allB ps with
  | some is => .val (.bl (is.all id))
  | none => .stuck
theorem b1_all : Bi1 K cl (rAll K) allP := fun A H x p Q E hA ix w => by
  obtain ⟨a, vs, ps, rfl, hs, hl, w⟩ := wp_asLi (wp_bind.mp w) ix
  split at w
  · next is e =>
    cases allB_eq e
    cases hl.bls
    exact ⟨a, is, rfl, hs, w _ H .refl (.bl _)⟩
  · exact w.elim
def anyP (p : PV) : Res PV := asLi p >>= fun ps => match allB ps with
  | some is => .val (.bl (is.any id))
  | none => .stuck
theorem b1_any : Bi1 K cl (rAny K) anyP := fun A H x p Q E hA ix w => by
  obtain ⟨a, vs, ps, rfl, hs, hl, w⟩ := wp_asLi (wp_bind.mp w) ix
  split at w
  · next is e =>
    cases allB_eq e
    cases hl.bls
    exact ⟨a, is, rfl, hs, w _ H .refl (.bl _)⟩
  · exact w.elim
def tyNm : PV → Option String
  | .non => some "NoneType"
  | .bl _ => some "bool"
  | .int _ => some "int"
  | .str _ => some "str"
  | .tup _ => some "tuple"
  | .lst _ => some "list"
  | .dct _ => some "dict"
  | _ => none
def isiP : PV → PV → Res PV
  | p, .ty T => match (tyNm p).bind fun n => kitB n T with
    | some b => .val (.bl b)
    | none => .stuck
  | _, _ => .stuck
theorem isV_ty {v : V} {p : PV} {n : String} (h : IsV K cl F H v p) (s : Sub F H) (e : tyNm p = some n) : TyX K H v (.type n) := by
  cases p with
  | lst ps => obtain ⟨a, vs, rfl, h, _⟩ := h; cases e; exact .base (.lst h)
  | dct ps => obtain ⟨a, vs, rfl, h, _⟩ := h; cases e; exact .base (.dK h)
  | non => cases h; cases e; exact .base .non
  | bl b => cases h; cases e; exact .base (.bl b)
  | int b => cases h; cases e; exact .base (.int b)
  | str b => cases h; cases e; exact .base (.str b)
  | tup ps =>
    cases h with
    | tup h _ =>
      cases e
      rcases s.sqT h with (h | ⟨o, h⟩) | ⟨o, its, n, h, c, _⟩
      · exact .base (.tup h)
      · exact .fTuple h
      · exact .kTuple h c
  | fls ps => cases e
  | ty m => cases e
  | er m => cases e
  | ins C fs => cases e
theorem b2_isi : Bi2 K cl (rIsi K) isiP := fun A H x y p q Q E hA ix iy w => by
  unfold isiP at w
  split at w
  · next T =>
    cases iy
    split at w
    · next b e =>
      obtain ⟨n, e1, e2⟩ := Option.bind_eq_some_iff.mp e
      exact ⟨x, .ty T, .type n, .type T, b, rfl, .ty _, isV_ty ix frz_sub e1, kit_ty e2, w _ H .refl (.bl _)⟩
    · exact w.elim
  · exact w.elim
end
/-! ### statements -/
inductive Fl (S L : Type) where
  | nx (s : S) | rt (v : PV) (r : List MO) | ro (mo : MO) (r : List MO) | bk (l : L) | ct (l : L)
/-- forgetting a slot, freezing a slot -/
inductive Wk : Ro → Ro → Prop
  | nil : Wk [] []
  | keep {s : Slot} {ρ ρ' : Ro} : Wk ρ ρ' → Wk (s :: ρ) (s :: ρ')
  | drop {s : Slot} {ρ ρ' : Ro} : Wk ρ ρ' → Wk (s :: ρ) (.un :: ρ')
  | ice {ps : List PV} {ρ ρ' : Ro} : Wk ρ ρ' → Wk (.ow (.lst ps) :: ρ) (.fz (.lst ps) :: ρ')
  | iced {ps : List (Key × PV)} {ρ ρ' : Ro} : Wk ρ ρ' → Wk (.ow (.dct ps) :: ρ) (.fz (.dct ps) :: ρ')
theorem Wk.refl : ∀ ρ : Ro, Wk ρ ρ
  | [] => .nil
  | _ :: ρ => .keep (Wk.refl ρ)
theorem adr_cons {s : Slot} {x : Option V} {ρ : Ro} {σ : St} {a : Addr} (h : a ∈ adr ρ σ) : a ∈ adr (s :: ρ) (x :: σ) := by
  cases s with
  | un => exact h
  | fz p => exact h
  | ow m =>
    cases x with
    | none => exact h
    | some v => cases v <;> first | exact h | exact List.mem_cons_of_mem _ h
  | rf k m =>
    cases x with
    | none => exact h
    | some v => cases v <;> first | exact h | exact List.mem_cons_of_mem _ h
section
variable {K : PySem.W.Frag} {cl : Str → Option Addr} {W : WX} {bs O : List Addr} {F H H' : Hp} {ρ ρ' : Ro} {σ : St}
theorem Wk.adr (w : Wk ρ ρ') : ∀ {σ : St}, (adr ρ' σ).Sublist (adr ρ σ) ∧ (owa ρ' σ).Sublist (owa ρ σ) := by
  induction w with
  | nil => intro σ; exact ⟨by cases σ <;> exact .slnil, by cases σ <;> exact .slnil⟩
  | @keep s ρ ρ' w ih =>
    intro σ
    cases σ with
    | nil => cases s <;> exact ⟨.slnil, .slnil⟩
    | cons x σ =>
      cases s with
      | un => exact ih
      | fz p => exact ih
      | ow m =>
        cases x with
        | none => exact ih
        | some v => cases v <;> first | exact ih | exact ⟨.cons_cons _ ih.1, .cons_cons _ ih.2⟩
      | rf k m =>
        cases x with
        | none => exact ih
        | some v => cases v <;> first | exact ih | exact ⟨.cons_cons _ ih.1, ih.2⟩
  | @drop s ρ ρ' w ih =>
    intro σ
    cases σ with
    | nil => cases s <;> exact ⟨.slnil, .slnil⟩
    | cons x σ =>
      cases s with
      | un => exact ih
      | fz p => exact ih
      | ow m =>
        cases x with
        | none => exact ih
        | some v => cases v <;> first | exact ih | exact ⟨.cons _ ih.1, .cons _ ih.2⟩
      | rf k m =>
        cases x with
        | none => exact ih
        | some v => cases v <;> first | exact ih | exact ⟨.cons _ ih.1, ih.2⟩
  | ice w ih =>
    intro σ
    cases σ with
    | nil => exact ⟨.slnil, .slnil⟩
    | cons x σ =>
      cases x with
      | none => exact ih
      | some v => cases v <;> first | exact ih | exact ⟨.cons _ ih.1, .cons _ ih.2⟩
  | iced w ih =>
    intro σ
    cases σ with
    | nil => exact ⟨.slnil, .slnil⟩
    | cons x σ =>
      cases x with
      | none => exact ih
      | some v => cases v <;> first | exact ih | exact ⟨.cons _ ih.1, .cons _ ih.2⟩
theorem frz_less {H : Hp} {A A' : List Addr} (h : ∀ a, a ∈ A' → a ∈ A) : Sub (frz H A) (frz H A') := fun x o e => by
  obtain ⟨n, e⟩ := frz_some.mp e
  exact frz_some.mpr ⟨fun z => n (h _ z), e⟩
theorem owa_sub : ∀ {ρ : Ro} {σ : St} {a : Addr}, a ∈ owa ρ σ → a ∈ adr ρ σ
  | [], σ, a, h => by cases σ <;> cases h
  | s :: ρ, [], a, h => by cases s <;> cases h
  | s :: ρ, x :: σ, a, h => by
    cases s with
    | un => exact owa_sub (ρ := ρ) h
    | fz p => exact owa_sub (ρ := ρ) h
    | rf k m => exact adr_cons (owa_sub (ρ := ρ) (by cases x with | none => exact h | some v => cases v <;> exact h))
    | ow m =>
      cases x with
      | none => exact owa_sub (ρ := ρ) h
      | some v =>
        cases v with
        | ref b =>
          rcases List.mem_cons.mp h with e | e
          · rw [e]; exact List.mem_cons_self
          · exact List.mem_cons_of_mem _ (owa_sub e)
        | _ => exact owa_sub (ρ := ρ) h
theorem RelS.wk (w : Wk ρ ρ') : ∀ {σ : St} {F F' : Hp}, Sub F F' → (adr ρ σ).Nodup → (∀ a, a ∈ owa ρ σ → a ∉ adr ρ' σ → ∀ o, H a = some o → F' a = some o) → RelS K cl bs F H ρ σ → RelS K cl bs F' H ρ' σ := by
  induction w with
  | nil => intro σ F F' s nd g r; cases r; exact .nil
  | @keep s ρ ρ' w ih =>
    intro σ F F' sF nd g r
    cases r with
    | @cons _ x _ σ a r =>
      refine .cons (a.mono sF fun _ _ _ h => h) ?_
      cases s with
      | un => exact ih sF nd g r
      | fz p => exact ih sF nd g r
      | ow m =>
        obtain ⟨b, rfl, _⟩ := a
        obtain ⟨n1, nd⟩ := List.nodup_cons.mp nd
        refine ih sF nd (fun a ha na => g a (List.mem_cons_of_mem _ ha) fun z => ?_) r
        rcases List.mem_cons.mp z with e | e
        · exact n1 (e ▸ owa_sub ha)
        · exact na e
      | rf k m =>
        obtain ⟨b, rfl, _⟩ := a
        obtain ⟨n1, nd⟩ := List.nodup_cons.mp nd
        refine ih sF nd (fun a ha na => g a ha fun z => ?_) r
        rcases List.mem_cons.mp z with e | e
        · exact n1 (e ▸ owa_sub ha)
        · exact na e
  | @drop s ρ ρ' w ih =>
    intro σ F F' sF nd g r
    cases r with
    | @cons _ x _ σ a r =>
      refine .cons trivial ?_
      cases s with
      | un => exact ih sF nd g r
      | fz p => exact ih sF nd g r
      | ow m =>
        obtain ⟨b, rfl, _⟩ := a
        exact ih sF (List.nodup_cons.mp nd).2 (fun a ha na => g a (List.mem_cons_of_mem _ ha) na) r
      | rf k m =>
        obtain ⟨b, rfl, _⟩ := a
        exact ih sF (List.nodup_cons.mp nd).2 (fun a ha na => g a ha na) r
  | @ice ps ρ ρ' w ih =>
    intro σ F F' sF nd g r
    cases r with
    | @cons _ x _ σ a r =>
      obtain ⟨b, rfl, vs, hb, hl⟩ := a
      obtain ⟨n1, nd⟩ := List.nodup_cons.mp nd
      refine .cons ⟨_, rfl, .lst (g b List.mem_cons_self (fun z => n1 (w.adr.1.subset z)) _ hb) (hl.mono sF)⟩ ?_
      exact ih sF nd (fun a ha na => g a (List.mem_cons_of_mem _ ha) na) r
  | @iced ps ρ ρ' w ih =>
    intro σ F F' sF nd g r
    cases r with
    | @cons _ x _ σ a r =>
      obtain ⟨b, rfl, vs, hb, hl⟩ := a
      obtain ⟨n1, nd⟩ := List.nodup_cons.mp nd
      refine .cons ⟨_, rfl, .dct (g b List.mem_cons_self (fun z => n1 (w.adr.1.subset z)) _ hb) (hl.mono sF)⟩ ?_
      exact ih sF nd (fun a ha na => g a (List.mem_cons_of_mem _ ha) na) r
theorem Rel.wk (R : Rel K cl O bs ρ σ H) (w : Wk ρ ρ') : Rel K cl O bs ρ' σ H := by
  obtain ⟨sl, nd, al, ow⟩ := R
  have s1 := (w.adr (σ := σ)).1
  refine ⟨sl.wk w (frz_less fun a ha => ?_) nd (fun a ha na o e => frz_some.mpr ⟨fun z => ?_, e⟩), nd.sublist s1, al, fun a ha => ow a ((w.adr (σ := σ)).2.subset ha)⟩
  · rcases List.mem_append.mp ha with c | c
    · exact List.mem_append_left _ c
    · exact List.mem_append_right _ (s1.subset c)
  · rcases List.mem_append.mp z with c | c
    · exact ow a ha c
    · exact na c
end
/-! ### statements: the judgement -/
def nad : Ro → Nat → Bool
  | [], _ => false
  | .un :: _, 0 => true
  | .fz _ :: _, 0 => true
  | _ :: _, 0 => false
  | _ :: ρ, i + 1 => nad ρ i
def brs : Ro → List MO
  | [] => []
  | .rf _ m :: ρ => m :: brs ρ
  | _ :: ρ => brs ρ
def rfB : Nat → Ro → Bool
  | _, [] => true
  | n, .rf k _ :: ρ => (k == n) && rfB (n + 1) ρ
  | n, _ :: ρ => rfB n ρ
def uns (n : Nat) : Ro := List.replicate n .un
theorem wk_uns : ∀ {ρ : Ro} {n : Nat}, ρ.length = n → Wk ρ (uns n)
  | [], _, rfl => .nil
  | _ :: ρ, _, rfl => .drop (wk_uns (ρ := ρ) rfl)
section
variable (K : PySem.W.Frag) (cl : Str → Option Addr) (W : WX)
def FlOk {S L : Type} (O bs : List Addr) (ρn : S → Ro) (ρl : L → Ro) (D : Ends) (A : List Addr) (H : Hp) : Fl S L → Prop
  | .nx s => ∀ σ' H', Gr A H (adr (ρn s) σ') H' → Rel K cl O bs (ρn s) σ' H' → D.nx σ' H'
  | .bk s => ∀ σ' H', Gr A H (adr (ρl s) σ') H' → Rel K cl O bs (ρl s) σ' H' → D.bk σ' H'
  | .ct s => ∀ σ' H', Gr A H (adr (ρl s) σ') H' → Rel K cl O bs (ρl s) σ' H' → D.ct σ' H'
  | .rt v r => ∀ (w : V) (H' : Hp), Gr A H [] H' → Is K cl (frz H' O) w v → (∀ (k : Nat) (b : Addr) (m : MO), bs[k]? = some b → r[k]? = some m → MoIs K cl (frz H' O) H' b m) → D.rt w H'
  | .ro mo r => ∀ (p : Addr) (H' : Hp), Gr A H [p] H' → p ∉ O → MoIs K cl (frz H' (p :: O)) H' p mo → (∀ (k : Nat) (b : Addr) (m : MO), bs[k]? = some b → r[k]? = some m → MoIs K cl (frz H' (p :: O)) H' b m) → D.rt (.ref p) H'
def ExOk (O bs : List Addr) (ρx : Ro) (A : List Addr) (H : Hp) (c : Str) : Prop := ∀ C σ' H', cl c = some C → Gr A H (adr ρx σ') H' → Rel K cl O bs ρx σ' H' → W (.ref C) none σ' H'
def Runs {S L : Type} (t : TS) (ρ : Ro) (m : Res (Fl S L)) (ρn : S → Ro) (ρl : L → Ro) (ρx : Ro) : Prop := ∀ (O bs : List Addr) (σ : St) (H : Hp) (D : Ends), Rel K cl O bs ρ σ H → (∀ b, b ∈ bs → b ∈ O) →
  wp m (FlOk K cl O bs ρn ρl D (adr ρ σ) H) (ExOk K cl W O bs ρx (adr ρ σ) H) → t D σ H
end
section
variable {K : PySem.W.Frag} {cl : Str → Option Addr} {W : WX} {bs O A A1 : List Addr} {F H H' H1 : Hp} {ρ ρ' ρx : Ro} {σ : St} {S S1 L : Type} {ρn : S → Ro} {ρj : S1 → Ro} {ρl : L → Ro} {D : Ends} {t u v : TS} {te : TE} {m : Res PV}
theorem FlOk.step {f : Fl S L} (h : FlOk K cl O bs ρn ρl D A H f) (g : Gr A H A1 H1) : FlOk K cl O bs ρn ρl D A1 H1 f := by
  cases f with
  | nx s => exact fun σ' H' g' R => h σ' H' (g.trans g') R
  | bk s => exact fun σ' H' g' R => h σ' H' (g.trans g') R
  | ct s => exact fun σ' H' g' R => h σ' H' (g.trans g') R
  | rt v r => exact fun w H' g' i b => h w H' (g.trans g') i b
  | ro mo r => exact fun p H' g' n i b => h p H' (g.trans g') n i b
theorem ExOk.step {c : Str} (h : ExOk K cl W O bs ρx A H c) (g : Gr A H A1 H1) : ExOk K cl W O bs ρx A1 H1 c := fun C σ' H' e g' R => h C σ' H' e (g.trans g') R
theorem Gr.wk (w : Wk ρ ρ') : Gr (adr ρ σ) H (adr ρ' σ) H := ⟨fun _ _ _ h => h, fun _ h => .inl (w.adr.1.subset h)⟩
theorem ExOk.xw {c : Str} (h : ExOk K cl W O bs ρx (adr ρ σ) H c) (R : Rel K cl O bs ρ σ H) (w : Wk ρ ρx) : XW cl W σ H c := fun C H' e s => h C σ H' e ((Gr.of s).trans (Gr.wk w)) ((R.same s).wk w)
theorem run_one {M : Res (Fl S L)} (h : Runs K cl W (tSeq t tNext) ρ M ρn ρl ρx) : Runs K cl W t ρ M ρn ρl ρx := h
theorem run_assoc {M : Res (Fl S L)} (h : Runs K cl W (tSeq t (tSeq u v)) ρ M ρn ρl ρx) : Runs K cl W (tSeq (tSeq t u) v) ρ M ρn ρl ρx := h
theorem run_skip {M : Res (Fl S L)} (h : Runs K cl W u ρ M ρn ρl ρx) : Runs K cl W (tSeq tNext u) ρ M ρn ρl ρx := h
theorem run_next {s : S} (w : Wk ρ (ρn s)) : Runs K cl W tNext ρ (.val (.nx s)) ρn ρl ρx := fun O bs σ H D R hb q => q σ H (Gr.wk w) (R.wk w)
theorem run_break {s : L} (w : Wk ρ (ρl s)) : Runs (S := S) K cl W (tSeq tBreak u) ρ (.val (.bk s)) ρn ρl ρx := fun O bs σ H D R hb q => q σ H (Gr.wk w) (R.wk w)
theorem run_cont {s : L} (w : Wk ρ (ρl s)) : Runs (S := S) K cl W (tSeq tCont u) ρ (.val (.ct s)) ρn ρl ρx := fun O bs σ H D R hb q => q σ H (Gr.wk w) (R.wk w)
theorem run_wk {M : Res (Fl S L)} (w : Wk ρ ρ') (h : Runs K cl W t ρ' M ρn ρl ρx) : Runs K cl W t ρ M ρn ρl ρx := fun O bs σ H D R hb q =>
  h O bs σ H D (R.wk w) hb (wp_mono q (fun _ z => z.step (Gr.wk w)) fun _ z => z.step (Gr.wk w))
/-! setting a slot -/
theorem adr_setn : ∀ {ρ : Ro} {σ : St} {i : Nat} {p : PV} {x : Option V}, nad ρ i = true → adr (ρ.set i (.fz p)) (σ.set i x) = adr ρ σ
  | [], σ, i, p, x, h => by cases h
  | s :: ρ, [], i, p, x, h => by
    cases i with
    | zero => cases s <;> first | rfl | cases h
    | succ i => cases s <;> rfl
  | s :: ρ, y :: σ, 0, p, x, h => by cases s <;> first | rfl | cases h
  | s :: ρ, y :: σ, i + 1, p, x, h => by
    have ih := adr_setn (ρ := ρ) (σ := σ) (i := i) (p := p) (x := x) (by cases s <;> exact h)
    show adr (s :: ρ.set i (.fz p)) (y :: σ.set i x) = adr (s :: ρ) (y :: σ)
    cases s with
    | un => exact ih
    | fz q => exact ih
    | ow m => cases y with
      | none => exact ih
      | some v => cases v <;> first | exact ih | exact congrArg (_ :: ·) ih
    | rf k m => cases y with
      | none => exact ih
      | some v => cases v <;> first | exact ih | exact congrArg (_ :: ·) ih
theorem owa_setn : ∀ {ρ : Ro} {σ : St} {i : Nat} {p : PV} {x : Option V}, nad ρ i = true → owa (ρ.set i (.fz p)) (σ.set i x) = owa ρ σ
  | [], σ, i, p, x, h => by cases h
  | s :: ρ, [], i, p, x, h => by
    cases i with
    | zero => cases s <;> first | rfl | cases h
    | succ i => cases s <;> rfl
  | s :: ρ, y :: σ, 0, p, x, h => by cases s <;> first | rfl | cases h
  | s :: ρ, y :: σ, i + 1, p, x, h => by
    have ih := owa_setn (ρ := ρ) (σ := σ) (i := i) (p := p) (x := x) (by cases s <;> exact h)
    show owa (s :: ρ.set i (.fz p)) (y :: σ.set i x) = owa (s :: ρ) (y :: σ)
    cases s with
    | un => exact ih
    | fz q => exact ih
    | ow m => cases y with
      | none => exact ih
      | some v => cases v <;> first | exact ih | exact congrArg (_ :: ·) ih
    | rf k m => cases y with
      | none => exact ih
      | some v => cases v <;> first | exact ih
theorem RelS.set {F : Hp} (r : RelS K cl bs F H ρ σ) {i : Nat} {s : Slot} {x : Option V} (h : SlotIs K cl bs F H s x) : RelS K cl bs F H (ρ.set i s) (σ.set i x) := by
  induction r generalizing i with
  | nil => exact .nil
  | cons a r ih =>
    cases i with
    | zero => exact .cons h r
    | succ i => exact .cons a ih
theorem Rel.setfz (R : Rel K cl O bs ρ σ H) {i : Nat} {p : PV} {v : V} (hn : nad ρ i = true) (h : Is K cl (frz H (O ++ adr ρ σ)) v p) : Rel K cl O bs (ρ.set i (.fz p)) (σ.set i (some v)) H := by
  have e := adr_setn (σ := σ) (p := p) (x := some v) hn
  refine ⟨?_, by rw [e]; exact R.nd, R.al, by rw [owa_setn hn]; exact R.ow⟩
  rw [e]
  exact R.sl.set ⟨v, rfl, h⟩
theorem adr_seto : ∀ {ρ : Ro} {σ : St} {i : Nat} {m : MO} {p : Addr}, ρ.length = σ.length → nad ρ i = true → (adr (ρ.set i (.ow m)) (σ.set i (some (.ref p)))).Perm (p :: adr ρ σ) ∧ (owa (ρ.set i (.ow m)) (σ.set i (some (.ref p)))).Perm (p :: owa ρ σ)
  | [], σ, i, m, p, _, h => by cases h
  | s :: ρ, [], i, m, p, e, h => by cases e
  | s :: ρ, y :: σ, 0, m, p, _, h => by cases s <;> first | exact ⟨.refl _, .refl _⟩ | cases h
  | s :: ρ, y :: σ, i + 1, m, p, e, h => by
    have ih := adr_seto (ρ := ρ) (σ := σ) (i := i) (m := m) (p := p) (Nat.succ.inj e) (by cases s <;> exact h)
    show (adr (s :: ρ.set i (.ow m)) (y :: σ.set i (some (.ref p)))).Perm (p :: adr (s :: ρ) (y :: σ)) ∧ (owa (s :: ρ.set i (.ow m)) (y :: σ.set i (some (.ref p)))).Perm (p :: owa (s :: ρ) (y :: σ))
    cases s with
    | un => exact ih
    | fz q => exact ih
    | ow m => cases y with
      | none => exact ih
      | some v => cases v <;> first | exact ih | exact ⟨(ih.1.cons _).trans (.swap _ _ _), (ih.2.cons _).trans (.swap _ _ _)⟩
    | rf k m => cases y with
      | none => exact ih
      | some v => cases v <;> first | exact ih | exact ⟨(ih.1.cons _).trans (.swap _ _ _), ih.2⟩
/-- a new object becomes owned -/
theorem Rel.setow (R : Rel K cl O bs ρ σ H) {i : Nat} {mo : MO} {p : Addr} (s : Sub H H') (hn : nad ρ i = true) (hp : H p = none) (h : MoIs K cl (frz H' (p :: (O ++ adr ρ σ))) H' p mo) :
    Rel K cl O bs (ρ.set i (.ow mo)) (σ.set i (some (.ref p))) H' ∧ Gr (adr ρ σ) H (adr (ρ.set i (.ow mo)) (σ.set i (some (.ref p)))) H' := by
  obtain ⟨e1, e2⟩ := adr_seto (ρ := ρ) (σ := σ) (i := i) (m := mo) (p := p) R.sl.len hn
  have np : p ∉ O ++ adr ρ σ := fun z => by
    obtain ⟨o, e⟩ := R.got z
    rw [hp] at e; cases e
  have memA : ∀ a, a ∈ adr (ρ.set i (.ow mo)) (σ.set i (some (.ref p))) → a = p ∨ a ∈ adr ρ σ := fun a ha => List.mem_cons.mp (e1.mem_iff.mp ha)
  refine ⟨⟨?_, e1.nodup_iff.mpr (List.nodup_cons.mpr ⟨fun z => np (List.mem_append_right _ z), R.nd⟩), fun a ha => let ⟨o, e⟩ := R.al a ha; ⟨o, s _ _ e⟩, fun a ha => ?_⟩, ⟨fun x o _ h => s _ _ h, fun x hx => ?_⟩⟩
  · have s1 : Sub (frz H (O ++ adr ρ σ)) (frz H' (O ++ adr (ρ.set i (.ow mo)) (σ.set i (some (.ref p))))) := fun x o e => by
      obtain ⟨n, e⟩ := frz_some.mp e
      refine frz_some.mpr ⟨fun z => ?_, s _ _ e⟩
      rcases List.mem_append.mp z with c | c
      · exact n (List.mem_append_left _ c)
      · rcases memA x c with c | c
        · rw [c, hp] at e; cases e
        · exact n (List.mem_append_right _ c)
    have s2 : Sub (frz H' (p :: (O ++ adr ρ σ))) (frz H' (O ++ adr (ρ.set i (.ow mo)) (σ.set i (some (.ref p))))) := frz_less fun a ha => by
      rcases List.mem_append.mp ha with c | c
      · exact List.mem_cons_of_mem _ (List.mem_append_left _ c)
      · rcases memA a c with c | c
        · rw [c]; exact List.mem_cons_self
        · exact List.mem_cons_of_mem _ (List.mem_append_right _ c)
    exact (R.sl.mono s1 fun a o _ e => s _ _ e).set ⟨p, rfl, h.mono s2 fun _ e => e⟩
  · rcases List.mem_cons.mp (e2.mem_iff.mp ha) with c | c
    · rw [c]; exact fun z => np (List.mem_append_left _ z)
    · exact R.ow a c
  · rcases memA x hx with c | c
    · rw [c]; exact .inr hp
    · exact .inl c
theorem run_set {i : Nat} {n : PV → Res (Fl S L)} (he : Pur K cl W te ρ m) (hn : nad ρ i = true) (w : Wk ρ ρx) (h : ∀ x, Runs K cl W u (ρ.set i (.fz x)) (n x) ρn ρl ρx) : Runs K cl W (tSeq (tAsg te (gName i)) u) ρ (m >>= n) ρn ρl ρx := fun O bs σ H D R hb q => by
  refine he O bs σ H _ R (wp_mono (wp_bind.mp q) (fun x qx v H' s ix => ?_) fun _ z => z.xw R w)
  have g : Gr (adr ρ σ) H (adr (ρ.set i (.fz x)) (σ.set i (some v))) H' := by rw [adr_setn hn]; exact Gr.of s
  exact h x O bs _ H' D ((R.same s).setfz hn ix) hb (wp_mono qx (fun _ z => z.step g) fun _ z => z.step g)
/-! new lists -/
end
section
variable (K : PySem.W.Frag) (cl : Str → Option Addr) (W : WX)
def New (t : TE) (ρ : Ro) (m : Res (List PV)) : Prop := ∀ (O bs : List Addr) (σ : St) (H : Hp) (Q : VK), Rel K cl O bs ρ σ H →
  wp m (fun ps => ∀ p vs H', Sub H H' → H p = none → H' p = some (.lst vs) → IsL K cl (frz H' (p :: (O ++ adr ρ σ))) vs ps → Q (.ref p) H') (XW cl W σ H) → t σ H Q
def NewD (t : TE) (ρ : Ro) (m : Res (List (Key × PV))) : Prop := ∀ (O bs : List Addr) (σ : St) (H : Hp) (Q : VK), Rel K cl O bs ρ σ H →
  wp m (fun ps => ∀ p vs H', Sub H H' → H p = none → H' p = some (.dK vs) → IsK K cl (frz H' (p :: (O ++ adr ρ σ))) vs ps → Q (.ref p) H') (XW cl W σ H) → t σ H Q
end
section
variable {K : PySem.W.Frag} {cl : Str → Option Addr} {W : WX} {bs O A A1 : List Addr} {F H H' H1 : Hp} {ρ ρ' ρx : Ro} {σ : St} {S S1 L : Type} {ρn : S → Ro} {ρj : S1 → Ro} {ρl : L → Ro} {D : Ends} {t u v : TS} {te ta tb : TE} {m ma mb : Res PV} {tr : TA} {ml : Res (List PV)} {md : Res (List (Key × PV))}
theorem New.pur (h : New K cl W te ρ ml) : Pur K cl W te ρ (ml >>= fun ps => .val (.lst ps)) := fun O bs σ H Q R q => by
  refine h O bs σ H Q R (wp_mono (wp_bind.mp q) (fun ps qs p vs H' s hp hv hl => qs _ H' s (.lst (frz_some.mpr ⟨fun z => ?_, hv⟩) (hl.mono (frz_less fun a ha => List.mem_cons_of_mem _ ha)))) fun _ z => z)
  obtain ⟨o, e⟩ := R.got z
  rw [hp] at e; cases e
theorem NewD.pur (h : NewD K cl W te ρ md) : Pur K cl W te ρ (md >>= fun ps => .val (.dct ps)) := fun O bs σ H Q R q => by
  refine h O bs σ H Q R (wp_mono (wp_bind.mp q) (fun ps qs p vs H' s hp hv hl => qs _ H' s (.dct (frz_some.mpr ⟨fun z => ?_, hv⟩) (hl.mono (frz_less fun a ha => List.mem_cons_of_mem _ ha)))) fun _ z => z)
  obtain ⟨o, e⟩ := R.got z
  rw [hp] at e; cases e
theorem frz_new {p : Addr} (hp : H1 p = none) {A : List Addr} (o : HO) : Sub (frz H1 A) (frz (upd H1 p o) (p :: A)) := fun x u e => by
  obtain ⟨n, e⟩ := frz_some.mp e
  have ne : x ≠ p := ne_of_none e hp
  refine frz_some.mpr ⟨fun z => ?_, by rw [upd_ne ne]; exact e⟩
  rcases List.mem_cons.mp z with c | c
  · exact ne c
  · exact n c
theorem none_back (s : Sub H H1) {p : Addr} (h : H1 p = none) : H p = none := by
  cases e : H p with
  | none => rfl
  | some o => rw [s _ _ e] at h; cases h
def mkN (ps : List PV) : Res (List PV) := sized ps.length >>= fun _ => .val ps
theorem nw_lst (hl : PurL K cl W tr ρ ml) : New K cl W (tLst tr) ρ (ml >>= mkN) := fun O bs σ H Q R q => by
  refine hl O bs σ H _ R (wp_mono (wp_bind.mp q) (fun ps qs vs H1 s1 i1 => ?_) fun _ z => z)
  obtain ⟨z, qs⟩ := wp_sized (wp_bind.mp qs)
  exact ⟨by rw [i1.len]; exact z, fun p hp => qs p vs _ (s1.trans (sub_new hp _)) (none_back s1 hp) upd_same (i1.mono (frz_new hp _))⟩
theorem nw_list (ha : Vw K cl W ta ρ ma) : New K cl W (tCB (rListV K) (tCons ta tNil)) ρ (ma >>= asSq) := fun O bs σ H Q R q => by
  refine ha O bs σ H _ R (wp_mono (wp_bind.mp q) (fun x qx v1 H1 s1 i1 => ?_) fun _ z => z)
  obtain ⟨a, vs, ps, rfl, hs, hl, w⟩ := wp_asSq qx i1
  exact ⟨a, vs, rfl, hs.symm, fun l hl' => w l vs _ (s1.trans (sub_new hl' _)) (none_back s1 hl') upd_same (hl.mono (frz_new hl' _))⟩
theorem nw_rep (ha : Vw K cl W ta ρ ma) (hb : Vw K cl W tb ρ mb) : New K cl W (tOp rMulV ta tb) ρ (ma >>= fun x => mb >>= fun y => repL x y >>= asSq) := fun O bs σ H Q R q => by
  refine ha O bs σ H _ R (wp_mono (wp_bind.mp q) (fun x qx v1 H1 s1 i1 => ?_) fun _ z => z)
  have R1 := R.same s1
  refine hb O bs σ H1 _ R1 (wp_mono (wp_bind.mp qx) (fun y qy v2 H2 s2 i2 => ?_) fun _ z => z.mono s1)
  have i1' := i1.mono (frz_same (A := O ++ adr ρ σ) s2) s2
  have w := wp_bind.mp qy
  unfold repL at w
  split at w
  · obtain ⟨a, vs, rfl, ha, la⟩ := i1'
    cases isV_int i2
    split at w
    · next c =>
      rw [← la.len] at c
      have s12 := s1.trans s2
      exact .inr ⟨a, _, vs, rfl, rfl, ha, c.1, c.2.1, c.2.2, fun p hp => w p _ _ (s12.trans (sub_new hp _)) (none_back s12 hp) upd_same ((la.reps _).mono (frz_new hp _))⟩
    · exact w.elim
  · exact w.elim
theorem nd_new : NewD K cl W tDNewK ρ (.val []) := fun O bs σ H Q R q p hp => q p [] _ (sub_new hp _) hp upd_same .nil
theorem run_setow {i : Nat} {n : List PV → Res (Fl S L)} (he : New K cl W te ρ ml) (hn : nad ρ i = true) (w : Wk ρ ρx) (h : ∀ x, Runs K cl W u (ρ.set i (.ow (.lst x))) (n x) ρn ρl ρx) : Runs K cl W (tSeq (tAsg te (gName i)) u) ρ (ml >>= n) ρn ρl ρx := fun O bs σ H D R hb q => by
  refine he O bs σ H _ R (wp_mono (wp_bind.mp q) (fun x qx p vs H' s hp hv hl => ?_) fun _ z => z.xw R w)
  obtain ⟨R', g⟩ := R.setow (mo := .lst x) s hn hp ⟨vs, hv, hl⟩
  exact h x O bs _ H' D R' hb (wp_mono qx (fun _ z => z.step g) fun _ z => z.step g)
theorem run_setowd {i : Nat} {n : List (Key × PV) → Res (Fl S L)} (he : NewD K cl W te ρ md) (hn : nad ρ i = true) (w : Wk ρ ρx) (h : ∀ x, Runs K cl W u (ρ.set i (.ow (.dct x))) (n x) ρn ρl ρx) : Runs K cl W (tSeq (tAsg te (gName i)) u) ρ (md >>= n) ρn ρl ρx := fun O bs σ H D R hb q => by
  refine he O bs σ H _ R (wp_mono (wp_bind.mp q) (fun x qx p vs H' s hp hv hl => ?_) fun _ z => z.xw R w)
  obtain ⟨R', g⟩ := R.setow (mo := .dct x) s hn hp ⟨vs, hv, hl⟩
  exact h x O bs _ H' D R' hb (wp_mono qx (fun _ z => z.step g) fun _ z => z.step g)
/-! return, if, raise -/
theorem mem_adr0 : ∀ {ρ : Ro} {σ : St} {i : Nat} {mo : MO} {a : Addr}, ρ[i]? = some (.ow mo) → σ[i]? = some (some (.ref a)) → a ∈ adr ρ σ ∧ a ∈ owa ρ σ
  | [], σ, i, mo, a, h, _ => by simp at h
  | s0 :: ρ, [], i, mo, a, h, e => by simp at e
  | s0 :: ρ, x :: σ, 0, mo, a, h, e => by
    simp at h e
    subst h; subst e
    exact ⟨List.mem_cons_self, List.mem_cons_self⟩
  | s0 :: ρ, x :: σ, i + 1, mo, a, h, e => by
    have ih := mem_adr0 (ρ := ρ) (σ := σ) (i := i) (by simpa using h) (by simpa using e)
    refine ⟨adr_cons ih.1, ?_⟩
    have q := ih.2
    cases s0 with
    | un => exact q
    | fz p => exact q
    | rf k m => cases x with
      | none => exact q
      | some v => cases v <;> exact q
    | ow m => cases x with
      | none => exact q
      | some v => cases v <;> first | exact q | exact List.mem_cons_of_mem _ q
theorem Rel.mem_adr (_ : Rel K cl O bs ρ σ H) {i : Nat} {mo : MO} {a : Addr} (h : ρ[i]? = some (.ow mo)) (e : σ[i]? = some (some (.ref a))) : a ∈ adr ρ σ := (mem_adr0 h e).1
theorem Rel.mem_owa (_ : Rel K cl O bs ρ σ H) {i : Nat} {mo : MO} {a : Addr} (h : ρ[i]? = some (.ow mo)) (e : σ[i]? = some (some (.ref a))) : a ∈ owa ρ σ := (mem_adr0 h e).2
theorem frz_gone (s : Sub H H') {p : Addr} (hp : H p = none) : Sub (frz H (O ++ A)) (frz H' (p :: O)) := fun x o e => by
  obtain ⟨n, e⟩ := frz_some.mp e
  refine frz_some.mpr ⟨fun z => ?_, s _ _ e⟩
  rcases List.mem_cons.mp z with c | c
  · rw [c, hp] at e; cases e
  · exact n (List.mem_append_left _ c)
theorem brs_rf : ∀ {ρ : Ro} {n : Nat}, rfB n ρ = true → ∀ {k : Nat} {mo : MO}, (brs ρ)[k]? = some mo → Slot.rf (n + k) mo ∈ ρ
  | [], n, h, k, mo, e => by simp [brs] at e
  | s :: ρ, n, h, k, mo, e => by
    cases s with
    | un => exact List.mem_cons_of_mem _ (brs_rf (ρ := ρ) h e)
    | fz p => exact List.mem_cons_of_mem _ (brs_rf (ρ := ρ) h e)
    | ow m => exact List.mem_cons_of_mem _ (brs_rf (ρ := ρ) h e)
    | rf j m =>
      have h' := Bool.and_eq_true_iff.mp (show (j == n && rfB (n + 1) ρ) = true from h)
      have hj : j = n := by simpa using h'.1
      cases k with
      | zero =>
        simp [brs] at e
        rw [hj, e]
        exact List.mem_cons_self
      | succ k =>
        have e' : (brs ρ)[k]? = some mo := by simpa [brs] using e
        have q := brs_rf (ρ := ρ) h'.2 e'
        rw [show n + (k + 1) = n + 1 + k by omega]
        exact List.mem_cons_of_mem _ q
theorem Rel.byref0 (R : Rel K cl O bs ρ σ H) (hr : rfB 0 ρ = true) {k : Nat} {b : Addr} {mo : MO} (hb : bs[k]? = some b) (e : (brs ρ)[k]? = some mo) : MoIs K cl (frz H (O ++ adr ρ σ)) H b mo := by
  have q := brs_rf hr e
  rw [Nat.zero_add] at q
  obtain ⟨i, hi, e2⟩ := List.getElem_of_mem q
  obtain ⟨x, h1, a, rfl, h3, h4⟩ := R.sl.get (List.getElem?_eq_some_iff.mpr ⟨hi, e2⟩)
  rw [hb] at h3
  cases h3
  exact h4
theorem run_retNew {r : List MO} (he : New K cl W te ρ ml) (hr : rfB 0 ρ = true) (e : brs ρ = r) (w : Wk ρ ρx) : Runs (S := S) K cl W (tSeq (tRet te) u) ρ (ml >>= fun l => .val (.ro (.lst l) r)) ρn ρl ρx := fun O bs σ H D R hb q => by
  subst e
  refine he O bs σ H _ R (wp_mono (wp_bind.mp q) (fun l ql p vs H' s hp hv hl => ?_) fun _ z => z.xw R w)
  refine ql p H' ⟨fun x o _ h => s _ _ h, fun x hx => ?_⟩ (fun z => ?_) ⟨vs, hv, hl.mono (frz_less fun b hb => ?_)⟩ fun k b m h1 h2 => (R.byref0 hr h1 h2).mono (frz_gone s hp) fun o e => s _ _ e
  · have : x = p := by simpa using hx
    rw [this]; exact .inr hp
  · obtain ⟨o, e⟩ := R.al p z
    rw [hp] at e; cases e
  · rcases List.mem_cons.mp hb with c | c
    · rw [c]; exact List.mem_cons_self
    · exact List.mem_cons_of_mem _ (List.mem_append_left _ c)
theorem Rel.byref (R : Rel K cl O bs ρ σ H) (hr : rfB 0 ρ = true) {k : Nat} {b : Addr} {mo : MO} (hb : bs[k]? = some b) (e : (brs ρ)[k]? = some mo) : MoIs K cl (frz H O) H b mo := by
  have q := brs_rf hr e
  rw [Nat.zero_add] at q
  obtain ⟨i, hi, e2⟩ := List.getElem_of_mem q
  obtain ⟨x, h1, a, rfl, h3, h4⟩ := R.sl.get (List.getElem?_eq_some_iff.mpr ⟨hi, e2⟩)
  rw [hb] at h3
  cases h3
  exact h4.mono (frz_less fun a ha => List.mem_append_left _ ha) fun _ e => e
theorem run_ret {r : List MO} (he : Pur K cl W te ρ m) (hr : rfB 0 ρ = true) (e : brs ρ = r) (w : Wk ρ ρx) : Runs (S := S) K cl W (tSeq (tRet te) u) ρ (m >>= fun x => .val (.rt x r)) ρn ρl ρx := fun O bs σ H D R hb q => by
  subst e
  refine he O bs σ H _ R (wp_mono (wp_bind.mp q) (fun x qx v H' s ix => ?_) fun _ z => z.xw R w)
  exact qx v H' ⟨fun a o _ h => s _ _ h, fun _ z => by cases z⟩ (ix.mono (frz_less fun a ha => List.mem_append_left _ ha)) fun k b mo h1 h2 => (R.same s).byref hr h1 h2
/-- an owned thing is given away -/
theorem run_retO {i : Nat} {mo : MO} {r : List MO} (h : ρ[i]? = some (.ow mo)) (hr : rfB 0 ρ = true) (e : brs ρ = r) : Runs (S := S) K cl W (tSeq (tRet (tVar i)) u) ρ (.val (.ro mo r)) ρn ρl ρx := fun O bs σ H D R hb q => by
  subst e
  obtain ⟨x, e, a, rfl, hm⟩ := R.sl.get h
  have ma : a ∈ adr ρ σ := R.mem_adr h e
  refine ⟨_, e, q a H ⟨fun _ _ _ h => h, fun x hx => ?_⟩ (R.ow a (R.mem_owa h e)) (hm.mono (frz_less fun b hb => ?_) fun _ e => e) fun k b m h1 h2 => (R.byref0 hr h1 h2).mono (frz_less fun b hb => ?_) fun _ e => e⟩
  · have : x = a := by simpa using hx
    rw [this]; exact .inl ma
  · rcases List.mem_cons.mp hb with c | c
    · rw [c]; exact List.mem_append_right _ ma
    · exact List.mem_append_left _ c
  · rcases List.mem_cons.mp hb with c | c
    · rw [c]; exact List.mem_append_right _ ma
    · exact List.mem_append_left _ c
theorem run_retN {r : List MO} (hr : rfB 0 ρ = true) (e : brs ρ = r) : Runs (S := S) K cl W (tSeq tRetN u) ρ (.val (.rt .non r)) ρn ρl ρx := fun O bs σ H D R hb q => by
  subst e
  exact q .non H ⟨fun a o _ h => h, fun _ z => by cases z⟩ .non fun k b mo h1 h2 => R.byref hr h1 h2
theorem run_if {c : TT} {mc : Res Bool} {M1 M2 : Res (Fl S L)} (hc : Tst K cl W c ρ mc) (w : Wk ρ ρx) (h1 : Runs K cl W (tSeq t u) ρ M1 ρn ρl ρx) (h2 : Runs K cl W (tSeq v u) ρ M2 ρn ρl ρx) : Runs K cl W (tSeq (tIfS c t v) u) ρ (mc >>= fun b => if b = true then M1 else M2) ρn ρl ρx := fun O bs σ H D R hb q => by
  refine hc O bs σ H _ R (wp_mono (wp_bind.mp q) (fun b qb H' s => ?_) fun _ z => z.xw R w)
  have g := Gr.of (A := adr ρ σ) s
  cases b with
  | true => exact h1 O bs σ H' D (R.same s) hb (wp_mono qb (fun _ z => z.step g) fun _ z => z.step g)
  | false => exact h2 O bs σ H' D (R.same s) hb (wp_mono qb (fun _ z => z.step g) fun _ z => z.step g)
def seqF (M : Res (Fl S1 L)) (n : S1 → Res (Fl S L)) : Res (Fl S L) := M >>= fun f => match f with
  | .nx s => n s
  | .rt v r => .val (.rt v r)
  | .ro mo r => .val (.ro mo r)
  | .bk l => .val (.bk l)
  | .ct l => .val (.ct l)
/-- one statement as it stands, then the rest -/
theorem run_seq {M : Res (Fl S1 L)} {n : S1 → Res (Fl S L)} (h1 : Runs K cl W t ρ M ρj ρl ρx) (h2 : ∀ s, Runs K cl W u (ρj s) (n s) ρn ρl ρx) : Runs K cl W (tSeq t u) ρ (seqF M n) ρn ρl ρx := fun O bs σ H D R hb q => by
  refine h1 O bs σ H { D with nx := u D } R hb (wp_mono (wp_bind.mp q) (fun f qf => ?_) fun _ z => z)
  cases f with
  | nx s => exact fun σ' H' g R' => h2 s O bs σ' H' D R' hb (wp_mono qf (fun _ z => z.step g) fun _ z => z.step g)
  | rt v r => exact qf
  | ro mo r => exact qf
  | bk l => exact qf
  | ct l => exact qf
/-! owned lists and dicts, changed -/
theorem adr_at : ∀ {ρ : Ro} {σ : St} {i : Nat} {s : Slot} {a : Addr}, ρ[i]? = some s → σ[i]? = some (some (.ref a)) → (∃ mo, s = .ow mo) ∨ (∃ k mo, s = .rf k mo) → a ∈ adr ρ σ
  | [], σ, i, s, a, h, _, _ => by simp at h
  | s0 :: ρ, [], i, s, a, h, e, _ => by simp at e
  | s0 :: ρ, x :: σ, 0, s, a, h, e, z => by
    simp at h e
    subst h; subst e
    rcases z with ⟨mo, rfl⟩ | ⟨k, mo, rfl⟩ <;> exact List.mem_cons_self
  | s0 :: ρ, x :: σ, i + 1, s, a, h, e, z => adr_cons (adr_at (ρ := ρ) (σ := σ) (i := i) (by simpa using h) (by simpa using e) z)
def reSl (s : Slot) (m' : MO) : Slot := match s with
  | .ow _ => .ow m'
  | .rf k _ => .rf k m'
  | s => s
theorem adr_re : ∀ {ρ : Ro} {σ : St} {i : Nat} {s : Slot} {m' : MO}, ρ[i]? = some s → adr (ρ.set i (reSl s m')) σ = adr ρ σ ∧ owa (ρ.set i (reSl s m')) σ = owa ρ σ
  | [], σ, i, s, m', h => by simp at h
  | s0 :: ρ, [], i, s, m', h => by
    cases i with
    | zero => simp at h; subst h; cases s0 <;> exact ⟨rfl, rfl⟩
    | succ i => cases s0 <;> exact ⟨rfl, rfl⟩
  | s0 :: ρ, x :: σ, 0, s, m', h => by
    simp at h; subst h
    cases s0 with
    | un => exact ⟨rfl, rfl⟩
    | fz p => exact ⟨rfl, rfl⟩
    | ow m => cases x with
      | none => exact ⟨rfl, rfl⟩
      | some v => cases v <;> exact ⟨rfl, rfl⟩
    | rf k m => cases x with
      | none => exact ⟨rfl, rfl⟩
      | some v => cases v <;> exact ⟨rfl, rfl⟩
  | s0 :: ρ, x :: σ, i + 1, s, m', h => by
    have ih := adr_re (ρ := ρ) (σ := σ) (i := i) (m' := m') (s := s) (by simpa using h)
    show adr (s0 :: ρ.set i (reSl s m')) (x :: σ) = adr (s0 :: ρ) (x :: σ) ∧ owa (s0 :: ρ.set i (reSl s m')) (x :: σ) = owa (s0 :: ρ) (x :: σ)
    cases s0 with
    | un => exact ih
    | fz p => exact ih
    | ow m => cases x with
      | none => exact ih
      | some v => cases v <;> first | exact ih | exact ⟨congrArg (_ :: ·) ih.1, congrArg (_ :: ·) ih.2⟩
    | rf k m => cases x with
      | none => exact ih
      | some v => cases v <;> first | exact ih | exact ⟨congrArg (_ :: ·) ih.1, ih.2⟩
theorem nodup_at : ∀ {ρ : Ro} {σ : St} {i j : Nat} {s s' : Slot} {a : Addr}, (adr ρ σ).Nodup → ρ[i]? = some s → ρ[j]? = some s' → σ[i]? = some (some (.ref a)) → σ[j]? = some (some (.ref a)) → (∃ mo, s = .ow mo) ∨ (∃ k mo, s = .rf k mo) → (∃ mo, s' = .ow mo) ∨ (∃ k mo, s' = .rf k mo) → i = j
  | [], σ, i, j, s, s', a, _, h, _, _, _, _, _ => by simp at h
  | s0 :: ρ, [], i, j, s, s', a, _, _, _, e, _, _, _ => by simp at e
  | s0 :: ρ, x :: σ, 0, 0, s, s', a, _, _, _, _, _, _, _ => rfl
  | s0 :: ρ, x :: σ, 0, j + 1, s, s', a, nd, h, h', e, e', z, z' => by
    simp at h e
    subst h; subst e
    have q := adr_at (ρ := ρ) (σ := σ) (i := j) (by simpa using h') (by simpa using e') z'
    rcases z with ⟨mo, rfl⟩ | ⟨k, mo, rfl⟩ <;> exact absurd q (List.nodup_cons.mp nd).1
  | s0 :: ρ, x :: σ, i + 1, 0, s, s', a, nd, h, h', e, e', z, z' => by
    simp at h' e'
    subst h'; subst e'
    have q := adr_at (ρ := ρ) (σ := σ) (i := i) (by simpa using h) (by simpa using e) z
    rcases z' with ⟨mo, rfl⟩ | ⟨k, mo, rfl⟩ <;> exact absurd q (List.nodup_cons.mp nd).1
  | s0 :: ρ, x :: σ, i + 1, j + 1, s, s', a, nd, h, h', e, e', z, z' => by
    refine congrArg (· + 1) (nodup_at (ρ := ρ) (σ := σ) ?_ (by simpa using h) (by simpa using h') (by simpa using e) (by simpa using e') z z')
    cases s0 with
    | un => exact nd
    | fz p => exact nd
    | ow m => cases x with
      | none => exact nd
      | some v => cases v <;> first | exact nd | exact (List.nodup_cons.mp nd).2
    | rf k m => cases x with
      | none => exact nd
      | some v => cases v <;> first | exact nd | exact (List.nodup_cons.mp nd).2
/-- the object at a slot gets another content -/
theorem Rel.putH (R : Rel K cl O bs ρ σ H) {i : Nat} {s : Slot} {mo m' : MO} {a : Addr} {H2 : Hp} (hk : ∀ x o, x ≠ a → H x = some o → H2 x = some o) (hg : ∃ o, H2 a = some o) (hi : ρ[i]? = some s) (hs : s = .ow mo ∨ ∃ k, s = .rf k mo) (ha : σ[i]? = some (some (.ref a)))
    (h : MoIs K cl (frz H2 (O ++ adr ρ σ)) H2 a m') : Rel K cl O bs (ρ.set i (reSl s m')) σ H2 ∧ Gr (adr ρ σ) H (adr (ρ.set i (reSl s m')) σ) H2 := by
  have hz : (∃ mo, s = .ow mo) ∨ (∃ k mo, s = .rf k mo) := hs.imp (fun e => ⟨_, e⟩) fun ⟨k, e⟩ => ⟨k, _, e⟩
  have ma := adr_at hi ha hz
  obtain ⟨e1, e2⟩ := adr_re (σ := σ) (m' := m') hi
  have keep : ∀ x u, x ∉ adr ρ σ → H x = some u → H2 x = some u := fun x u n e => hk x u (fun z => n (by rw [z]; exact ma)) e
  have sF : Sub (frz H (O ++ adr ρ σ)) (frz H2 (O ++ adr ρ σ)) := fun x u e => by
    obtain ⟨n, e⟩ := frz_some.mp e
    exact frz_some.mpr ⟨n, keep x u (fun z => n (List.mem_append_right _ z)) e⟩
  refine ⟨⟨?_, by rw [e1]; exact R.nd, fun b hb => ?_, by rw [e2]; exact R.ow⟩, by rw [e1]; exact ⟨keep, fun x hx => .inl hx⟩⟩
  · rw [e1]
    -- each slot: i has the new content, the others stand
    have go : ∀ (ρ0 : Ro) (σ0 : St) (i0 : Nat), RelS K cl bs (frz H (O ++ adr ρ σ)) H ρ0 σ0 → (∀ j, ρ0[j]? = ρ[i0 + j]? ∧ σ0[j]? = σ[i0 + j]?) → i0 ≤ i → RelS K cl bs (frz H2 (O ++ adr ρ σ)) H2 (ρ0.set (i - i0) (reSl s m')) σ0 := by
      intro ρ0
      induction ρ0 with
      | nil => intro σ0 i0 r _ _; cases r; exact .nil
      | cons s0 ρ0 ih =>
        intro σ0 i0 r hj hle
        cases r with
        | @cons _ x _ σ0 b r =>
          by_cases c : i0 = i
          · subst c
            rw [Nat.sub_self]
            have h0 := hj 0
            rw [Nat.add_zero, hi, ha] at h0
            simp at h0
            obtain ⟨rfl, rfl⟩ := h0
            refine .cons ?_ ?_
            · rcases hs with rfl | ⟨k, rfl⟩
              · exact ⟨a, rfl, h⟩
              · obtain ⟨a', e, hk, _⟩ := b
                cases e
                exact ⟨a, rfl, hk, h⟩
            · -- the rest of the slots have other addresses
              have far : ∀ (ρ1 : Ro) (σ1 : St) (j0 : Nat), RelS K cl bs (frz H (O ++ adr ρ σ)) H ρ1 σ1 → (∀ j, ρ1[j]? = ρ[j0 + j]? ∧ σ1[j]? = σ[j0 + j]?) → i0 < j0 → RelS K cl bs (frz H2 (O ++ adr ρ σ)) H2 ρ1 σ1 := by
                intro ρ1
                induction ρ1 with
                | nil => intro σ1 j0 r _ _; cases r; exact .nil
                | cons s1 ρ1 ih1 =>
                  intro σ1 j0 r hj1 hlt
                  cases r with
                  | @cons _ x1 _ σ1 b1 r1 =>
                    refine .cons (b1.mono sF fun a1 o1 z1 e1 => ?_) (ih1 σ1 (j0 + 1) r1 (fun j => ?_) (by omega))
                    · have h1 := hj1 0
                      rw [Nat.add_zero] at h1
                      simp at h1
                      refine hk _ _ (fun z => ?_) e1
                      · subst z
                        have hz1 : (∃ mo, s1 = .ow mo) ∨ (∃ k mo, s1 = .rf k mo) := by
                          obtain ⟨_, n1, n2⟩ := z1
                          cases s1 with
                          | un => exact absurd rfl n1
                          | fz p => exact absurd rfl (n2 p)
                          | ow m => exact .inl ⟨m, rfl⟩
                          | rf k m => exact .inr ⟨k, m, rfl⟩
                        have := nodup_at R.nd hi h1.1.symm ha (by rw [← h1.2, z1.1]) hz hz1
                        omega
                    · have := hj1 (j + 1)
                      rw [show j0 + 1 + j = j0 + (j + 1) by omega]
                      simpa using this
              refine far ρ0 σ0 (i0 + 1) r (fun j => ?_) (by omega)
              have := hj (j + 1)
              rw [show i0 + 1 + j = i0 + (j + 1) by omega]
              simpa using this
          · rw [show i - i0 = (i - (i0 + 1)) + 1 by omega]
            refine .cons (b.mono sF fun a1 o1 z1 e1 => ?_) (ih σ0 (i0 + 1) r (fun j => ?_) (by omega))
            · have h1 := hj 0
              rw [Nat.add_zero] at h1
              simp at h1
              refine hk _ _ (fun z => ?_) e1
              · subst z
                have hz1 : (∃ mo, s0 = .ow mo) ∨ (∃ k mo, s0 = .rf k mo) := by
                  obtain ⟨_, n1, n2⟩ := z1
                  cases s0 with
                  | un => exact absurd rfl n1
                  | fz p => exact absurd rfl (n2 p)
                  | ow m => exact .inl ⟨m, rfl⟩
                  | rf k m => exact .inr ⟨k, m, rfl⟩
                exact c (nodup_at R.nd hi h1.1.symm ha (by rw [← h1.2, z1.1]) hz hz1).symm
            · have := hj (j + 1)
              rw [show i0 + 1 + j = i0 + (j + 1) by omega]
              simpa using this
    have := go ρ σ 0 R.sl (fun j => by rw [Nat.zero_add]; exact ⟨rfl, rfl⟩) (Nat.zero_le _)
    rwa [Nat.sub_zero] at this
  · obtain ⟨u, e⟩ := R.al b hb
    by_cases c : b = a
    · rw [c]; exact hg
    · exact ⟨u, hk _ _ c e⟩
theorem Rel.put (R : Rel K cl O bs ρ σ H) {i : Nat} {s : Slot} {mo m' : MO} {a : Addr} {o : HO} (hi : ρ[i]? = some s) (hs : s = .ow mo ∨ ∃ k, s = .rf k mo) (ha : σ[i]? = some (some (.ref a)))
    (h : MoIs K cl (frz H (O ++ adr ρ σ)) (upd H a o) a m') : Rel K cl O bs (ρ.set i (reSl s m')) σ (upd H a o) ∧ Gr (adr ρ σ) H (adr (ρ.set i (reSl s m')) σ) (upd H a o) := by
  have ma := adr_at hi ha (hs.imp (fun e => ⟨_, e⟩) fun ⟨k, e⟩ => ⟨k, _, e⟩)
  refine R.putH (fun x u n e => by rw [upd_ne n]; exact e) ⟨o, upd_same⟩ hi hs ha (h.mono (fun x u e => ?_) fun _ e => e)
  obtain ⟨n, e⟩ := frz_some.mp e
  exact frz_some.mpr ⟨n, by rw [upd_ne fun z => n (List.mem_append_right _ (by rw [z]; exact ma))]; exact e⟩
end
/-! ### targets, loops, comprehensions -/
section
variable (K : PySem.W.Frag) (cl : Str → Option Addr)
def TgtE (g : TG) (vs : List Nat) (ρ : Ro) {α : Type} (d : PV → Res α) (ρe : α → Ro) : Prop := ∀ (x : PV) (O bs : List Addr) (σ : St) (H : Hp) (v : V) (Q : St → Hp → Prop) (E : Str → Prop), Rel K cl O bs ρ (wipe σ vs) H → Is K cl (frz H (O ++ adr ρ (wipe σ vs))) v x →
  wp (d x) (fun a => ∀ σ2, Rel K cl O bs (ρe a) σ2 H → adr (ρe a) σ2 = adr ρ (wipe σ vs) → (vs ≠ [] → wipe σ2 vs = wipe σ vs) → Q σ2 H) E → g v (wipe σ vs) H Q
/-- what an iterator yields -/
def ItOk (P : Hp → Prop) (F : Hp) (J : It) (ps : List PV) : Prop := ∀ (H : Hp) (B : List Addr), P H → Sub F (frz H B) → (∀ a, a ∈ B → ∃ o, H a = some o) → J.stop ps.length H ∧
  ∀ i p, ps[i]? = some p → J.go i H ∧ ∀ x H', J.yld i H x H' → Sub H H' ∧ Is K cl (frz H' B) x p
def Iter (W : WX) (wi : TI) (ρ : Ro) (mi : Res (List PV)) : Prop := ∀ (O bs : List Addr) (σ : St) (H : Hp) (R : It → Hp → Prop), Rel K cl O bs ρ σ H →
  wp mi (fun ps => ∀ J H', Sub H H' → ItOk K cl (fun _ => True) (frz H' (O ++ adr ρ σ)) J ps → R J H') (XW cl W σ H) → wi σ H R
def IterV (W : WX) (wi : TI) (ρ : Ro) (mi : Res (List PV)) : Prop := ∀ (O bs : List Addr) (σ : St) (H : Hp) (R : It → Hp → Prop), Rel K cl O bs ρ σ H →
  wp mi (fun ps => ∀ J H', Sub H H' → ItOk K cl (Sub H') (frz H' (O ++ adr ρ σ)) J ps → R J H') (XW cl W σ H) → wi σ H R
end
section
variable {K : PySem.W.Frag} {cl : Str → Option Addr} {W : WX} {bs O A A1 : List Addr} {F H H' H1 : Hp} {ρ ρ' ρx : Ro} {σ : St} {S S1 L : Type} {ρn : S → Ro} {ρj : S1 → Ro} {ρl : L → Ro} {D : Ends} {t u v tb : TS} {te ta tc : TE} {m ma mb : Res PV} {tr : TA} {ml : Res (List PV)} {md : Res (List (Key × PV))}
theorem wipe_get : ∀ {vs : List Nat} {σ : St} {k : Nat}, (wipe σ vs)[k]? = if k ∈ vs then σ[k]?.map (fun _ => none) else σ[k]?
  | [], σ, k => by simp [wipe]
  | v :: vs, σ, k => by
    show ((wipe σ vs).set v none)[k]? = _
    by_cases c : v = k
    · subst c
      rw [List.getElem?_set_self']
      rw [if_pos List.mem_cons_self, wipe_get]
      by_cases d : v ∈ vs
      · rw [if_pos d]
        cases σ[v]? <;> rfl
      · rw [if_neg d]
        cases σ[v]? <;> rfl
    · rw [List.getElem?_set_ne c, wipe_get]
      by_cases d : k ∈ vs
      · rw [if_pos d, if_pos (List.mem_cons_of_mem _ d)]
      · rw [if_neg d, if_neg (fun z => (List.mem_cons.mp z).elim (fun e => c e.symm) d)]
theorem wipe_set {vs : List Nat} {σ τ : St} {i : Nat} {x : Option V} (hi : i ∈ vs) (h : wipe τ vs = wipe σ vs) : wipe (τ.set i x) vs = wipe σ vs := by
  rw [← h]
  refine List.ext_getElem? fun k => ?_
  rw [wipe_get, wipe_get]
  by_cases c : k ∈ vs
  · rw [if_pos c, if_pos c]
    by_cases e : i = k
    · subst e
      rw [List.getElem?_set_self']
      cases τ[i]? <;> rfl
    · rw [List.getElem?_set_ne e]
  · rw [if_neg c, if_neg c, List.getElem?_set_ne fun z => c (by rw [← z]; exact hi)]
theorem wipe_wipe {vs : List Nat} {σ : St} : wipe (wipe σ vs) vs = wipe σ vs := by
  refine List.ext_getElem? fun k => ?_
  rw [wipe_get, wipe_get]
  by_cases c : k ∈ vs
  · rw [if_pos c, if_pos c]
    cases σ[k]? <;> rfl
  · rw [if_neg c, if_neg c]
theorem tg_name {i : Nat} {vs : List Nat} (hn : nad ρ i = true) (hv : vs = [] ∨ i ∈ vs) : TgtE K cl (gName i) vs ρ (fun x => .val x) (fun x => ρ.set i (.fz x)) := fun x O bs σ H v Q E R ix q => by
  refine q _ (R.setfz hn ix) (adr_setn hn) fun ne => ?_
  rcases hv with rfl | hv
  · exact absurd rfl ne
  · exact wipe_set hv wipe_wipe
def un2 : PV → Res (PV × PV)
  | .tup [a, b] => .val (a, b)
  | _ => .stuck
def un3 : PV → Res (PV × PV × PV)
  | .tup [a, b, c] => .val (a, b, c)
  | _ => .stuck
def un4 : PV → Res (PV × PV × PV × PV)
  | .tup [a, b, c, d] => .val (a, b, c, d)
  | _ => .stuck
theorem nad_set : ∀ {ρ : Ro} {i j : Nat} {p : PV}, nad ρ j = true → nad (ρ.set i (.fz p)) j = true
  | [], i, j, p, h => by cases h
  | s :: ρ, 0, 0, p, h => rfl
  | s :: ρ, 0, j + 1, p, h => by cases s <;> exact h
  | s :: ρ, i + 1, 0, p, h => by cases s <;> exact h
  | s :: ρ, i + 1, j + 1, p, h => by
    show nad (s :: ρ.set i (.fz p)) (j + 1) = true
    cases s <;> exact nad_set (ρ := ρ) h
theorem tg_2 {i j : Nat} {vs : List Nat} (hi : nad ρ i = true) (hj : nad ρ j = true) (hv : vs = [] ∨ (i ∈ vs ∧ j ∈ vs)) : TgtE K cl (gTup K 2 (gCons (gName i) (gCons (gName j) gNil))) vs ρ un2 (fun x => (ρ.set i (.fz x.1)).set j (.fz x.2)) := fun x O bs σ H v Q E R ix q => by
  unfold un2 at q
  split at q
  · cases ix with
    | tup h l =>
    cases l with
    | cons a l =>
    cases l with
    | cons b l =>
    cases l
    refine ⟨_, _, rfl, frz_sub.sqT h, rfl, _, _, rfl, _, _, rfl, rfl, ?_⟩
    have R1 := R.setfz hi a
    have e1 := adr_setn (σ := wipe σ vs) (p := ‹PV›) (x := some ‹V›) hi
    refine q _ (Rel.setfz (R.setfz hi a) (nad_set hj) (by rw [adr_setn hi]; exact b)) ?_ fun ne => ?_
    · rw [adr_setn (nad_set hj), adr_setn hi]
    · rcases hv with rfl | ⟨h1, h2⟩
      · exact absurd rfl ne
      · exact wipe_set h2 (wipe_set h1 wipe_wipe)
  · exact q.elim
theorem tg_3 {i j k : Nat} {vs : List Nat} (hi : nad ρ i = true) (hj : nad ρ j = true) (hk : nad ρ k = true) (hv : vs = [] ∨ (i ∈ vs ∧ j ∈ vs ∧ k ∈ vs)) : TgtE K cl (gTup K 3 (gCons (gName i) (gCons (gName j) (gCons (gName k) gNil)))) vs ρ un3 (fun x => ((ρ.set i (.fz x.1)).set j (.fz x.2.1)).set k (.fz x.2.2)) := fun x O bs σ H v Q E R ix q => by
  unfold un3 at q
  split at q
  · cases ix with
    | tup h l =>
    cases l with
    | cons a l =>
    cases l with
    | cons b l =>
    cases l with
    | cons c l =>
    cases l
    refine ⟨_, _, rfl, frz_sub.sqT h, rfl, _, _, rfl, _, _, rfl, _, _, rfl, rfl, ?_⟩
    refine q _ (Rel.setfz (Rel.setfz (R.setfz hi a) (nad_set hj) (by rw [adr_setn hi]; exact b)) (nad_set (nad_set hk)) (by rw [adr_setn (nad_set hj), adr_setn hi]; exact c)) ?_ fun ne => ?_
    · rw [adr_setn (nad_set (nad_set hk)), adr_setn (nad_set hj), adr_setn hi]
    · rcases hv with rfl | ⟨h1, h2, h3⟩
      · exact absurd rfl ne
      · exact wipe_set h3 (wipe_set h2 (wipe_set h1 wipe_wipe))
  · exact q.elim
theorem tg_4 {i j k l' : Nat} {vs : List Nat} (hi : nad ρ i = true) (hj : nad ρ j = true) (hk : nad ρ k = true) (hl : nad ρ l' = true) (hv : vs = [] ∨ (i ∈ vs ∧ j ∈ vs ∧ k ∈ vs ∧ l' ∈ vs)) : TgtE K cl (gTup K 4 (gCons (gName i) (gCons (gName j) (gCons (gName k) (gCons (gName l') gNil))))) vs ρ un4 (fun x => (((ρ.set i (.fz x.1)).set j (.fz x.2.1)).set k (.fz x.2.2.1)).set l' (.fz x.2.2.2)) := fun x O bs σ H v Q E R ix q => by
  unfold un4 at q
  split at q
  · cases ix with
    | tup h l =>
    cases l with
    | cons a l =>
    cases l with
    | cons b l =>
    cases l with
    | cons c l =>
    cases l with
    | cons d l =>
    cases l
    refine ⟨_, _, rfl, frz_sub.sqT h, rfl, _, _, rfl, _, _, rfl, _, _, rfl, _, _, rfl, rfl, ?_⟩
    refine q _ (Rel.setfz (Rel.setfz (Rel.setfz (R.setfz hi a) (nad_set hj) (by rw [adr_setn hi]; exact b)) (nad_set (nad_set hk)) (by rw [adr_setn (nad_set hj), adr_setn hi]; exact c)) (nad_set (nad_set (nad_set hl))) (by rw [adr_setn (nad_set (nad_set hk)), adr_setn (nad_set hj), adr_setn hi]; exact d)) ?_ fun ne => ?_
    · rw [adr_setn (nad_set (nad_set (nad_set hl))), adr_setn (nad_set (nad_set hk)), adr_setn (nad_set hj), adr_setn hi]
    · rcases hv with rfl | ⟨h1, h2, h3, h4⟩
      · exact absurd rfl ne
      · exact wipe_set h4 (wipe_set h3 (wipe_set h2 (wipe_set h1 wipe_wipe)))
  · exact q.elim
/-- x = e, a, b = e -/
theorem run_asg {g : TG} {α : Type} {d : PV → Res α} {ρe : α → Ro} {n : α → Res (Fl S L)} (he : Pur K cl W te ρ m) (hg : TgtE K cl g [] ρ d ρe) (w : Wk ρ ρx) (h : ∀ a, Runs K cl W u (ρe a) (n a) ρn ρl ρx) :
    Runs K cl W (tSeq (tAsg te g) u) ρ (m >>= fun x => d x >>= n) ρn ρl ρx := fun O bs σ H D R hb q => by
  refine he O bs σ H _ R (wp_mono (wp_bind.mp q) (fun x qx v H' s ix => ?_) fun _ z => z.xw R w)
  refine hg x O bs σ H' v _ _ (R.same s) ix (wp_mono (wp_bind.mp qx) (fun a qa σ2 R2 e _ => ?_) fun _ z => z)
  have gr : Gr (adr ρ σ) H (adr (ρe a) σ2) H' := by rw [e]; exact Gr.of s
  exact h a O bs σ2 H' D R2 hb (wp_mono qa (fun _ z => z.step gr) fun _ z => z.step gr)
/-! for -/
def forF {S L : Type} (body : PV → S → Res (Fl S S)) : List PV → S → Res (Fl S L)
  | [], s => .val (.nx s)
  | x :: xs, s => body x s >>= fun f => match f with
    | .nx s' => forF body xs s'
    | .ct s' => forF body xs s'
    | .bk s' => .val (.nx s')
    | .rt v r => .val (.rt v r)
    | .ro mo r => .val (.ro mo r)
theorem run_for {wi : TI} {g : TG} {mi : Res (List PV)} {α : Type} {d : PV → Res α} {ρs : S → Ro} {ρe : S → α → Ro} {s0 : S} {body : α → S → Res (Fl S S)} (hi : Iter K cl W wi ρ mi) (w0 : Wk ρ (ρs s0)) (w : Wk ρ ρx) (hg : ∀ s, TgtE K cl g [] (ρs s) d (ρe s))
    (hb : ∀ a s, Runs K cl W tb (ρe s a) (body a s) ρs ρs ρx) : Runs K cl W (tFor wi g tb) ρ (mi >>= fun ps => forF (fun x s => d x >>= fun a => body a s) ps s0) ρs ρl ρx := fun O bs σ H D R hbs q => by
  refine hi O bs σ H _ R (wp_mono (wp_bind.mp q) (fun ps qp J H1 s1 hJ => ?_) fun _ z => z.xw R w)
  have R1 := R.same s1
  have g1 : Gr (adr ρ σ) H (adr (ρs s0) σ) H1 := (Gr.of s1).trans (Gr.wk w0)
  refine ⟨fun i mm σ' H' => mm = ps.length - i ∧ i ≤ ps.length ∧ ∃ s, Rel K cl O bs (ρs s) σ' H' ∧ Gr (adr ρ σ) H (adr (ρs s) σ') H' ∧ Sub (frz H1 (O ++ adr ρ σ)) (frz H' (O ++ adr (ρs s) σ')) ∧
      wp (forF (L := L) (fun x s => d x >>= fun a => body a s) (ps.drop i) s) (FlOk K cl O bs ρs ρl D (adr ρ σ) H) (ExOk K cl W O bs ρx (adr ρ σ) H),
    ⟨_, rfl, Nat.zero_le _, s0, R1.wk w0, g1, Gr.sub (Gr.wk w0) R1.al, by rw [List.drop_zero]; exact qp⟩, ?_⟩
  rintro i mm σ' H' ⟨rfl, hle, s, R', g', sF, qw⟩
  obtain ⟨hs, hg'⟩ := hJ H' _ trivial sF (fun a ha => R'.got ha)
  by_cases c : i = ps.length
  · subst c
    rw [List.drop_length] at qw
    exact .inl ⟨hs, qw σ' H' g' R'⟩
  · have hlt : i < ps.length := by omega
    obtain ⟨hgo, hy⟩ := hg' i _ (List.getElem?_eq_getElem hlt)
    rw [List.drop_eq_getElem_cons hlt] at qw
    refine .inr ⟨hgo, fun σ2 H2 => ∃ s', Rel K cl O bs (ρs s') σ2 H2 ∧ Gr (adr ρ σ) H (adr (ρs s') σ2) H2 ∧ Sub (frz H1 (O ++ adr ρ σ)) (frz H2 (O ++ adr (ρs s') σ2)) ∧ wp (forF (L := L) (fun x s => d x >>= fun a => body a s) (ps.drop (i + 1)) s') (FlOk K cl O bs ρs ρl D (adr ρ σ) H) (ExOk K cl W O bs ρx (adr ρ σ) H),
      fun σ2 H2 ⟨s', z⟩ => ⟨_, by omega, rfl, by omega, s', z⟩, fun x H2 hyx => ?_⟩
    obtain ⟨s2, ix⟩ := hy x H2 hyx
    have R2 := R'.same s2
    have qw := wp_bind.mp (wp_bind.mp qw)
    refine hg s ps[i] O bs σ' H2 x _ _ R2 ix (wp_mono qw (fun a qa σ3 R3 e3 _ => ?_) fun _ z => z)
    have g3 : Gr (adr ρ σ) H (adr (ρe s a) σ3) H2 := by rw [e3]; exact g'.trans (Gr.of s2)
    have sF3 : Sub (frz H1 (O ++ adr ρ σ)) (frz H2 (O ++ adr (ρe s a) σ3)) := by rw [e3]; exact sF.trans (frz_same s2)
    refine hb a s O bs σ3 H2 _ R3 hbs (wp_mono qa (fun f qf => ?_) fun _ z => z.step g3)
    cases f with
    | nx s' => exact fun σ4 H4 g4 R4 => ⟨s', R4, g3.trans g4, sF3.trans (g4.sub R3.al), qf⟩
    | ct s' => exact fun σ4 H4 g4 R4 => ⟨s', R4, g3.trans g4, sF3.trans (g4.sub R3.al), qf⟩
    | bk s' => exact fun σ4 H4 g4 R4 => qf σ4 H4 (g3.trans g4) R4
    | rt v r => exact FlOk.step (f := Fl.rt v r) qf g3
    | ro mo r => exact FlOk.step (f := Fl.ro mo r) qf g3
/-! while -/
def whileF {S L : Type} (c : S → Res Bool) (body : S → Res (Fl S S)) : Nat → S → Res (Fl S L)
  | 0, _ => .stuck
  | n + 1, s => c s >>= fun b => if b = true then body s >>= fun f => match f with
      | .nx s' => whileF c body n s'
      | .ct s' => whileF c body n s'
      | .bk s' => .val (.nx s')
      | .rt v r => .val (.rt v r)
      | .ro mo r => .val (.ro mo r)
    else .val (.nx s)
theorem run_while {c : TT} {ρs : S → Ro} {s0 : S} {fuel : Nat} {mc : S → Res Bool} {body : S → Res (Fl S S)} (w0 : Wk ρ (ρs s0)) (w : ∀ s, Wk (ρs s) ρx) (hc : ∀ s, Tst K cl W c (ρs s) (mc s))
    (hb : ∀ s, Runs K cl W tb (ρs s) (body s) ρs ρs ρx) : Runs K cl W (tWhile c tb) ρ (whileF mc body fuel s0) ρs ρl ρx := fun O bs σ H D R hbs q => by
  refine ⟨fun mm σ' H' => ∃ s, Rel K cl O bs (ρs s) σ' H' ∧ Gr (adr ρ σ) H (adr (ρs s) σ') H' ∧ wp (whileF (L := L) mc body mm s) (FlOk K cl O bs ρs ρl D (adr ρ σ) H) (ExOk K cl W O bs ρx (adr ρ σ) H),
    ⟨fuel, s0, R.wk w0, Gr.wk w0, q⟩, ?_⟩
  rintro mm σ' H' ⟨s, R', g', qw⟩
  cases mm with
  | zero => exact qw.elim
  | succ mm =>
    refine hc s O bs σ' H' _ R' (wp_mono (wp_bind.mp qw) (fun b qb H2 s2 => ?_) fun _ z => (z.step g').xw R' (w s))
    have R2 := R'.same s2
    have g2 := g'.trans (Gr.of s2)
    cases b with
    | false => exact qb σ' H2 g2 R2
    | true =>
      refine ⟨fun σ2 H2 => ∃ s', Rel K cl O bs (ρs s') σ2 H2 ∧ Gr (adr ρ σ) H (adr (ρs s') σ2) H2 ∧ wp (whileF (L := L) mc body mm s') (FlOk K cl O bs ρs ρl D (adr ρ σ) H) (ExOk K cl W O bs ρx (adr ρ σ) H), fun σ2 H2 z => ⟨mm, Nat.lt_succ_self _, z⟩, ?_⟩
      refine hb s O bs σ' H2 _ R2 hbs (wp_mono (wp_bind.mp qb) (fun f qf => ?_) fun _ z => z.step g2)
      cases f with
      | nx s' => exact fun σ4 H4 g4 R4 => ⟨s', R4, g2.trans g4, qf⟩
      | ct s' => exact fun σ4 H4 g4 R4 => ⟨s', R4, g2.trans g4, qf⟩
      | bk s' => exact fun σ4 H4 g4 R4 => qf σ4 H4 (g2.trans g4) R4
      | rt v r => exact FlOk.step (f := Fl.rt v r) qf g2
      | ro mo r => exact FlOk.step (f := Fl.ro mo r) qf g2
/-! a list comprehension whose parts change nothing -/
def noX {α : Type} : Res α → Res α
  | .val a => .val a
  | _ => .stuck
theorem wp_noX {α : Type} {mm : Res α} {Q : α → Prop} {E E' : Str → Prop} (h : wp (noX mm) Q E) : wp mm Q E' := by
  cases mm with
  | val a => exact h
  | exc c => exact h.elim
  | stuck => exact h.elim
def lcF {α : Type} (d : PV → Res α) (c : α → Res Bool) (e : α → Res PV) : List PV → Res (List PV)
  | [] => .val []
  | x :: xs => noX (d x) >>= fun a => noX (c a) >>= fun b => if b = true then noX (e a) >>= fun y => lcF d c e xs >>= fun ys => .val (y :: ys) else lcF d c e xs
def nads (ρ : Ro) (vs : List Nat) : Bool := vs.all fun i => nad ρ i
theorem adr_setu : ∀ {ρ : Ro} {σ : St} {i : Nat} {x : Option V}, nad ρ i = true → adr ρ (σ.set i x) = adr ρ σ ∧ owa ρ (σ.set i x) = owa ρ σ
  | [], σ, i, x, h => by cases h
  | s :: ρ, [], i, x, h => ⟨rfl, rfl⟩
  | s :: ρ, y :: σ, 0, x, h => by cases s <;> first | exact ⟨rfl, rfl⟩ | cases h
  | s :: ρ, y :: σ, i + 1, x, h => by
    have ih := adr_setu (ρ := ρ) (σ := σ) (i := i) (x := x) (by cases s <;> exact h)
    show adr (s :: ρ) (y :: σ.set i x) = adr (s :: ρ) (y :: σ) ∧ owa (s :: ρ) (y :: σ.set i x) = owa (s :: ρ) (y :: σ)
    cases s with
    | un => exact ih
    | fz q => exact ih
    | ow m => cases y with
      | none => exact ih
      | some v => cases v <;> first | exact ih | exact ⟨congrArg (_ :: ·) ih.1, congrArg (_ :: ·) ih.2⟩
    | rf k m => cases y with
      | none => exact ih
      | some v => cases v <;> first | exact ih | exact ⟨congrArg (_ :: ·) ih.1, ih.2⟩
def wipeR (ρ : Ro) : List Nat → Ro
  | [] => ρ
  | v :: vs => (wipeR ρ vs).set v .un
theorem RelS.setun {F : Hp} (r : RelS K cl bs F H ρ σ) {i : Nat} {x : Option V} : RelS K cl bs F H (ρ.set i .un) (σ.set i x) := r.set trivial
theorem adr_wipe1 : ∀ {ρ : Ro} {σ : St} {i : Nat} {x : Option V}, nad ρ i = true → adr (ρ.set i .un) (σ.set i x) = adr ρ σ ∧ owa (ρ.set i .un) (σ.set i x) = owa ρ σ
  | [], σ, i, x, h => by cases h
  | s :: ρ, [], i, x, h => by
    cases i with
    | zero => cases s <;> exact ⟨rfl, rfl⟩
    | succ i => cases s <;> exact ⟨rfl, rfl⟩
  | s :: ρ, y :: σ, 0, x, h => by cases s <;> first | exact ⟨rfl, rfl⟩ | cases h
  | s :: ρ, y :: σ, i + 1, x, h => by
    have ih := adr_wipe1 (ρ := ρ) (σ := σ) (i := i) (x := x) (by cases s <;> exact h)
    show adr (s :: ρ.set i .un) (y :: σ.set i x) = adr (s :: ρ) (y :: σ) ∧ owa (s :: ρ.set i .un) (y :: σ.set i x) = owa (s :: ρ) (y :: σ)
    cases s with
    | un => exact ih
    | fz q => exact ih
    | ow m => cases y with
      | none => exact ih
      | some v => cases v <;> first | exact ih | exact ⟨congrArg (_ :: ·) ih.1, congrArg (_ :: ·) ih.2⟩
    | rf k m => cases y with
      | none => exact ih
      | some v => cases v <;> first | exact ih | exact ⟨congrArg (_ :: ·) ih.1, ih.2⟩
theorem nad_setu : ∀ {ρ : Ro} {i j : Nat}, nad ρ j = true → nad (ρ.set i .un) j = true
  | [], i, j, h => by cases h
  | s :: ρ, 0, 0, h => rfl
  | s :: ρ, 0, j + 1, h => by cases s <;> exact h
  | s :: ρ, i + 1, 0, h => by cases s <;> exact h
  | s :: ρ, i + 1, j + 1, h => by
    show nad (s :: ρ.set i .un) (j + 1) = true
    cases s <;> exact nad_setu (ρ := ρ) h
theorem nad_wipe {j : Nat} (h : nad ρ j = true) : ∀ vs : List Nat, nad (wipeR ρ vs) j = true
  | [] => h
  | _ :: vs => nad_setu (nad_wipe h vs)
theorem Rel.wipe (R : Rel K cl O bs ρ σ H) : ∀ {vs : List Nat}, nads ρ vs = true → Rel K cl O bs (wipeR ρ vs) (wipe σ vs) H ∧ adr (wipeR ρ vs) (wipe σ vs) = adr ρ σ
  | [], _ => ⟨R, rfl⟩
  | v :: vs, h => by
    have h' := Bool.and_eq_true_iff.mp (show (nad ρ v && nads ρ vs) = true from h)
    obtain ⟨R', e⟩ := R.wipe h'.2
    obtain ⟨e1, e2⟩ := adr_wipe1 (σ := L2.wipe σ vs) (x := none) (nad_wipe h'.1 vs)
    refine ⟨⟨?_, ?_, R'.al, ?_⟩, e1.trans e⟩
    · show RelS K cl bs (frz H (O ++ adr ((wipeR ρ vs).set v .un) ((L2.wipe σ vs).set v none))) H _ _
      rw [e1]
      exact R'.sl.setun
    · show (adr ((wipeR ρ vs).set v .un) ((L2.wipe σ vs).set v none)).Nodup
      rw [e1]; exact R'.nd
    · show ∀ a, a ∈ owa ((wipeR ρ vs).set v .un) ((L2.wipe σ vs).set v none) → a ∉ O
      rw [e2]; exact R'.ow
/-- O may grow by an object that is not owned -/
theorem Rel.wider (R : Rel K cl O bs ρ σ H) {a : Addr} {o : HO} (ha : H a = none) : Rel K cl (a :: O) bs ρ σ (upd H a o) := by
  have nA : ∀ b, b ∈ O ++ adr ρ σ → b ≠ a := fun b hb z => by
    obtain ⟨u, e⟩ := R.got hb
    rw [z, ha] at e; cases e
  refine ⟨R.sl.mono (fun x u e => ?_) fun b u hb e => by rw [upd_ne (nA b (List.mem_append_right _ hb))]; exact e, R.nd, fun b hb => ?_, fun b hb => ?_⟩
  · obtain ⟨n, e⟩ := frz_some.mp e
    have ne : x ≠ a := ne_of_none e ha
    refine frz_some.mpr ⟨fun z => ?_, by rw [upd_ne ne]; exact e⟩
    rcases List.mem_cons.mp (show x ∈ a :: (O ++ adr ρ σ) from z) with c | c
    · exact ne c
    · exact n c
  · rcases List.mem_cons.mp hb with c | c
    · rw [c]; exact ⟨o, upd_same⟩
    · obtain ⟨u, e⟩ := R.al b c
      exact ⟨u, by rw [upd_ne (nA b (List.mem_append_left _ c))]; exact e⟩
  · intro z
    rcases List.mem_cons.mp z with c | c
    · exact nA b (List.mem_append_right _ (owa_sub hb)) c
    · exact R.ow b hb c
/-- an object of O changes -/
theorem Rel.putO (R : Rel K cl O bs ρ σ H) {a : Addr} {o : HO} (ha : a ∈ O) (hn : a ∉ adr ρ σ) : Rel K cl O bs ρ σ (upd H a o) := by
  refine ⟨R.sl.mono (fun x u e => ?_) fun b u hb e => by rw [upd_ne fun z => hn (by rw [← z]; exact hb)]; exact e, R.nd, fun b hb => ?_, R.ow⟩
  · obtain ⟨n, e⟩ := frz_some.mp e
    exact frz_some.mpr ⟨n, by rw [upd_ne fun z => n (by rw [z]; exact List.mem_append_left _ ha)]; exact e⟩
  · by_cases c : b = a
    · rw [c]; exact ⟨o, upd_same⟩
    · obtain ⟨u, e⟩ := R.al b hb
      exact ⟨u, by rw [upd_ne c]; exact e⟩
theorem nw_lc {wi : TI} {g : TG} {tt : TT} {vs : List Nat} {mi : Res (List PV)} {α : Type} {d : PV → Res α} {ρe : α → Ro} {mc : α → Res Bool} {me : α → Res PV} (hi : IterV K cl W wi ρ mi) (hv : nads ρ vs = true) (hne : vs ≠ []) (hg : TgtE K cl g vs (wipeR ρ vs) d ρe)
    (ht : ∀ a, Tst K cl (fun _ _ _ _ => False) tt (ρe a) (mc a)) (he : ∀ a, Pur K cl (fun _ _ _ _ => False) te (ρe a) (me a)) : New K cl W (tLc wi g tt te vs) ρ (mi >>= fun ps => sized ps.length >>= fun _ => lcF d mc me ps) := fun O bs σ H Q R q => by
  refine hi O bs σ H _ R (wp_mono (wp_bind.mp q) (fun ps qp J H1 s1 hJ => ?_) fun _ z => z)
  obtain ⟨hz, qp⟩ := wp_sized (wp_bind.mp qp)
  intro Da hD
  have R1 := R.same s1
  have hD0 : H Da = none := none_back s1 hD
  obtain ⟨Rw, ew⟩ := R1.wipe hv
  have Rw0 := Rw.wider (o := .lst []) hD
  have nDA : Da ∉ O ++ adr ρ σ := fun z => by
    obtain ⟨u, e⟩ := R1.got z
    rw [hD] at e; cases e
  refine ⟨fun i mm H2 => mm = ps.length - i ∧ i ≤ ps.length ∧ Sub H1 H2 ∧ Rel K cl (Da :: O) bs (wipeR ρ vs) (wipe σ vs) H2 ∧ ∃ acc qs, H2 Da = some (.lst acc) ∧ acc.length ≤ i ∧ IsL K cl (frz H2 (Da :: (O ++ adr ρ σ))) acc qs ∧
      wp (lcF d mc me (ps.drop i)) (fun ys => ∀ p ws H', Sub H H' → H p = none → H' p = some (.lst ws) → IsL K cl (frz H' (p :: (O ++ adr ρ σ))) ws (qs ++ ys) → Q (.ref p) H') (XW cl W σ H),
    ⟨_, rfl, Nat.zero_le _, sub_new hD _, Rw0, [], [], upd_same, Nat.le_refl _, .nil, by rw [List.drop_zero]; exact qp⟩, ?_⟩
  rintro i mm H2 ⟨rfl, hle, s2, R2, acc, qs, ha, hal, hl, qw⟩
  have sF : Sub (frz H1 (O ++ adr ρ σ)) (frz H2 (Da :: (O ++ adr ρ σ))) := fun x u e => by
    obtain ⟨n, e⟩ := frz_some.mp e
    refine frz_some.mpr ⟨fun z => ?_, s2 _ _ e⟩
    rcases List.mem_cons.mp z with c | c
    · rw [c, hD] at e; cases e
    · exact n c
  have gotB : ∀ a, a ∈ Da :: (O ++ adr ρ σ) → ∃ o, H2 a = some o := fun a z => R2.got (by rw [ew]; exact z)
  obtain ⟨hs, hgo⟩ := hJ H2 _ s2 sF gotB
  by_cases c : i = ps.length
  · subst c
    rw [List.drop_length] at qw
    have := qw Da acc H2 (s1.trans s2) hD0 ha (by rw [List.append_nil]; exact hl)
    exact .inl ⟨hs, this⟩
  · have hlt : i < ps.length := by omega
    obtain ⟨hgi, hy⟩ := hgo i _ (List.getElem?_eq_getElem hlt)
    rw [List.drop_eq_getElem_cons hlt] at qw
    refine .inr ⟨hgi, fun H3 => Sub H1 H3 ∧ Rel K cl (Da :: O) bs (wipeR ρ vs) (wipe σ vs) H3 ∧ ∃ acc qs, H3 Da = some (.lst acc) ∧ acc.length ≤ i + 1 ∧ IsL K cl (frz H3 (Da :: (O ++ adr ρ σ))) acc qs ∧
      wp (lcF d mc me (ps.drop (i + 1))) (fun ys => ∀ p ws H', Sub H H' → H p = none → H' p = some (.lst ws) → IsL K cl (frz H' (p :: (O ++ adr ρ σ))) ws (qs ++ ys) → Q (.ref p) H') (XW cl W σ H),
      fun H3 z => ⟨_, by omega, rfl, by omega, z⟩, fun x H3 hyx => ?_⟩
    obtain ⟨s3, ix⟩ := hy x H3 hyx
    have R3 := R2.same s3
    have qw := wp_bind.mp qw
    refine hg ps[i] (Da :: O) bs σ H3 x _ _ R3 (by rw [ew]; exact ix) (wp_mono (wp_noX (E' := fun _ => False) qw) (fun a qa σ4 R4 e4 w4 => ?_) fun _ z => z)
    refine ⟨w4 hne, ht a (Da :: O) bs σ4 H3 _ R4 (wp_mono (wp_noX (E' := fun _ => False) (wp_bind.mp qa)) (fun b qb H5 s5 => ?_) fun _ z => z.elim)⟩
    have R5 := R3.same s5
    have ha5 := s5 _ _ (s3 _ _ ha)
    have s25 := s3.trans s5
    cases b with
    | false => exact ⟨s2.trans s25, R5, acc, qs, ha5, by omega, hl.mono (frz_same s25), qb⟩
    | true =>
      refine he a (Da :: O) bs σ4 H5 _ (R4.same s5) (wp_mono (wp_noX (E' := fun _ => False) (wp_bind.mp qb)) (fun y qy vy H6 s6 iy => ?_) fun _ z => z.elim)
      rw [e4, ew] at iy
      have ha6 := s6 _ _ ha5
      have keepD : ∀ x u, x ≠ Da → H6 x = some u → upd H6 Da (.lst (acc ++ [vy])) x = some u := fun x u n e => by rw [upd_ne n]; exact e
      have sD : Sub (frz H6 (Da :: (O ++ adr ρ σ))) (frz (upd H6 Da (.lst (acc ++ [vy]))) (Da :: (O ++ adr ρ σ))) := fun x u e => by
        obtain ⟨n, e⟩ := frz_some.mp e
        exact frz_some.mpr ⟨n, keepD x u (fun z => n (z ▸ List.mem_cons_self)) e⟩
      refine ⟨acc, ha6, by omega, fun x u e => keepD x u (ne_of_none e hD) (s6 _ _ (s25 _ _ (s2 _ _ e))), (R5.same s6).putO List.mem_cons_self (by rw [ew]; exact fun z => nDA (List.mem_append_right _ z)), acc ++ [vy], qs ++ [y], upd_same, by rw [List.length_append, List.length_singleton]; omega, ?_, ?_⟩
      · exact ((hl.mono (frz_same (s25.trans s6))).append (.one iy)).mono sD
      · refine wp_mono (wp_bind.mp qy) (fun ys qys p ws H' h1 h2 h3 h4 => ?_) fun _ z => z
        exact qys p ws H' h1 h2 h3 (by rw [List.append_assoc] at h4; exact h4)
theorem ts_yes : Tst K cl W tYes ρ (.val true) := fun O bs σ H Q R q => q H .refl
end
/-! ### enumerate(tuple), walked -/
section
open PySem.Spec PyProof.Rows
abbrev enO (p : Addr) : Obj := { cls := .type "enumerate", data := .fields #[.none, .bool false, .ref p, rawInt 0, .none, .none] }
set_option maxHeartbeats 1000000 in
theorem meets_enT {v : Value} {ob : Obj} {Hh : Heap → Prop} (B : Begins v ob Hh) :
    Meets (Builtin.«enumerate.__new__» ⟨[.type "enumerate", v], []⟩) (fun _ R st => Hh st.heap ∧ R (.ok (.ret (.ref (st.heap.push ob).objs.size))) { st with heap := (st.heap.push ob).push (enO st.heap.objs.size) }) :=
  .of_wp fun prog w A R st z => by
    obtain ⟨h0, gs, dr, tk, o5⟩ := st
    obtain ⟨z1, z2⟩ := z
    have sub := sub_enumerate
    have q1 : ∀ {A2 : Around} {E2 : Value → Shared → Prop} {Q2 : Value → Shared → Prop}, Q2 (.ref h0.objs.size) ⟨h0.push ob, gs, dr, tk, o5⟩ → wpAny (model prog w) A2 (pyIter v) Q2 E2 ⟨h0, gs, dr, tk, o5⟩ :=
      fun y => B.iter prog w _ _ ⟨h0, gs, dr, tk, o5⟩ _ z1 y
    wp_walk using q1
    refine wpAny_stack_any fun below => wpAny_pure ?_
    split
    · rename_i c _ _ _ _ _
      cases (c == Value.type "enumerate") <;> (wp_walk using q1; exact ⟨_, rfl, z2⟩)
    · wp_walk using q1
      exact ⟨_, rfl, z2⟩
section
variable {prog : Program} {w : World} {A : Around} {E : Value → Shared → Prop} {st : Shared}
theorem call_enT {v : Value} {ob : Obj} {Hh : Heap → Prop} {Q : Value → Shared → Prop} (B : Begins v ob Hh) (z : Hh st.heap)
    (q : ∀ g, IsEnum g (st.heap.objs.size + 1) st.heap.objs.size 0 .none → g.get? st.heap.objs.size = some ob → (∀ b o, st.heap.get? b = some o → g.get? b = some o) → Q (.ref (st.heap.objs.size + 1)) { st with heap := g }) :
    wpAny (model prog w) A (call (.type "enumerate") [v]) Q E st := by
  refine callType_new F.called_enumerate (by decide) (F.typeCall_enumerate_1 _) (F.newCall_enumerate_1 _) (fun ob2 => F.args_object_init_2 ob2 _) F.entry_enumerate_new (meets_enT B) ⟨z, ?_⟩
  have sz : (st.heap.push ob).objs.size = st.heap.objs.size + 1 := Heap.size_push ..
  show _ ∧ _
  rw [sz]
  have en : IsEnum ((st.heap.push ob).push (enO st.heap.objs.size)) (st.heap.objs.size + 1) st.heap.objs.size 0 .none := by
    have y := Heap.get?_push_size (st.heap.push ob) (o := enO st.heap.objs.size) rfl
    rw [sz] at y
    exact y
  exact ⟨⟨_, en, rfl⟩, q _ en (Heap.get?_push_of_some _ (Heap.get?_push_size _ B.free)) fun b o y => Heap.get?_push_of_some _ (Heap.get?_push_of_some _ y)⟩
end
/-- the tuple at a as it stands, each item in a new pair -/
def IteT (K : PySem.W.Frag) (a : Addr) : It :=
  ⟨fun i H => ∃ (ys : List V) (y : V), SqT K H a ys ∧ ys[i]? = some y, fun i H v H2 => ∃ T y, v = .ref T ∧ H T = none ∧ H2 = upd H T (.tup [.int (i : Nat), y]) ∧ ∀ ys, SqT K H a ys → ys[i]? = some y, fun i H => ∃ ys : List V, SqT K H a ys ∧ ys.length = i⟩
theorem turn_enT {P : Program} {w : World} {K : PySem.W.Frag} {elts : List Expr} {kk : Nat} {tpos : Pos} (a e it : Addr) :
    Turn P w K (.Tuple elts kk tpos) (IteT K a) [e, it] e (fun i g => (∃ old, IsEnum g e it ((i : Nat) : Int) old) ∧ g.IsTupleIter it a i ∧ e ≠ it ∧ a ≠ it ∧ a ≠ e) where
  mem := by simp
  obj := fun i g z b hb => by
    obtain ⟨⟨old, en⟩, ⟨o, o1, o2, o3⟩, _⟩ := z
    rcases (show b = e ∨ b = it by simpa using hb) with y | y
    · subst y
      exact ⟨_, en, fun v q => nomatch q⟩
    · subst y
      exact ⟨o, o1, fun v q => by rw [o3] at q; cases q⟩
  keep := fun i g g2 z k => let ⟨⟨old, en⟩, ti, n1, n2, n3⟩ := z; ⟨⟨old, k e (by simp) _ en⟩, ti.at fun o q => k it (by simp) o q, n1, n2, n3⟩
  item := by
    intro X eP ew eK hc i pins s σ H E I hf z hg
    subst eP ew eK
    obtain ⟨⟨old, en⟩, ti, n1, n2, n3⟩ := z
    obtain ⟨ys, y, hq, hy⟩ := hg
    obtain ⟨its, rv, p, _⟩ := I.tuple hq
    obtain ⟨u, hu, ru⟩ := rv.get hy
    have le : e < s.heap.objs.size := Heap.lt_size en
    have li : it < s.heap.objs.size := by
      obtain ⟨_, q, _⟩ := ti
      exact Heap.lt_size q
    have D := Draws.tuple (prog := X.prog) (w := X.w) (A := X.A.in1) (show X.A.in1.handled = none from I.ok.hd hc) it a n2 its.toArray
    refine wpAny_pyNext_enum_itemD D en ⟨ti, show s.heap.IsTuple a its.toArray from p⟩ (by rw [List.size_toArray]; exact (List.getElem?_eq_some_iff.mp hu).1) n1 (by simp [n1, n3.symm]) fun x g tk hx eo dt hT _ hk => ?_
    have ex : x = u := by
      have q1 : its[i]? = some x := by simpa using hx
      rw [hu] at q1
      exact (Option.some.inj q1).symm
    subst ex
    refine ⟨_, rfl, wpAny_letOwnedTupleGo_enum (s := { s with heap := g, toks := tk + 1 }) eo fun g2 en2 sb => ?_⟩
    have hT2 : g2.get? s.heap.objs.size = some { cls := .type "tuple", data := .seq #[.int i tk, x] } := (sb.2 _ (Nat.ne_of_gt le)).trans hT
    have new : ObjOk X.prog X.w (upd H s.heap.objs.size (.tup [.int (i : Nat), y])) g2 s.heap.objs.size (.tup [.int (i : Nat), y]) :=
      ⟨by show 2 ≤ sizeLine; decide, [.int i tk, x], .cons ⟨_, rfl⟩ (.cons ru .nil), ⟨_, hT2, rfl, _, rfl⟩⟩
    have I1 : Inv X pins σ (upd H s.heap.objs.size (.tup [.int (i : Nat), y])) { s with heap := g2, toks := tk + 1 } :=
      I.turnedNew (ch := [e, it]) (fun b ob nb q => (sb.2 b fun z => nb (by simp [z])).trans (hk b ob (fun z => nb (by simp [z])) (fun z => nb (by simp [z])) q)) hf (Nat.le_refl _) new
    refine ⟨.ref s.heap.objs.size, _, I1, rfl, ⟨_, y, rfl, I.hok.fresh (Nat.le_refl _), rfl, fun zs hz => by rw [I.tuple_inj hz hq]; exact hy⟩, ⟨⟨x, ?_⟩, dt.1.at fun o q => (sb.2 it (Ne.symm n1)).trans q, n1, n2, n3⟩, fun b hb => ?_⟩
    · rw [show ((i + 1 : Nat) : Int) = (i : Int) + 1 by omega]
      exact en2
    · have lb : b < s.heap.objs.size := by
        rcases (show b = e ∨ b = it by simpa using hb) with y | y
        · rw [y]; exact le
        · rw [y]; exact li
      rw [upd_ne (Nat.ne_of_lt lb)]
      exact (hf b hb).1
  done := by
    intro X eP ew eK hc i pins s σ H E I hf z hg
    subst eP ew eK
    obtain ⟨⟨old, en⟩, ti, n1, n2, n3⟩ := z
    obtain ⟨ys, hq, hy⟩ := hg
    obtain ⟨its, rv, p, _⟩ := I.tuple hq
    obtain ⟨f0, f1, f2, f3, f4, f5⟩ := hf it (by simp)
    have D := Draws.tuple (prog := X.prog) (w := X.w) (A := X.A.in1) (show X.A.in1.handled = none from I.ok.hd hc) it a n2 its.toArray
    have hn : its.toArray.size = i := by
      rw [List.size_toArray, ← rv.length]
      exact hy
    exact wpAny_pyNext_enum_endD D en ⟨by rw [hn]; exact ti, show s.heap.IsTuple a its.toArray from p⟩ fun g eb => ⟨rfl, I.turned (t' := s.toks) (fun b o nb q => eb b o nb q) f0 f1 f3 f4 f5⟩
  self := fun A i s Q E z h => let ⟨⟨_, en⟩, _⟩ := z; wpAny_pyIter_enum en h
def iEnT (K : PySem.W.Frag) (ta : TA) : TI := fun σ H R => ta σ H fun vs H1 => ∃ a ys, vs = [.ref a] ∧ SqT K H1 a ys ∧ R (IteT K a) H1
theorem pi_enT {X : Cx} {e : Expr} {ta : TA} {p pos tpos : Pos} {elts : List Expr} {kk : Nat} (hg : Gl X "enumerate") (hm : X.mg "enumerate" = none) (ha : PA X [e] ta) (hs : starEach [e] X.env = [(false, eval e X.env)] := by rfl) :
    PI X (.Tuple elts kk tpos) (.Call (.Name "enumerate" p) [e] [] pos) (iEnT X.K ta) := by
  refine ⟨fun pins s σ H R I h => ?_⟩
  refine Call_ (ld_blt I hg hm boot_enumerate (PyProof.Rows.callWith_type1 (thn (ha.run pos pins s σ H _ I h) fun us s1 ⟨vs, H1, I1, r1, a, ys, ex, hq, q⟩ => ?_) hs rfl))
  subst ex
  obtain ⟨u, eu, ru⟩ := vals1 r1
  subst eu
  cases ru
  obtain ⟨its, rv, p2, _⟩ := I1.tuple hq
  have lt : a < s1.heap.objs.size := by
    obtain ⟨o, o1, _⟩ := (show s1.heap.IsTuple a its.toArray from p2)
    exact Heap.lt_size o1
  refine call_enT (begins_tuple a its.toArray) (show s1.heap.IsTuple a its.toArray from p2) fun g en hi hk => wpAny_pyIter_enum en ?_
  have I2 : Inv X pins σ H1 { s1 with heap := g } := I1.kept (t' := s1.toks) hk
  refine ⟨s1.heap.objs.size + 1, [s1.heap.objs.size + 1, s1.heap.objs.size], _, _, H1, rfl, I2, turn_enT a (s1.heap.objs.size + 1) s1.heap.objs.size, ⟨⟨.none, en⟩, ⟨_, hi, rfl, rfl⟩, Nat.succ_ne_self _, Nat.ne_of_lt lt, Nat.ne_of_lt (Nat.lt_succ_of_lt lt)⟩, fun b hb => ?_, q⟩
  have le : s1.heap.objs.size ≤ b := by
    rcases (show b = s1.heap.objs.size + 1 ∨ b = s1.heap.objs.size by simpa using hb) with z | z
    · rw [z]
      exact Nat.le_succ _
    · rw [z]
      exact Nat.le_refl _
  exact I1.fpOk le (I1.hok.fresh le)
theorem walk_enT {K : PySem.W.Frag} {a : Addr} {ys : List V} : Walk (IteT K a) ys.length (fun H => SqT K H a ys) (YPair (fun i => some (.int (i : Nat))) (fun i => ys[i]?)) := by
  refine ⟨fun i _ hi q => ⟨ys, ys[i], q, by simp [hi]⟩, fun _ q => ⟨ys, q, rfl⟩, fun i H v H2 _ q z => ?_⟩
  obtain ⟨T, y, h1, h2, h3, h4⟩ := z
  exact ⟨T, .int (i : Nat), y, h1, h2, h3, rfl, h4 ys q⟩
end
/-! ### iterators -/
def iSeqV (K : PySem.W.Frag) (tl : TE) : TI := fun σ H R => iList K tl σ H R ∨ iTup K tl σ H R
theorem pi_or {X : Cx} {tg e : Expr} {w1 w2 : TI} (h1 : PI X tg e w1) (h2 : PI X tg e w2) : PI X tg e (fun σ H R => w1 σ H R ∨ w2 σ H R) := ⟨fun pins s σ H R I h => h.elim (h1.run pins s σ H R I) (h2.run pins s σ H R I)⟩
theorem pi_seqV (K : PySem.W.Frag) {X : Cx} {tg l : Expr} {tl : TE} (e : X.K = K) (hl : PE X l tl) : PI X tg l (iSeqV K tl) := by
  subst e
  exact pi_or (pi_list hl) (pi_tup hl)
section
variable {K : PySem.W.Frag} {cl : Str → Option Addr} {W : WX} {bs O A A1 B : List Addr} {F H H' H1 : Hp} {ρ ρ' ρx : Ro} {σ : St} {S S1 L : Type} {ρn : S → Ro} {ρj : S1 → Ro} {ρl : L → Ro} {D : Ends} {t u v tb : TS} {te ta tc : TE} {m ma mb : Res PV} {tr : TA} {ml : Res (List PV)} {md : Res (List (Key × PV))} {P : Hp → Prop}
theorem sqL_det {a : Addr} {xs ys : List V} (h : F a = some (.lst xs)) (q : SqL K F a ys) (s : ∀ o, K.lookup a = some o → False) : xs = ys := by
  rcases q with (q | ⟨o, q⟩) | ⟨o, _, _, q, _⟩
  · rw [h] at q; cases q; rfl
  · rw [h] at q; cases q
  · exact (s o q).elim
theorem Iter.view {wi : TI} {mi : Res (List PV)} (h : Iter K cl W wi ρ mi) : IterV K cl W wi ρ mi := fun O bs σ H R r q => h O bs σ H R r (wp_mono q (fun ps k J H' s i => k J H' s fun H2 B _ sF hB => i H2 B trivial sF hB) fun _ z => z)
theorem itOk_list {a : Addr} {vs : List V} {ps : List PV} (hP : ∀ H, P H → Sub F H → SqL K H a vs) (hl : IsL K cl F vs ps) : ItOk K cl (fun H => P H ∧ Sub F H) F (Itl K a) ps := fun H B hp sF hB => by
  have hs := hP H hp.1 hp.2
  refine ⟨⟨vs, hs, by rw [hl.len]; exact Nat.le_refl _⟩, fun i p hi => ?_⟩
  obtain ⟨v, hv, iv⟩ := hl.get hi
  refine ⟨⟨vs, v, hs, hv⟩, fun x H' hy => ?_⟩
  obtain ⟨rfl, hx⟩ := hy
  have := hx vs hs
  rw [hv] at this
  cases this
  exact ⟨.refl, iv.mono sF⟩
theorem itOk_tup {a : Addr} {vs : List V} {ps : List PV} (hP : ∀ H, P H → Sub F H → SqT K H a vs) (hl : IsL K cl F vs ps) : ItOk K cl (fun H => P H ∧ Sub F H) F (Itt K a) ps := fun H B hp sF hB => by
  have hs := hP H hp.1 hp.2
  refine ⟨⟨vs, hs, by rw [hl.len]; exact Nat.le_refl _⟩, fun i p hi => ?_⟩
  obtain ⟨v, hv, iv⟩ := hl.get hi
  refine ⟨⟨vs, v, hs, hv⟩, fun x H' hy => ?_⟩
  obtain ⟨rfl, hx⟩ := hy
  have := hx vs hs
  rw [hv] at this
  cases this
  exact ⟨.refl, iv.mono sF⟩
theorem ItOk.of {P' : Hp → Prop} {J : It} {ps : List PV} (h : ItOk K cl P F J ps) (g : ∀ H B, P' H → Sub F (frz H B) → P H) : ItOk K cl P' F J ps := fun H B hp sF hB => h H B (g H B hp sF) sF hB
theorem it_seq (he : Pur K cl W te ρ m) : Iter K cl W (iSeqV K te) ρ (m >>= asSq) := fun O bs σ H R r q => by
  have key : ∀ (v : V) (H' : Hp) (x : PV), Sub H H' → Is K cl (frz H' (O ++ adr ρ σ)) v x → wp (asSq x) (fun ps => ∀ J H', Sub H H' → ItOk K cl (fun _ => True) (frz H' (O ++ adr ρ σ)) J ps → R J H') (XW cl W σ H) →
      (∃ a vs, v = .ref a ∧ SqL K H' a vs ∧ R (Itl K a) H') ∨ (∃ a vs, v = .ref a ∧ SqT K H' a vs ∧ R (Itt K a) H') := fun v H' x s i w => by
    cases i with
    | tup h l => exact .inr ⟨_, _, rfl, frz_sub.sqT h, w _ H' s ((itOk_tup (P := fun _ => True) (fun H _ sF => sF.sqT h) l).of fun H B _ sF => ⟨trivial, sF.trans frz_sub⟩)⟩
    | lst h l => exact .inl ⟨_, _, rfl, .inl (.inl (frz_sub _ _ h)), w _ H' s ((itOk_list (P := fun _ => True) (fun H _ sF => .inl (.inl (sF _ _ h))) l).of fun H B _ sF => ⟨trivial, sF.trans frz_sub⟩)⟩
    | fls h l => exact .inl ⟨_, _, rfl, frz_sub.sqL h, w _ H' s ((itOk_list (P := fun _ => True) (fun H _ sF => sF.sqL h) l).of fun H B _ sF => ⟨trivial, sF.trans frz_sub⟩)⟩
    | _ => exact w.elim
  have w := wp_bind.mp q
  cases m with
  | stuck => exact w.elim
  | exc c => exact .inl (he O bs σ H _ r w)
  | val x =>
    cases x with
    | tup ps =>
      refine .inr (he O bs σ H _ r (wp_val.mpr fun v H' s i => ?_))
      rcases key v H' _ s i w with ⟨a, vs, rfl, hs, z⟩ | ⟨a, vs, rfl, hs, z⟩
      · cases i with
        | tup h l => exact ⟨a, rfl, ⟨_, frz_sub.sqT h⟩, w _ H' s ((itOk_tup (P := fun _ => True) (fun H _ sF => sF.sqT h) l).of fun H B _ sF => ⟨trivial, sF.trans frz_sub⟩)⟩
      · exact ⟨a, rfl, ⟨_, hs⟩, z⟩
    | lst ps =>
      refine .inl (he O bs σ H _ r (wp_val.mpr fun v H' s i => ?_))
      cases i with
      | lst h l => exact ⟨_, rfl, ⟨_, .inl (.inl (frz_sub _ _ h))⟩, w _ H' s ((itOk_list (P := fun _ => True) (fun H _ sF => .inl (.inl (sF _ _ h))) l).of fun H B _ sF => ⟨trivial, sF.trans frz_sub⟩)⟩
    | fls ps =>
      refine .inl (he O bs σ H _ r (wp_val.mpr fun v H' s i => ?_))
      cases i with
      | fls h l => exact ⟨_, rfl, ⟨_, frz_sub.sqL h⟩, w _ H' s ((itOk_list (P := fun _ => True) (fun H _ sF => sF.sqL h) l).of fun H B _ sF => ⟨trivial, sF.trans frz_sub⟩)⟩
    | _ => exact w.elim
/-- over an owned list, in a comprehension -/
theorem itv_seq (he : Vw K cl W te ρ m) : IterV K cl W (iList K te) ρ (m >>= asLi) := fun O bs σ H R r q => by
  refine he O bs σ H _ r (wp_mono (wp_bind.mp q) (fun x w v H' s i => ?_) fun _ z => z)
  cases x with
  | lst ps =>
    obtain ⟨a, vs, rfl, h, l⟩ := i
    exact ⟨a, rfl, ⟨_, .inl (.inl h)⟩, w _ H' s ((itOk_list (P := Sub H') (fun H2 s2 _ => .inl (.inl (s2 _ _ h))) l).of fun H2 B s2 sF => ⟨s2, sF.trans frz_sub⟩)⟩
  | fls ps => cases i with
    | fls h l => exact ⟨_, rfl, ⟨_, frz_sub.sqL h⟩, w _ H' s ((itOk_list (P := Sub H') (fun H2 s2 sF => sF.sqL h) l).of fun H2 B s2 sF => ⟨s2, sF.trans frz_sub⟩)⟩
  | _ => exact w.elim
def rngP (lo hi : Int) : List PV := (List.range (hi - lo).toNat).map fun i => .int (lo + (i : Nat))
theorem rng_get {lo hi : Int} {i : Nat} {p : PV} (h : (rngP lo hi)[i]? = some p) : i < (hi - lo).toNat ∧ p = .int (lo + (i : Nat)) := by
  unfold rngP at h
  rw [List.getElem?_map] at h
  obtain ⟨j, e, rfl⟩ := Option.map_eq_some_iff.mp h
  obtain ⟨h1, h2⟩ := List.getElem?_eq_some_iff.mp e
  rw [List.length_range] at h1
  rw [List.getElem_range] at h2
  subst h2
  exact ⟨h1, rfl⟩
theorem rng_len {lo hi : Int} : (rngP lo hi).length = (hi - lo).toNat := by
  unfold rngP
  rw [List.length_map, List.length_range]
theorem itOk_rng {lo : Int} {n : Nat} {ps : List PV} (hl : ps.length = n) (h : ∀ i p, ps[i]? = some p → i < n ∧ p = .int (lo + (i : Nat))) : ItOk K cl P F (Itr lo n) ps := fun H B _ _ hB => by
  refine ⟨by rw [hl]; exact Nat.le_refl _, fun i p hi => ?_⟩
  obtain ⟨h1, rfl⟩ := h i p hi
  refine ⟨h1, fun x H' hy => ?_⟩
  obtain ⟨rfl, rfl⟩ := hy
  exact ⟨.refl, .int _⟩
def rng1 : PV → Res (List PV)
  | .int j => if -(2 ^ 62) ≤ j ∧ j < 2 ^ 62 then .val (rngP 0 j) else .stuck
  | _ => .stuck
def rng2 : PV → PV → Res (List PV)
  | .int i, .int j => if -(2 ^ 62) ≤ i ∧ i < 2 ^ 62 ∧ -(2 ^ 62) ≤ j ∧ j < 2 ^ 62 then .val (rngP i j) else .stuck
  | _, _ => .stuck
theorem it_rng1 (he : Vw K cl W te ρ m) : Iter K cl W (iRng1 (tCons te tNil)) ρ (m >>= rng1) := fun O bs σ H R r q => by
  refine he O bs σ H _ r (wp_mono (wp_bind.mp q) (fun x w v H' s i => ?_) fun _ z => z)
  unfold rng1 at w
  split at w
  · next j =>
    cases isV_int i
    split at w
    · next c => exact ⟨j, rfl, c.1, c.2, w _ H' s (itOk_rng (by rw [rng_len, Int.sub_zero]) fun i p h => by have := rng_get h; rwa [Int.sub_zero] at this)⟩
    · exact w.elim
  · exact w.elim
theorem it_rng2 (ha : Vw K cl W ta ρ ma) (hb : Vw K cl W te ρ m) : Iter K cl W (iRng2 (tCons ta (tCons te tNil))) ρ (ma >>= fun x => m >>= fun y => rng2 x y) := fun O bs σ H R r q => by
  refine ha O bs σ H _ r (wp_mono (wp_bind.mp q) (fun x qx v1 H1 s1 i1 => ?_) fun _ z => z)
  refine hb O bs σ H1 _ (r.same s1) (wp_mono (wp_bind.mp qx) (fun y w v2 H2 s2 i2 => ?_) fun _ z => z.mono s1)
  unfold rng2 at w
  split at w
  · next i j =>
    cases isV_int i1
    cases isV_int i2
    split at w
    · next c => exact ⟨i, j, rfl, c, w _ H2 (s1.trans s2) (itOk_rng rng_len fun i p h => rng_get h)⟩
    · exact w.elim
  · exact w.elim
/-! zip and enumerate: lists or tuples -/
def zipP (ps qs : List PV) : List PV := List.zipWith (fun a b => .tup [a, b]) ps qs
theorem zip_get {ps qs : List PV} {i : Nat} {p : PV} (h : (zipP ps qs)[i]? = some p) : ∃ a b, ps[i]? = some a ∧ qs[i]? = some b ∧ p = .tup [a, b] := by
  unfold zipP at h
  rw [List.getElem?_zipWith] at h
  split at h
  · next a b h1 h2 => exact ⟨a, b, h1, h2, (Option.some.inj h).symm⟩
  · cases h
theorem two_new {H : Hp} {T : Addr} {x y : V} {p q : PV} (hT : H T = none) (hB : ∀ a, a ∈ B → ∃ o, H a = some o) (h1 : Is K cl (frz H B) x p) (h2 : Is K cl (frz H B) y q) : Is K cl (frz (upd H T (.tup [x, y])) B) (.ref T) (.tup [p, q]) :=
  new_tup hB hT (.cons h1 (.one h2))
theorem itOk_zip {J : It} {R1 R2 : Hp → List V → Prop} {vs ws : List V} {ps qs : List PV} (h1 : ∀ H, P H → Sub F H → R1 H vs) (h2 : ∀ H, P H → Sub F H → R2 H ws) (hl : IsL K cl F vs ps) (hr : IsL K cl F ws qs)
    (hgo : ∀ i H, (∃ (xs ys : List V) (x y : V), R1 H xs ∧ R2 H ys ∧ xs[i]? = some x ∧ ys[i]? = some y) → J.go i H)
    (hy : ∀ i H v H', J.yld i H v H' → ∃ T x y, v = .ref T ∧ H T = none ∧ H' = upd H T (.tup [x, y]) ∧ (∀ xs, R1 H xs → xs[i]? = some x) ∧ ∀ ys, R2 H ys → ys[i]? = some y)
    (hs : ∀ i H, (∃ xs ys : List V, R1 H xs ∧ R2 H ys ∧ i = min xs.length ys.length) → J.stop i H) : ItOk K cl (fun H => P H ∧ Sub F H) F J (zipP ps qs) := fun H B hp sF hB => by
  have a1 := h1 H hp.1 hp.2
  have a2 := h2 H hp.1 hp.2
  refine ⟨hs _ H ⟨vs, ws, a1, a2, ?_⟩, fun i p hi => ?_⟩
  · unfold zipP
    rw [List.length_zipWith, hl.len, hr.len]
  · obtain ⟨a, b, e1, e2, rfl⟩ := zip_get hi
    obtain ⟨v, e3, i3⟩ := hl.get e1
    obtain ⟨w, e4, i4⟩ := hr.get e2
    refine ⟨hgo i H ⟨vs, ws, v, w, a1, a2, e3, e4⟩, fun x H' hyx => ?_⟩
    obtain ⟨T, x1, y1, rfl, hT, rfl, q1, q2⟩ := hy i H x H' hyx
    have b1 := q1 vs a1
    have b2 := q2 ws a2
    rw [e3] at b1
    rw [e4] at b2
    cases b1
    cases b2
    exact ⟨sub_new hT _, two_new hT hB (i3.mono sF) (i4.mono sF)⟩
end
section
variable {K : PySem.W.Frag} {cl : Str → Option Addr} {W : WX} {bs O A A1 B : List Addr} {F H H' H1 : Hp} {ρ ρ' ρx : Ro} {σ : St} {S S1 L : Type} {ρn : S → Ro} {ρj : S1 → Ro} {ρl : L → Ro} {D : Ends} {t u v tb : TS} {te ta tc : TE} {m ma mb : Res PV} {tr : TA} {ml : Res (List PV)} {md : Res (List (Key × PV))} {P : Hp → Prop}
def zipV : PV → PV → Res (List PV)
  | .tup ps, .tup qs => .val (zipP ps qs)
  | .lst ps, .lst qs => .val (zipP ps qs)
  | _, _ => .stuck
theorem itOk_zL {a b : Addr} {vs ws : List V} {ps qs : List PV} (h1 : ∀ H, P H → Sub F H → SqL K H a vs) (h2 : ∀ H, P H → Sub F H → SqL K H b ws) (hl : IsL K cl F vs ps) (hr : IsL K cl F ws qs) : ItOk K cl (fun H => P H ∧ Sub F H) F (Itz K a b) (zipP ps qs) :=
  itOk_zip (R1 := fun H xs => SqL K H a xs) (R2 := fun H xs => SqL K H b xs) h1 h2 hl hr (fun _ _ h => h) (fun _ _ _ _ h => h) (fun i H ⟨xs, ys, h1, h2, e⟩ => ⟨xs, ys, h1, h2, by omega⟩)
theorem itOk_zT {a b : Addr} {vs ws : List V} {ps qs : List PV} (h1 : ∀ H, P H → Sub F H → SqT K H a vs) (h2 : ∀ H, P H → Sub F H → SqT K H b ws) (hl : IsL K cl F vs ps) (hr : IsL K cl F ws qs) : ItOk K cl (fun H => P H ∧ Sub F H) F (RZ.ItzT K a b) (zipP ps qs) :=
  itOk_zip (R1 := fun H xs => SqT K H a xs) (R2 := fun H xs => SqT K H b xs) h1 h2 hl hr (fun _ _ h => h) (fun _ _ _ _ h => h) (fun i H ⟨xs, ys, h1, h2, e⟩ => ⟨xs, ys, h1, h2, by omega⟩)
theorem it_zip (ha : Pur K cl W ta ρ ma) (hb : Pur K cl W te ρ m) : Iter K cl W (RZ.iZipA K (tCons ta (tCons te tNil))) ρ (ma >>= fun x => m >>= fun y => zipV x y) := fun O bs σ H R r q => by
  refine ha O bs σ H _ r (wp_mono (wp_bind.mp q) (fun x qx v1 H1 s1 i1 => ?_) fun _ z => z)
  refine hb O bs σ H1 _ (r.same s1) (wp_mono (wp_bind.mp qx) (fun y w v2 H2 s2 i2 => ?_) fun _ z => z.mono s1)
  have i1' := i1.mono (frz_same (A := O ++ adr ρ σ) s2)
  unfold zipV at w
  split at w
  · cases i1' with
    | tup h1 l1 =>
    cases i2 with
    | tup h2 l2 =>
    exact ⟨_, _, _, _, rfl, .inr ⟨frz_sub.sqT h1, frz_sub.sqT h2, w _ H2 (s1.trans s2) ((itOk_zT (P := fun _ => True) (fun H _ sF => sF.sqT h1) (fun H _ sF => sF.sqT h2) l1 l2).of fun H B _ sF => ⟨trivial, sF.trans frz_sub⟩)⟩⟩
  · cases i1' with
    | lst h1 l1 =>
    cases i2 with
    | lst h2 l2 =>
    exact ⟨_, _, _, _, rfl, .inl ⟨.inl (.inl (frz_sub _ _ h1)), .inl (.inl (frz_sub _ _ h2)), w _ H2 (s1.trans s2) ((itOk_zL (P := fun _ => True) (fun H _ sF => .inl (.inl (sF _ _ h1))) (fun H _ sF => .inl (.inl (sF _ _ h2))) l1 l2).of fun H B _ sF => ⟨trivial, sF.trans frz_sub⟩)⟩⟩
  · exact w.elim
theorem itv_zip (ha : Vw K cl W ta ρ ma) (hb : Vw K cl W te ρ m) : IterV K cl W (RZ.iZipA K (tCons ta (tCons te tNil))) ρ (ma >>= fun x => m >>= fun y => zipV x y) := fun O bs σ H R r q => by
  refine ha O bs σ H _ r (wp_mono (wp_bind.mp q) (fun x qx v1 H1 s1 i1 => ?_) fun _ z => z)
  refine hb O bs σ H1 _ (r.same s1) (wp_mono (wp_bind.mp qx) (fun y w v2 H2 s2 i2 => ?_) fun _ z => z.mono s1)
  have i1' := i1.mono (frz_same (A := O ++ adr ρ σ) s2) s2
  unfold zipV at w
  split at w
  · cases i1' with
    | tup h1 l1 =>
    cases i2 with
    | tup h2 l2 =>
    exact ⟨_, _, _, _, rfl, .inr ⟨frz_sub.sqT h1, frz_sub.sqT h2, w _ H2 (s1.trans s2) ((itOk_zT (P := fun _ => True) (fun H _ sF => sF.sqT h1) (fun H _ sF => sF.sqT h2) l1 l2).of fun H B _ sF => ⟨trivial, sF.trans frz_sub⟩)⟩⟩
  · obtain ⟨a, vs, rfl, h1, l1⟩ := i1'
    obtain ⟨b, ws, rfl, h2, l2⟩ := i2
    exact ⟨_, _, _, _, rfl, .inl ⟨.inl (.inl h1), .inl (.inl h2), w _ H2 (s1.trans s2) ((itOk_zL (P := Sub H2) (fun H s _ => .inl (.inl (s _ _ h1))) (fun H s _ => .inl (.inl (s _ _ h2))) l1 l2).of fun H B s sF => ⟨s, sF.trans frz_sub⟩)⟩⟩
  · exact w.elim
def enumP (ps : List PV) : List PV := (List.range ps.length).zipWith (fun (i : Nat) p => .tup [.int i, p]) ps
theorem enum_get {ps : List PV} {i : Nat} {p : PV} (h : (enumP ps)[i]? = some p) : ∃ a, ps[i]? = some a ∧ p = .tup [.int (i : Nat), a] := by
  unfold enumP at h
  rw [List.getElem?_zipWith] at h
  split at h
  · next a b h1 h2 =>
    obtain ⟨e1, e2⟩ := List.getElem?_eq_some_iff.mp h1
    rw [List.getElem_range] at e2
    subst e2
    exact ⟨b, h2, (Option.some.inj h).symm⟩
  · cases h
theorem itOk_enum {J : It} {R1 : Hp → List V → Prop} {vs : List V} {ps : List PV} (h1 : ∀ H, P H → Sub F H → R1 H vs) (hl : IsL K cl F vs ps) (hgo : ∀ i H, (∃ (xs : List V) (x : V), R1 H xs ∧ xs[i]? = some x) → J.go i H)
    (hy : ∀ i H v H', J.yld i H v H' → ∃ T x, v = .ref T ∧ H T = none ∧ H' = upd H T (.tup [.int (i : Nat), x]) ∧ (∀ xs, R1 H xs → xs[i]? = some x)) (hs : ∀ i H, (∃ xs : List V, R1 H xs ∧ i = xs.length) → J.stop i H) : ItOk K cl (fun H => P H ∧ Sub F H) F J (enumP ps) := fun H B hp sF hB => by
  have a1 := h1 H hp.1 hp.2
  refine ⟨hs _ H ⟨vs, a1, ?_⟩, fun i p hi => ?_⟩
  · unfold enumP
    rw [List.length_zipWith, List.length_range, hl.len, Nat.min_self]
  · obtain ⟨a, e1, rfl⟩ := enum_get hi
    obtain ⟨v, e3, i3⟩ := hl.get e1
    refine ⟨hgo i H ⟨vs, v, a1, e3⟩, fun x H' hyx => ?_⟩
    obtain ⟨T, x1, rfl, hT, rfl, q1⟩ := hy i H x H' hyx
    have b1 := q1 vs a1
    rw [e3] at b1
    cases b1
    exact ⟨sub_new hT _, two_new hT hB (.int _) (i3.mono sF)⟩
def asTu : PV → Res (List PV)
  | .tup ps => .val ps
  | _ => .stuck
theorem itv_enum (he : Vw K cl W te ρ m) : IterV K cl W (iEnum K (tCons te tNil)) ρ (m >>= asLi >>= fun ps => .val (enumP ps)) := fun O bs σ H R r q => by
  rw [wp_bind, wp_bind] at q
  refine he O bs σ H _ r (wp_mono q (fun x w v H' s i => ?_) fun _ z => z)
  cases x with
  | lst ps =>
    obtain ⟨a, vs, rfl, h, l⟩ := i
    exact ⟨a, vs, rfl, .inl (.inl h), w _ H' s ((itOk_enum (J := Ite K _) (P := Sub H') (R1 := fun H xs => SqL K H a xs) (fun H2 s2 _ => .inl (.inl (s2 _ _ h))) l (fun _ _ h => h) (fun _ _ _ _ h => h) (fun i H ⟨xs, h, e⟩ => ⟨xs, h, by omega⟩)).of fun H2 B s2 sF => ⟨s2, sF.trans frz_sub⟩)⟩
  | fls ps => cases i with
    | fls h l => exact ⟨_, _, rfl, frz_sub.sqL h, w _ H' s ((itOk_enum (J := Ite K _) (P := Sub H') (R1 := fun H xs => SqL K H _ xs) (fun H2 s2 sF => sF.sqL h) l (fun _ _ h => h) (fun _ _ _ _ h => h) (fun i H ⟨xs, h, e⟩ => ⟨xs, h, by omega⟩)).of fun H2 B s2 sF => ⟨s2, sF.trans frz_sub⟩)⟩
  | _ => exact w.elim
theorem it_enum (he : Pur K cl W te ρ m) : Iter K cl W (iEnum K (tCons te tNil)) ρ (m >>= asLi >>= fun ps => .val (enumP ps)) := fun O bs σ H R r q => by
  rw [wp_bind, wp_bind] at q
  refine he O bs σ H _ r (wp_mono q (fun x w v H' s i => ?_) fun _ z => z)
  cases i with
  | lst h l => exact ⟨_, _, rfl, .inl (.inl (frz_sub _ _ h)), w _ H' s ((itOk_enum (J := Ite K _) (P := fun _ => True) (R1 := fun H xs => SqL K H _ xs) (fun H2 _ sF => .inl (.inl (sF _ _ h))) l (fun _ _ h => h) (fun _ _ _ _ h => h) (fun i H ⟨xs, h, e⟩ => ⟨xs, h, by omega⟩)).of fun H2 B _ sF => ⟨trivial, sF.trans frz_sub⟩)⟩
  | fls h l => exact ⟨_, _, rfl, frz_sub.sqL h, w _ H' s ((itOk_enum (J := Ite K _) (P := fun _ => True) (R1 := fun H xs => SqL K H _ xs) (fun H2 _ sF => sF.sqL h) l (fun _ _ h => h) (fun _ _ _ _ h => h) (fun i H ⟨xs, h, e⟩ => ⟨xs, h, by omega⟩)).of fun H2 B _ sF => ⟨trivial, sF.trans frz_sub⟩)⟩
  | _ => exact w.elim
theorem it_enT (he : Pur K cl W te ρ m) : Iter K cl W (iEnT K (tCons te tNil)) ρ (m >>= asTu >>= fun ps => .val (enumP ps)) := fun O bs σ H R r q => by
  rw [wp_bind, wp_bind] at q
  refine he O bs σ H _ r (wp_mono q (fun x w v H' s i => ?_) fun _ z => z)
  cases i with
  | tup h l => exact ⟨_, _, rfl, frz_sub.sqT h, w _ H' s ((itOk_enum (J := IteT K _) (P := fun _ => True) (R1 := fun H xs => SqT K H _ xs) (fun H2 _ sF => sF.sqT h) l (fun _ _ h => h) (fun _ _ _ _ h => h) (fun i H ⟨xs, h, e⟩ => ⟨xs, h, e.symm⟩)).of fun H2 B _ sF => ⟨trivial, sF.trans frz_sub⟩)⟩
  | _ => exact w.elim
/-! lists and dicts, changed by statements -/
theorem run_append {i : Nat} {s : Slot} {ps : List PV} {n : PV → Res (Fl S L)} (hi : ρ[i]? = some s) (hs : s = .ow (.lst ps) ∨ ∃ k, s = .rf k (.lst ps)) (he : Pur K cl W te ρ m) (w : Wk ρ ρx) (h : ∀ x, Runs K cl W u (ρ.set i (reSl s (.lst (ps ++ [x])))) (n x) ρn ρl ρx) :
    Runs K cl W (tSeq (tDrop (tBM K "list" rAppend (tVar i) (tCons te tNil))) u) ρ (m >>= fun x => sized (ps.length + 1) >>= fun _ => n x) ρn ρl ρx := fun O bs σ H D R hb q => by
  have got : ∃ a vs, σ[i]? = some (some (.ref a)) ∧ H a = some (.lst vs) ∧ IsL K cl (frz H (O ++ adr ρ σ)) vs ps := by
    obtain ⟨x, e, q⟩ := R.sl.get hi
    rcases hs with rfl | ⟨k, rfl⟩
    · obtain ⟨a, rfl, vs, h1, h2⟩ := q; exact ⟨a, vs, e, h1, h2⟩
    · obtain ⟨a, rfl, _, vs, h1, h2⟩ := q; exact ⟨a, vs, e, h1, h2⟩
  obtain ⟨a, vs, ha, hv, hl⟩ := got
  refine ⟨_, ha, .inl ⟨rfl, _, .inl (.inl hv)⟩, he O bs σ H _ R (wp_mono (wp_bind.mp q) (fun x qx v H' s' ix => ?_) fun _ z => z.xw R w)⟩
  obtain ⟨hz, qx⟩ := wp_sized (wp_bind.mp qx)
  have R' := R.same s'
  have hl' := hl.mono (frz_same (A := O ++ adr ρ σ) s')
  obtain ⟨R2, g2⟩ := R'.put (m' := .lst (ps ++ [x])) (o := .lst (vs ++ [v])) hi (by rcases hs with e | ⟨k, e⟩; exact .inl e; exact .inr ⟨k, e⟩) ha ⟨_, upd_same, hl'.append (.one ix)⟩
  have g := (Gr.of (A := adr ρ σ) s').trans g2
  refine ⟨a, vs, v, rfl, rfl, s' _ _ hv, by rw [hl.len]; omega, ?_⟩
  exact h x O bs σ _ D R2 hb (wp_mono qx (fun _ z => z.step g) fun _ z => z.step g)
def setL (ps : List PV) (k x : PV) : Res (List PV) := match k with
  | .int k => match ixN ps.length k with
    | some j => .val (ps.set j x)
    | none => .stuck
  | _ => .stuck
theorem run_setitem {i : Nat} {s : Slot} {ps : List PV} {n : List PV → Res (Fl S L)} (hi : ρ[i]? = some s) (hs : s = .ow (.lst ps) ∨ ∃ k, s = .rf k (.lst ps)) (he : Pur K cl W te ρ m) (hk : Vw K cl W ta ρ ma) (w : Wk ρ ρx) (h : ∀ qs, Runs K cl W u (ρ.set i (reSl s (.lst qs))) (n qs) ρn ρl ρx) :
    Runs K cl W (tSeq (tAsg te (gSub (tVar i) ta rSetL)) u) ρ (m >>= fun x => ma >>= fun k => setL ps k x >>= n) ρn ρl ρx := fun O bs σ H D R hb q => by
  have got : ∃ a vs, σ[i]? = some (some (.ref a)) ∧ H a = some (.lst vs) ∧ IsL K cl (frz H (O ++ adr ρ σ)) vs ps := by
    obtain ⟨x, e, q⟩ := R.sl.get hi
    rcases hs with rfl | ⟨k, rfl⟩
    · obtain ⟨a, rfl, vs, h1, h2⟩ := q; exact ⟨a, vs, e, h1, h2⟩
    · obtain ⟨a, rfl, _, vs, h1, h2⟩ := q; exact ⟨a, vs, e, h1, h2⟩
  obtain ⟨a, vs, ha, hv, hl⟩ := got
  refine he O bs σ H _ R (wp_mono (wp_bind.mp q) (fun x qx v H1 s1 ix => ?_) fun _ z => z.xw R w)
  have R1 := R.same s1
  refine ⟨_, ha, hk O bs σ H1 _ R1 (wp_mono (wp_bind.mp qx) (fun k qk v2 H2 s2 ik => ?_) fun _ z => (z.step (Gr.of s1)).xw R1 w)⟩
  have R2 := R1.same s2
  have s12 := s1.trans s2
  have hl' := hl.mono (frz_same (A := O ++ adr ρ σ) s12)
  unfold setL at qk
  split at qk
  · next k =>
    cases isV_int ik
    split at qk
    · next j hj =>
      obtain ⟨R3, g3⟩ := R2.put (m' := .lst (ps.set j x)) (o := .lst (vs.set j v)) hi (by rcases hs with e | ⟨k, e⟩; exact .inl e; exact .inr ⟨k, e⟩) ha ⟨_, upd_same, IsL.set (ix.mono (frz_same s2)) j hl'⟩
      have g := (Gr.of (A := adr ρ σ) s12).trans g3
      exact ⟨a, vs, k, j, rfl, rfl, s12 _ _ hv, by rw [hl.len]; exact hj, h _ O bs σ _ D R3 hb (wp_mono qk (fun _ z => z.step g) fun _ z => z.step g)⟩
    · exact qk.elim
  · exact qk.elim
def keyP : PV → Res Key
  | .int i => .val (.inl i)
  | .str x => .val (.inr x)
  | _ => .stuck
theorem wp_key {p : PV} {v : V} {Q : Key → Prop} {E : Str → Prop} (h : wp (keyP p) Q E) (i : IsV K cl F H v p) : ∃ k, v = kV k ∧ Q k := by
  cases p with
  | int j => exact ⟨.inl j, isV_int i, h⟩
  | str x => exact ⟨.inr x, isV_str i, h⟩
  | _ => exact h.elim
theorem run_dput {i : Nat} {s : Slot} {ps : List (Key × PV)} {n : List (Key × PV) → Res (Fl S L)} (hi : ρ[i]? = some s) (hs : s = .ow (.dct ps) ∨ ∃ k, s = .rf k (.dct ps)) (he : Pur K cl W te ρ m) (hk : Vw K cl W ta ρ ma) (w : Wk ρ ρx) (h : ∀ qs, Runs K cl W u (ρ.set i (reSl s (.dct qs))) (n qs) ρn ρl ρx) :
    Runs K cl W (tSeq (sDPut (tVar i) ta te) u) ρ (m >>= fun x => ma >>= fun k => keyP k >>= fun k => sized (ps.length + 1) >>= fun _ => n (putP ps k x)) ρn ρl ρx := fun O bs σ H D R hb q => by
  have got : ∃ a vs, σ[i]? = some (some (.ref a)) ∧ H a = some (.dK vs) ∧ IsK K cl (frz H (O ++ adr ρ σ)) vs ps := by
    obtain ⟨x, e, q⟩ := R.sl.get hi
    rcases hs with rfl | ⟨k, rfl⟩
    · obtain ⟨a, rfl, vs, h1, h2⟩ := q; exact ⟨a, vs, e, h1, h2⟩
    · obtain ⟨a, rfl, _, vs, h1, h2⟩ := q; exact ⟨a, vs, e, h1, h2⟩
  obtain ⟨a, vs, ha, hv, hl⟩ := got
  refine he O bs σ H _ R (wp_mono (wp_bind.mp q) (fun x qx v H1 s1 ix => ?_) fun _ z => z.xw R w)
  have R1 := R.same s1
  refine ⟨_, ha, hk O bs σ H1 _ R1 (wp_mono (wp_bind.mp qx) (fun k qk v2 H2 s2 ik => ?_) fun _ z => (z.step (Gr.of s1)).xw R1 w)⟩
  have R2 := R1.same s2
  have s12 := s1.trans s2
  have hl' := hl.mono (frz_same (A := O ++ adr ρ σ) s12)
  obtain ⟨k, rfl, qk⟩ := wp_key (wp_bind.mp qk) ik
  obtain ⟨hz, qk⟩ := wp_sized (wp_bind.mp qk)
  obtain ⟨R3, g3⟩ := R2.put (m' := .dct (putP ps k x)) (o := .dK (putK vs k v)) hi (by rcases hs with e | ⟨k, e⟩; exact .inl e; exact .inr ⟨k, e⟩) ha ⟨_, upd_same, IsK.put (ix.mono (frz_same s2)) hl'⟩
  have g := (Gr.of (A := adr ρ σ) s12).trans g3
  exact ⟨a, _, rfl, .inl ⟨vs, k, s12 _ _ hv, rfl, by rw [hl.len]; omega, rfl⟩, h _ O bs σ _ D R3 hb (wp_mono qk (fun _ z => z.step g) fun _ z => z.step g)⟩
/-! reading a dict -/
def dgetP (d k : PV) : Res PV := match d with
  | .dct ps => keyP k >>= fun k => match valP ps k with
    | some p => .val p
    | none => .stuck
  | _ => .stuck
theorem pu_dget (hd : Vw K cl W ta ρ ma) (hk : Vw K cl W te ρ m) : Pur K cl W (tDGet ta te) ρ (ma >>= fun d => m >>= fun k => dgetP d k) := fun O bs σ H Q R q => by
  refine hd O bs σ H _ R (wp_mono (wp_bind.mp q) (fun x qx v1 H1 s1 i1 => ?_) fun _ z => z)
  refine hk O bs σ H1 _ (R.same s1) (wp_mono (wp_bind.mp qx) (fun y qy v2 H2 s2 i2 => ?_) fun _ z => z.mono s1)
  have i1' := i1.mono (frz_same (A := O ++ adr ρ σ) s2) s2
  unfold dgetP at qy
  split at qy
  · obtain ⟨a, vs, rfl, h, l⟩ := i1'
    obtain ⟨k, rfl, qy⟩ := wp_key (wp_bind.mp qy) i2
    split at qy
    · next p e =>
      obtain ⟨v, e2, iv⟩ := l.val e
      exact ⟨a, v, rfl, .inl ⟨vs, k, .inl h, rfl, e2.symm⟩, qy v H2 (s1.trans s2) iv⟩
    · exact qy.elim
  · exact qy.elim
def dinP (neg : Bool) (k d : PV) : Res PV := match d with
  | .dct ps => keyP k >>= fun k => .val (.bl (if neg then !(valP ps k).isSome else (valP ps k).isSome))
  | _ => .stuck
theorem IsK.isSome {vs : List (Key × V)} {ps : List (Key × PV)} (h : IsK K cl F vs ps) (k : Key) : (valV vs k).isSome = (valP ps k).isSome := by
  cases e : valP ps k with
  | none => rw [h.noval e]; rfl
  | some p => obtain ⟨v, e2, _⟩ := h.val e; rw [e2]; rfl
theorem pu_din (hk : Vw K cl W te ρ m) (hd : Vw K cl W ta ρ ma) : Pur K cl W (tDIn te ta) ρ (m >>= fun k => ma >>= fun d => dinP false k d) := fun O bs σ H Q R q => by
  refine hk O bs σ H _ R (wp_mono (wp_bind.mp q) (fun y qx v1 H1 s1 i1 => ?_) fun _ z => z)
  refine hd O bs σ H1 _ (R.same s1) (wp_mono (wp_bind.mp qx) (fun x qy v2 H2 s2 i2 => ?_) fun _ z => z.mono s1)
  have i1' := i1.mono (frz_same (A := O ++ adr ρ σ) s2) s2
  unfold dinP at qy
  split at qy
  · obtain ⟨a, vs, rfl, h, l⟩ := i2
    obtain ⟨k, rfl, qy⟩ := wp_key (wp_bind.mp qy) i1'
    exact ⟨a, valV vs k, rfl, .inl ⟨vs, k, .inl h, rfl, rfl⟩, by rw [l.isSome]; exact qy _ H2 (s1.trans s2) (.bl _)⟩
  · exact qy.elim
theorem pu_dnin (hk : Vw K cl W te ρ m) (hd : Vw K cl W ta ρ ma) : Pur K cl W (tDNotIn te ta) ρ (m >>= fun k => ma >>= fun d => dinP true k d) := fun O bs σ H Q R q => by
  refine hk O bs σ H _ R (wp_mono (wp_bind.mp q) (fun y qx v1 H1 s1 i1 => ?_) fun _ z => z)
  refine hd O bs σ H1 _ (R.same s1) (wp_mono (wp_bind.mp qx) (fun x qy v2 H2 s2 i2 => ?_) fun _ z => z.mono s1)
  have i1' := i1.mono (frz_same (A := O ++ adr ρ σ) s2) s2
  unfold dinP at qy
  split at qy
  · obtain ⟨a, vs, rfl, h, l⟩ := i2
    obtain ⟨k, rfl, qy⟩ := wp_key (wp_bind.mp qy) i1'
    exact ⟨a, valV vs k, rfl, .inl ⟨vs, k, .inl h, rfl, rfl⟩, by rw [l.isSome]; exact qy _ H2 (s1.trans s2) (.bl _)⟩
  · exact qy.elim
/-! x += e; a, b = e, f -/
def addI : PV → PV → Res PV := ints2 fun i j => .val (.int (i + j))
theorem wp_ints2 {g : Int → Int → Res PV} {p q : PV} {Q : PV → Prop} {E : Str → Prop} (h : wp (ints2 g p q) Q E) : ∃ i j, p = .int i ∧ q = .int j ∧ wp (g i j) Q E := by
  unfold ints2 at h
  split at h
  · exact ⟨_, _, rfl, rfl, h⟩
  · exact h.elim
theorem run_aug {i : Nat} {p : PV} {n : PV → Res (Fl S L)} {f : Int → Int → Int} (hi : ρ[i]? = some (.fz p)) (he : Vw K cl W te ρ m) (hn : nad ρ i = true) (w : Wk ρ ρx) (h : ∀ x, Runs K cl W u (ρ.set i (.fz x)) (n x) ρn ρl ρx) :
    Runs K cl W (tSeq (tAug i te (ipI f)) u) ρ (m >>= fun y => ints2 (fun i j => .val (.int (f i j))) p y >>= n) ρn ρl ρx := fun O bs σ H D R hb q => by
  obtain ⟨x, e, v, rfl, hv⟩ := R.sl.get hi
  refine ⟨v, e, he O bs σ H _ R (wp_mono (wp_bind.mp q) (fun y qy v2 H' s iy => ?_) fun _ z => z.xw R w)⟩
  obtain ⟨i1, j1, rfl, rfl, qy⟩ := wp_ints2 (wp_bind.mp qy)
  cases hv
  cases isV_int iy
  have g : Gr (adr ρ σ) H (adr (ρ.set i (.fz (.int (f i1 j1)))) (σ.set i (some (.int (f i1 j1))))) H' := by rw [adr_setn hn]; exact Gr.of s
  exact ⟨i1, j1, rfl, rfl, h _ O bs _ H' D ((R.same s).setfz hn (.int _)) hb (wp_mono qy (fun _ z => z.step g) fun _ z => z.step g)⟩
theorem run_par {i j : Nat} {n : PV → PV → Res (Fl S L)} (ha : Pur K cl W ta ρ ma) (hb' : Pur K cl W te ρ m) (hi : nad ρ i = true) (hj : nad ρ j = true) (w : Wk ρ ρx) (h : ∀ x y, Runs K cl W u ((ρ.set i (.fz x)).set j (.fz y)) (n x y) ρn ρl ρx) :
    Runs K cl W (tSeq (tPar i j (tCons ta (tCons te tNil))) u) ρ (ma >>= fun x => m >>= fun y => n x y) ρn ρl ρx := fun O bs σ H D R hb q => by
  refine ha O bs σ H _ R (wp_mono (wp_bind.mp q) (fun x qx v1 H1 s1 i1 => ?_) fun _ z => z.xw R w)
  refine hb' O bs σ H1 _ (R.same s1) (wp_mono (wp_bind.mp qx) (fun y qy v2 H2 s2 i2 => ?_) fun _ z => (z.step (Gr.of s1)).xw (R.same s1) w)
  have s12 := s1.trans s2
  have g : Gr (adr ρ σ) H (adr ((ρ.set i (.fz x)).set j (.fz y)) ((σ.set i (some v1)).set j (some v2))) H2 := by rw [adr_setn (nad_set hj), adr_setn hi]; exact Gr.of s12
  refine ⟨v1, v2, rfl, h x y O bs _ H2 D (Rel.setfz ((R.same s12).setfz hi (i1.mono (frz_same s2))) (nad_set hj) (by rw [adr_setn hi]; exact i2)) hb (wp_mono qy (fun _ z => z.step g) fun _ z => z.step g)⟩
end
/-! ### defs, calls, errors, fields -/
section
variable (K : PySem.W.Frag) (cl : Str → Option Addr)
def spP (mf : List PV → Res PV) : Sp := fun vs H Q E => ∃ O ps, (∀ a, a ∈ O → ∃ o, H a = some o) ∧ IsL K cl (frz H O) vs ps ∧
  wp (mf ps) (fun r => ∀ v H', Sub H H' → Is K cl (frz H' O) v r → Q v H') (fun c => ∀ C H', cl c = some C → Sub H H' → E (.ref C) none H')
end
def retF (M : Res (Fl Unit Empty)) : Res PV := M >>= fun f => match f with
  | .nx _ => .val .non
  | .rt v _ => .val v
  | .ro _ _ => .stuck
def ap0 (f : Res PV) : List PV → Res PV
  | [] => f
  | _ => .stuck
def ap1 (f : PV → Res PV) : List PV → Res PV
  | [a] => f a
  | _ => .stuck
def ap2 (f : PV → PV → Res PV) : List PV → Res PV
  | [a, b] => f a b
  | _ => .stuck
def ap3 (f : PV → PV → PV → Res PV) : List PV → Res PV
  | [a, b, c] => f a b c
  | _ => .stuck
def ap4 (f : PV → PV → PV → PV → Res PV) : List PV → Res PV
  | [a, b, c, d] => f a b c d
  | _ => .stuck
def ap5 (f : PV → PV → PV → PV → PV → Res PV) : List PV → Res PV
  | [a, b, c, d, e] => f a b c d e
  | _ => .stuck
def ap6 (f : PV → PV → PV → PV → PV → PV → Res PV) : List PV → Res PV
  | [a, b, c, d, e, g] => f a b c d e g
  | _ => .stuck
def ap7 (f : PV → PV → PV → PV → PV → PV → PV → Res PV) : List PV → Res PV
  | [a, b, c, d, e, g, h] => f a b c d e g h
  | _ => .stuck
/-- mf answers lists of n values alone -/
def Takn (n : Nat) (mf : List PV → Res PV) : Prop := ∀ ps, ps.length ≠ n → mf ps = .stuck
theorem takn0 {f : Res PV} : Takn 0 (ap0 f) := fun ps h => by
  unfold ap0; split
  · exact absurd rfl h
  · rfl
theorem takn1 {f : PV → Res PV} : Takn 1 (ap1 f) := fun ps h => by
  unfold ap1; split
  · exact absurd rfl h
  · rfl
theorem takn2 {f : PV → PV → Res PV} : Takn 2 (ap2 f) := fun ps h => by
  unfold ap2; split
  · exact absurd rfl h
  · rfl
theorem takn3 {f : PV → PV → PV → Res PV} : Takn 3 (ap3 f) := fun ps h => by
  unfold ap3; split
  · exact absurd rfl h
  · rfl
theorem takn4 {f : PV → PV → PV → PV → Res PV} : Takn 4 (ap4 f) := fun ps h => by
  unfold ap4; split
  · exact absurd rfl h
  · rfl
theorem takn5 {f : PV → PV → PV → PV → PV → Res PV} : Takn 5 (ap5 f) := fun ps h => by
  unfold ap5; split
  · exact absurd rfl h
  · rfl
theorem takn6 {f : PV → PV → PV → PV → PV → PV → Res PV} : Takn 6 (ap6 f) := fun ps h => by
  unfold ap6; split
  · exact absurd rfl h
  · rfl
theorem takn7 {f : PV → PV → PV → PV → PV → PV → PV → Res PV} : Takn 7 (ap7 f) := fun ps h => by
  unfold ap7; split
  · exact absurd rfl h
  · rfl
section
variable {P : Program} {w : World} {K : PySem.W.Frag} {mg : Str → Option Value} {base : Heap} {cl : Str → Option Addr}
theorem fz_adr : ∀ (qs : List PV) (n : Nat) (σ : St), adr (qs.map Slot.fz ++ uns n) σ = []
  | [], 0, [] => rfl
  | [], 0, _ :: _ => rfl
  | [], n + 1, [] => rfl
  | [], n + 1, _ :: σ => fz_adr [] n σ
  | _ :: qs, n, [] => rfl
  | _ :: qs, n, _ :: σ => fz_adr qs n σ
theorem fz_owa : ∀ (qs : List PV) (n : Nat) (σ : St), owa (qs.map Slot.fz ++ uns n) σ = []
  | [], 0, [] => rfl
  | [], 0, _ :: _ => rfl
  | [], n + 1, [] => rfl
  | [], n + 1, _ :: σ => fz_owa [] n σ
  | _ :: qs, n, [] => rfl
  | _ :: qs, n, _ :: σ => fz_owa qs n σ
theorem uns_adr (n : Nat) (σ : St) : adr (uns n) σ = [] := fz_adr [] n σ
theorem fz_rel {F H : Hp} : ∀ {vs : List V} {qs : List PV} (n : Nat), IsL K cl F vs qs → RelS K cl [] F H (qs.map Slot.fz ++ uns n) (vs.map some ++ List.replicate n none)
  | _, _, 0, .nil => .nil
  | _, _, n + 1, .nil => .cons trivial (fz_rel n .nil)
  | _, _, n, .cons a r => .cons ⟨_, rfl, a⟩ (fz_rel n r)
open PySem.Spec PyProof.Rows in
theorem fnP {x qual : Str} {st : Stmt} {f : Addr} {fd : FuncData} {N ps : List Str} {k n : Nat} {mf : List PV → Res PV} (F : Fun K x qual st f fd) (S : FnScope N ps (defScope st)) (hn : ps.length = n) (tk : Takn n mf)
    (h : ∀ (cdv : Value) (A : Around) (outer : List Env) (s : Shared) (H : Hp) (E : XK), Room k (A.deeper (envOfC qual (defScope st) s.heap.objs.size f cdv)) → ∀ qs : List PV, qs.length = n →
      ∃ t, PSs (cxOf (L2.CX P w) P w K mg base N qual (defScope st) f cdv A outer s H E) (defBody st) t ∧ ∃ M, Runs K cl (fun c d _ H' => E c d H') t (qs.map Slot.fz ++ uns (N.length - n)) M (fun _ : Unit => uns N.length) (fun l : Empty => nomatch l) (uns N.length) ∧ mf qs = retF M) :
    FnOk P w K mg base (L2.CX P w) (k + 1) f fd ps (spP K cl mf) := by
  have len : ∀ vs H Q E, spP K cl mf vs H Q E → vs.length = n := fun vs H Q E ⟨O, qs, hO, hl, hw⟩ => by
    rw [hl.len]
    refine Classical.byContradiction fun c => ?_
    rw [tk qs c] at hw
    exact hw
  refine F.okX S (fun vs H Q E h => (len vs H Q E h).trans hn.symm) (fun cdv A outer s H vs Q E hr hsp => ?_)
  have hvn := len vs H Q E hsp
  obtain ⟨O, qs, hO, hl, hw⟩ := hsp
  have hqn : qs.length = n := by rw [← hl.len]; exact hvn
  obtain ⟨t, ht, M, hM, e⟩ := h cdv A outer s H E hr qs hqn
  refine ⟨t, ht, ?_⟩
  rw [e] at hw
  have st0 : L2.start N vs = vs.map some ++ List.replicate (N.length - n) none := by unfold L2.start; rw [hvn]
  rw [st0]
  have R : Rel K cl O [] (qs.map Slot.fz ++ uns (N.length - n)) (vs.map some ++ List.replicate (N.length - n) none) H :=
    ⟨by rw [fz_adr, List.append_nil]; exact fz_rel _ hl, by rw [fz_adr]; exact List.nodup_nil, hO, by rw [fz_owa]; exact fun _ z => nomatch z⟩
  have sub : ∀ {A' : List Addr} {H' : Hp}, Gr (adr (qs.map Slot.fz ++ uns (N.length - n)) (vs.map some ++ List.replicate (N.length - n) none)) H A' H' → Sub H H' := fun {A' H'} g x o e => g.1 x o (by rw [fz_adr]; exact fun z => nomatch z) e
  refine hM O [] _ H _ R (fun _ z => nomatch z) (wp_mono (wp_bind.mp hw) (fun fl q => ?_) fun c q C σ' H' e g _ => q C H' e (sub g))
  cases fl with
  | nx s => exact fun σ' H' g R' => q .non H' (sub g) .non
  | rt v r => exact fun w' H' g i _ => q w' H' (sub g) i
  | ro mo r => exact q.elim
  | bk l => exact nomatch l
  | ct l => exact nomatch l
end
section
variable {K : PySem.W.Frag} {cl : Str → Option Addr} {W Wo : WX} {bs O A A1 B : List Addr} {F H H' H1 : Hp} {ρ ρ' ρx ρh : Ro} {σ : St} {S S1 L : Type} {ρn : S → Ro} {ρj : S1 → Ro} {ρl : L → Ro} {D : Ends} {t u v tb : TS} {te ta tc td : TE} {m ma mb mc md : Res PV} {tr : TA} {ml : Res (List PV)} {mf : List PV → Res PV}
theorem pu_call (hl : PurL K cl W tr ρ ml) : Pur K cl W (tCallS (spP K cl mf) (WE W) tr) ρ (ml >>= mf) := fun O bs σ H Q R q => by
  refine hl O bs σ H _ R (wp_mono (wp_bind.mp q) (fun ps qs vs H1 s1 i1 => ?_) fun _ z => z)
  exact ⟨O ++ adr ρ σ, ps, fun a h => (R.same s1).got h, i1, wp_mono qs (fun r qr v H' s i => qr v H' (s1.trans s) i) fun c qc C H' e s => qc C H' e (s1.trans s)⟩
theorem pu_call1 {f : PV → Res PV} (ha : Pur K cl W ta ρ ma) : Pur K cl W (tCallS (spP K cl (ap1 f)) (WE W) (tCons ta tNil)) ρ (ma >>= f) := fun O bs σ H Q R q =>
  pu_call (mf := ap1 f) (pl_cons ha pl_nil) O bs σ H Q R (by cases ma <;> exact q)
theorem pu_call2 {f : PV → PV → Res PV} (ha : Pur K cl W ta ρ ma) (hb : Pur K cl W te ρ m) : Pur K cl W (tCallS (spP K cl (ap2 f)) (WE W) (tCons ta (tCons te tNil))) ρ (ma >>= fun x => m >>= fun y => f x y) := fun O bs σ H Q R q =>
  pu_call (mf := ap2 f) (pl_cons ha (pl_cons hb pl_nil)) O bs σ H Q R (by cases ma <;> cases m <;> exact q)
theorem pu_call3 {f : PV → PV → PV → Res PV} (ha : Pur K cl W ta ρ ma) (hb : Pur K cl W te ρ m) (hc : Pur K cl W tc ρ mc) : Pur K cl W (tCallS (spP K cl (ap3 f)) (WE W) (tCons ta (tCons te (tCons tc tNil)))) ρ (ma >>= fun x => m >>= fun y => mc >>= fun z => f x y z) := fun O bs σ H Q R q =>
  pu_call (mf := ap3 f) (pl_cons ha (pl_cons hb (pl_cons hc pl_nil))) O bs σ H Q R (by cases ma <;> cases m <;> cases mc <;> exact q)
theorem pu_call4 {f : PV → PV → PV → PV → Res PV} (ha : Pur K cl W ta ρ ma) (hb : Pur K cl W te ρ m) (hc : Pur K cl W tc ρ mc) (hd : Pur K cl W td ρ md) : Pur K cl W (tCallS (spP K cl (ap4 f)) (WE W) (tCons ta (tCons te (tCons tc (tCons td tNil))))) ρ (ma >>= fun x => m >>= fun y => mc >>= fun z => md >>= fun z' => f x y z z') := fun O bs σ H Q R q =>
  pu_call (mf := ap4 f) (pl_cons ha (pl_cons hb (pl_cons hc (pl_cons hd pl_nil)))) O bs σ H Q R (by cases ma <;> cases m <;> cases mc <;> cases md <;> exact q)
theorem pu_call5 {f : PV → PV → PV → PV → PV → Res PV} {t5 : TE} {m5 : Res PV} (ha : Pur K cl W ta ρ ma) (hb : Pur K cl W te ρ m) (hc : Pur K cl W tc ρ mc) (hd : Pur K cl W td ρ md) (h5 : Pur K cl W t5 ρ m5) : Pur K cl W (tCallS (spP K cl (ap5 f)) (WE W) (tCons ta (tCons te (tCons tc (tCons td (tCons t5 tNil)))))) ρ (ma >>= fun x => m >>= fun y => mc >>= fun z => md >>= fun z' => m5 >>= fun z5 => f x y z z' z5) := fun O bs σ H Q R q =>
  pu_call (mf := ap5 f) (pl_cons ha (pl_cons hb (pl_cons hc (pl_cons hd (pl_cons h5 pl_nil))))) O bs σ H Q R (by cases ma <;> cases m <;> cases mc <;> cases md <;> cases m5 <;> exact q)
/-- calls by keywords: the wish doesn't hang on the slots -/
theorem pu_callK {E : XK} {tk : TA} {mk : Res (List PV)} {gV : List V → List V → List V} {gP : List PV → List PV → List PV} (hg : ∀ {F : Hp} {vs : List V} {ps : List PV} {ws : List V} {qs : List PV}, IsL K cl F vs ps → IsL K cl F ws qs → IsL K cl F (gV vs ws) (gP ps qs))
    (hl : PurL K cl (fun c d _ H => E c d H) tr ρ ml) (hk : PurL K cl (fun c d _ H => E c d H) tk ρ mk) : Pur K cl (fun c d _ H => E c d H) (tCallK (spP K cl mf) gV E tr tk) ρ (ml >>= fun ps => mk >>= fun qs => mf (gP ps qs)) := fun O bs σ H Q R q => by
  refine hl O bs σ H _ R (wp_mono (wp_bind.mp q) (fun ps q1 vs H1 s1 i1 => ?_) fun _ z => z)
  refine hk O bs σ H1 _ (R.same s1) (wp_mono (wp_bind.mp q1) (fun qs q2 ws H2 s2 i2 => ?_) fun _ z => z.mono s1)
  have s12 := s1.trans s2
  exact ⟨O ++ adr ρ σ, gP ps qs, fun a h => (R.same s12).got h, hg (i1.mono (frz_same s2)) i2, wp_mono q2 (fun r qr v H' s i => qr v H' (s12.trans s) i) fun c qc C H' e s => qc C H' e (s12.trans s)⟩
/-! errors -/
theorem run_raise {c : Str} {C : Addr} (hc : cl c = some C) (w : Wk ρ ρx) : Runs (S := S) (L := L) K cl W (tSeq (fun _ σ H => (fun (_ : St) (H : Hp) (Q : XK) => Q (.ref C) none H) σ H fun cls d H' => W cls d σ H') u) ρ (.exc c) ρn ρl ρx := fun O bs σ H D R hb q =>
  q C σ H hc (Gr.wk w) (R.wk w)
def tryF {α : Type} (M : Res α) (hit : Str → Option Bool) (h : Res α) : Res α := match M with
  | .exc c => match hit c with
    | some true => noX h
    | some false => .exc c
    | none => .stuck
  | x => x
theorem run_try {c : Value} {ts : Addr → Value → Option Addr → TS} {tb : WX → TS} {M Mh : Res (Fl S L)} {hit : Str → Option Bool} (hm : ∀ c' C b, cl c' = some C → hit c' = some b → PySem.W.exmOne K (.ref C) c = some b) (w : Wk ρh ρx) (hb : ∀ W', Runs K cl W' (tb W') ρ M ρn ρl ρh)
    (hh : ∀ a cls d, Runs K cl (fun _ _ _ _ => False) (ts a cls d) ρh Mh ρn ρl ρx) : Runs K cl W (fun D σ H => tb (wOnly K c ts W D) D σ H) ρ (tryF M hit Mh) ρn ρl ρx := fun O bs σ H D R hbs q => by
  refine hb _ O bs σ H D R hbs ?_
  cases M with
  | val f => exact q
  | stuck => exact q
  | exc c' =>
    intro C σ' H' e g R'
    replace q : wp (match hit c' with | some true => noX Mh | some false => Res.exc c' | none => .stuck) (FlOk K cl O bs ρn ρl D (adr ρ σ) H) (ExOk K cl W O bs ρx (adr ρ σ) H) := q
    cases hc : hit c' with
    | none => rw [hc] at q; exact q.elim
    | some b =>
      rw [hc] at q
      refine ⟨b, hm c' C b e hc, fun hy a _ => ?_, fun hn => ?_⟩
      · subst hy
        exact hh a _ _ O bs σ' H' D R' hbs (wp_mono (wp_noX (E' := fun _ => False) q) (fun f z => z.step g) fun _ z => z.elim)
      · subst hn
        have q' : ExOk K cl W O bs ρx (adr ρ σ) H c' := q
        exact q' C σ' H' e (g.trans (Gr.wk w)) (R'.wk w)
/-! fields -/
def fldP (cs : List Str) (f : Str) : PV → Res PV
  | .ins C fs => if C ∈ cs then match fs.lookup f with
    | some p => .val p
    | none => .stuck
    else .stuck
  | _ => .stuck
theorem pu_fld {cs : List Str} {f : Str} (hF : ∀ C, C ∈ cs → ∀ c, cl C = some c → Cls K c ∧ NoAttr K c f) (ha : Vw K cl W ta ρ ma) : Pur K cl W (tFld K ta f) ρ (ma >>= fldP cs f) := fun O bs σ H Q R q => by
  refine ha O bs σ H _ R (wp_mono (wp_bind.mp q) (fun x qx v1 H1 s1 i1 => ?_) fun _ z => z)
  unfold fldP at qx
  split at qx
  · next C fs =>
    split at qx
    · next hC =>
      split at qx
      · next p e =>
        cases i1 with
        | ins hc h l =>
          obtain ⟨v, e2, iv⟩ := l.look e
          obtain ⟨c1, c2⟩ := hF C hC _ hc
          exact ⟨_, _, _, _, v, rfl, frz_sub _ _ h, c1, c2, e2, qx v H1 s1 iv⟩
      · exact qx.elim
    · exact qx.elim
  · exact qx.elim
/-! slices -/
def partP : PV → Res Int
  | .int i => .val i
  | _ => .stuck
def PrtO (K : PySem.W.Frag) (cl : Str → Option Addr) (W : WX) (t : TO) (ρ : Ro) (m : Res (Option Int)) : Prop := ∀ (O bs : List Addr) (σ : St) (H : Hp) (Q : Option Int → Hp → Prop), Rel K cl O bs ρ σ H →
  wp m (fun r => ∀ H', Sub H H' → Q r H') (XW cl W σ H) → t σ H Q
theorem pr_none : PrtO K cl W tNoPart ρ (.val none) := fun O bs σ H Q R q => q H .refl
theorem pr_some (ha : Vw K cl W ta ρ ma) : PrtO K cl W (tPart ta) ρ (ma >>= partP >>= fun i => .val (some i)) := fun O bs σ H Q R q => by
  rw [wp_bind, wp_bind] at q
  refine ha O bs σ H _ R (wp_mono q (fun x qx v1 H1 s1 i1 => ?_) fun _ z => z)
  unfold partP at qx
  split at qx
  · cases isV_int i1; exact ⟨_, rfl, qx H1 s1⟩
  · exact qx.elim
def cutP (xs : List PV) (lo hi : Option Int) : List PV := (xs.drop (HT.sIx xs.length 0 lo)).take (HT.sIx xs.length xs.length hi - HT.sIx xs.length 0 lo)
theorem IsL.cut {vs : List V} {ps : List PV} (h : IsL K cl F vs ps) (lo hi : Option Int) : IsL K cl F (cutV vs lo hi) (cutP ps lo hi) := by
  unfold cutV cutP
  rw [h.len]
  exact (h.drop _).take _
def slP (p : PV) (lo hi : Option Int) : Res PV := match p with
  | .tup ps => .val (.tup (cutP ps lo hi))
  | .lst ps => .val (.lst (cutP ps lo hi))
  | .fls ps => .val (.lst (cutP ps lo hi))
  | _ => .stuck
def rSlV (K : PySem.W.Frag) : V → Option Int → Option Int → Hp → VK → Prop := sOr (rSlL K) (rSlA K)
theorem sl_V (K : PySem.W.Frag) {X : Cx} (e : X.K = K) : SlR X (rSlV K) := by subst e; exact sl_list.or sl_tupA
theorem cut_all {vs : List V} {lo hi : Option Int} (h : HT.sIx vs.length 0 lo = 0 ∧ HT.sIx vs.length vs.length hi = vs.length) : cutV vs lo hi = vs := by
  unfold cutV
  rw [h.1, h.2, Nat.sub_zero, List.drop_zero, List.take_length]
theorem pu_sl {tl th : TO} {mlo mhi : Res (Option Int)} (ha : Vw K cl W ta ρ ma) (hl : PrtO K cl W tl ρ mlo) (hh : PrtO K cl W th ρ mhi) : Pur K cl W (tSl (rSlV K) ta tl th) ρ (ma >>= fun x => mlo >>= fun l => mhi >>= fun h => slP x l h) := fun O bs σ H Q R q => by
  refine ha O bs σ H _ R (wp_mono (wp_bind.mp q) (fun x qx v1 H1 s1 i1 => ?_) fun _ z => z)
  refine hl O bs σ H1 _ (R.same s1) (wp_mono (wp_bind.mp qx) (fun l ql H2 s2 => ?_) fun _ z => z.mono s1)
  have s12 := s1.trans s2
  refine hh O bs σ H2 _ (R.same s12) (wp_mono (wp_bind.mp ql) (fun h qh H3 s3 => ?_) fun _ z => z.mono s12)
  have s13 := s12.trans s3
  have R3 := R.same s13
  have i3 := i1.mono (frz_same (A := O ++ adr ρ σ) (s2.trans s3)) (s2.trans s3)
  unfold slP at qh
  split at qh
  · cases i3 with
    | tup hs hl =>
    refine .inr ⟨_, _, rfl, frz_sub.sqT hs, fun e => ?_, fun _ p hp => qh _ _ (s13.trans (sub_new hp _)) (new_tup (fun a h => R3.got h) hp (hl.cut _ _))⟩
    refine qh _ H3 s13 (.tup hs ?_)
    have := hl.cut l h
    rwa [cut_all e] at this
  · obtain ⟨a, vs, rfl, hs, hl⟩ := i3
    exact .inl ⟨a, vs, rfl, .inl (.inl hs), fun p hp => qh _ _ (s13.trans (sub_new hp _)) (new_lst (fun a h => R3.got h) hp (hl.cut _ _))⟩
  · cases i3 with
    | fls hs hl => exact .inl ⟨_, _, rfl, frz_sub.sqL hs, fun p hp => qh _ _ (s13.trans (sub_new hp _)) (new_lst (fun a h => R3.got h) hp (hl.cut _ _))⟩
  · exact qh.elim
end
/-! ### errors of one's own, made without arguments -/
section
open PySem.Spec PyProof.Rows
variable {X : Cx}
theorem pmk_own0 {C : Addr} {bmB : List Value} {B newId initId : String} {x : Str} {p pos : Pos} (F : ExcBaseFacts B newId initId bmB) (q : PySem.W.excIn X.K C bmB newId = true) (gC : X.mg x = some (.ref C))
    (kC : PySem.W.keepIn X.K (.ref C) = true) (r : Raises X (.ref C)) (hg : Gl X x) (hdb : (x == ("__debug__" : Str)) = false := by decide) :
    PMk X (.Call (.Name x p) [] [] pos) (fun _ H Q => Q (.ref C) none H) := by
  intro pins s σ H Q I h
  refine wpAny_Call_Name_kw (ld_glob I hg gC ?_ hdb)
  refine PySem.W.callWith_K0 (first := []) I.kIn kC ?_
  show wpAny _ _ (call (.ref C) []) _ _ _
  have X0 := I.kIn
  obtain ⟨bm, N, nm, qn, bs, hdct, sn, sub, ab, col, dd, k0, k1, k2, k3, k5, mN, hC, hN, hni, T⟩ := exc_obj X0 q
  refine wpAny_call_exc_subT F T hC hN hni (fun h' e hm => ?_) (Nat.zero_le _)
  exact mk_of I hm r h (I.hok.gone hm.new)
theorem pss_given {st : List Stmt} {t : TS} {φ : Prop} (h : φ → PSs X st t) : PSs X st (fun D σ H => φ ∧ t D σ H) := ⟨fun pins s σ H D I q => (h q.1).run pins s σ H D I q.2⟩
end
theorem kit_own {K : PySem.W.Frag} {D C : Addr} {b : Bool} (i : PySem.W.isClsIn K C = true) (t : PySem.W.typeIn K (.ref C) = some (.type "type")) (s : PySem.W.subIn K (.ref D) (.ref C) = some b) (h : D = C → b = true) : PySem.W.kitOne K (.ref D) (.ref C) = some b := by
  unfold PySem.W.kitOne
  by_cases e : D = C
  · rw [if_pos (by rw [e]; exact beq_self_eq_true _), h e]
  · have ne : (Value.ref D == Value.ref C) = false := beq_eq_false_iff_ne.mpr (fun z => e (Value.ref.inj z))
    rw [if_neg (by rw [ne]; exact Bool.false_ne_true)]
    show (if ((PySem.W.clsIn K C).isSome && PySem.W.typeIn K (.ref C) == some (.type "type")) = true then PySem.W.subIn K (.ref D) (.ref C) else none) = some b
    have i' : (PySem.W.clsIn K C).isSome = true := i
    rw [i', t, if_pos (by rfl)]
    exact s
theorem kit_val {K : PySem.W.Frag} {D : Addr} {b : Bool} (s : PySem.W.subIn K (.ref D) (.type "ValueError") = some b) : PySem.W.kitOne K (.ref D) (.type "ValueError") = some b := by
  unfold PySem.W.kitOne
  have ne : (Value.ref D == Value.type "ValueError") = false := beq_eq_false_iff_ne.mpr (fun z => nomatch z)
  rw [if_neg (by rw [ne]; exact Bool.false_ne_true)]
  show (if PySem.W.kitMeta "ValueError" = true then PySem.W.subIn K (.ref D) (.type "ValueError") else none) = some b
  rw [if_pos (by decide +kernel)]
  exact s
/-! ### calls by keywords alone -/
section
open PySem.Spec PyProof.Rows
variable {X : Cx} {CX : CXT} {k : Nat} {f : Addr} {fd : FuncData} {ps ks : List Str} {sp : Sp} {E : XK} {x : Str} {p pos : Pos} {kws : List Keyword} {tk : TA} {g : List Value → List Value → List Value} {gV : List V → List V → List V}
theorem pe_callK0 (F : FnOk X.prog X.w X.K X.mg X.base CX k f fd ps sp) (hr : Room k X.A) (hg : Gl X x) (hm : X.mg x = some (.ref f)) (hk : PySem.W.keepIn X.K (.ref f) = true) (hb : KBinds X.K fd ps ks g gV) (hx : Passes CX X E)
    (hkw : PK X kws tk) (hall : (backToKw pos (keywordEach kws X.env)).all (·.1.isSome) = true := by rfl) (hks : (backToKw pos (keywordEach kws X.env)).filterMap (·.1) = ks := by rfl)
    (hdb : (x == ("__debug__" : Str)) = false := by decide)
    (hpl : ((backTo pos (starEach [] X.env)).any (·.1) || (backToKw pos (keywordEach kws X.env)).any (·.1.isNone)) = false := by rfl) :
    PE X (.Call (.Name x p) [] kws pos) (tCallK sp gV E tNil tk) := by
  refine ⟨fun pins s σ H Q I h => ?_⟩
  refine wpAny_Call_Name_kw (ld_glob I hg hm ?_ hdb)
  refine PySem.W.callWith_KW0 (h₀ := X.base) I.ok.mod.kin hk hall ?_ hpl
  refine thn (hkw.run pos pins s σ H _ I h) fun ws s2 ⟨zs, H2, I2, rz, q2⟩ => ⟨I2.kIn, ?_⟩
  rw [hks]
  exact run_fnk (us := []) (vs := []) F hr hb hx I2 .nil rz q2
end
theorem fun_kbinds {K : PySem.W.Frag} {x qual : Str} {st : Stmt} {f : Addr} {fd : FuncData} {ps ks : List Str} {g : List Value → List Value → List Value} {gV : List V → List V → List V} (F : Fun K x qual st f fd)
    (hrel : ∀ {vs : List V} {us : List Value} {zs : List V} {ws : List Value}, Vals vs us → Vals zs ws → Vals (gV vs zs) (g us ws))
    (h : ∀ (kV doc pm : Value) (an : Option Addr) (cdv ct : Value) (us ws : List Value), (g us ws).length = ps.length → bindArgs (PySem.W.fnOf x qual (defArgs st) (defBody st) (defScope st) .none kV doc pm an cdv ct) ⟨us, ks.zip ws⟩ = pure (ps.zip (g us ws))) : KBinds K fd ps ks g gV := by
  obtain ⟨oc, od, kV, doc, pm, an, cdv, ct, osl, rfl, lk, hcd⟩ := F.ex
  exact ⟨fun s us ws _ hl => .of_eq (h kV doc pm an cdv ct us ws hl), hrel⟩
/-! ### rules that name the fragment -/
section
variable {X : Cx}
theorem op_eqV (K : PySem.W.Frag) (e : X.K = K) (hu : X.A.units + 64 < cLine) : OpR X (compareOp .Eq) (rEqD K) := by subst e; exact op_eqD hu
theorem op_neV (K : PySem.W.Frag) (e : X.K = K) (hu : X.A.units + 64 < cLine) : OpR X (compareOp .NotEq) (rNeD K) := by subst e; exact op_neD hu
theorem op_inV (K : PySem.W.Frag) (e : X.K = K) : OpR X (compareOp .In) (rIn K false) := by subst e; exact op_in_seq
theorem op_notInV (K : PySem.W.Frag) (e : X.K = K) : OpR X (compareOp .NotIn) (rIn K true) := by subst e; exact op_notIn_seq
theorem call_isiV (K : PySem.W.Frag) (e : X.K = K) : CallR X (.builtin "isinstance") (rIsi K) := by subst e; exact call_isi
theorem cr_sumV (K : PySem.W.Frag) (e : X.K = K) (hc : X.calm = true) : CallR X (.builtin "sum") (rSum K) := by subst e; exact cr_sum hc
theorem cr_allV (K : PySem.W.Frag) (e : X.K = K) (hc : X.calm = true) : CallR X (.builtin "all") (rAll K) := by subst e; exact cr_all hc
theorem cr_anyV (K : PySem.W.Frag) (e : X.K = K) (hc : X.calm = true) : CallR X (.builtin "any") (rAny K) := by subst e; exact cr_any hc
theorem call_intV : CallR X (.type "int") rIntV := call_int1
theorem call_boolV : CallR X (.type "bool") rBoolV := call_bool1
theorem pi_listV (K : PySem.W.Frag) {tg l : Expr} {tl : TE} (e : X.K = K) (hl : PE X l tl) : PI X tg l (iList K tl) := by subst e; exact pi_list hl
theorem pi_zipV (K : PySem.W.Frag) (ek : X.K = K) {e e2 : Expr} {ta : TA} {p pos tpos : Pos} {elts : List Expr} {kk : Nat} (hg : Gl X "zip") (hm : X.mg "zip" = none) (ha : PA X [e, e2] ta)
    (hs : starEach [e, e2] X.env = (false, eval e X.env) :: starEach [e2] X.env := by rfl) (hpl : (backTo pos (starEach [e2] X.env)).any (·.1) = false := by rfl) :
    PI X (.Tuple elts kk tpos) (.Call (.Name "zip" p) [e, e2] [] pos) (RZ.iZipA K ta) := by subst ek; exact RZ.pi_zipA hg hm ha hs hpl
theorem pi_enumV (K : PySem.W.Frag) (ek : X.K = K) {e : Expr} {ta : TA} {p pos tpos : Pos} {elts : List Expr} {kk : Nat} (hg : Gl X "enumerate") (hm : X.mg "enumerate" = none) (ha : PA X [e] ta) (hs : starEach [e] X.env = [(false, eval e X.env)] := by rfl) :
    PI X (.Tuple elts kk tpos) (.Call (.Name "enumerate" p) [e] [] pos) (iEnum K ta) := by subst ek; exact pi_enum hg hm ha hs
theorem pe_fldV (K : PySem.W.Frag) (ek : X.K = K) {e : Expr} {ta : TE} {f : Str} {pos : Pos} (he : PE X e ta) (hb : attributeBase e f X.env (eval e X.env) = eval e X.env) : PE X (.Attribute e f pos) (tFld K ta f) := by subst ek; exact pe_fld he hb
theorem pe_gint {x : Str} {n : Int} {pos : Pos} (hg : Gl X x) (h : ∃ t, X.mg x = some (.int n t)) (hd : (x == ("__debug__" : Str)) = false := by decide) : PE X (.Name x pos) (tC (.int n)) := by
  obtain ⟨t, h⟩ := h
  exact pe_glob hg h ⟨t, rfl⟩ hd
end
/-- as many turns as a while may take -/
def FUEL : Nat := 1000000
open PySem.Spec PyProof.Rows in
theorem fn_stuck {P : Program} {w : World} {K : PySem.W.Frag} {mg : Str → Option Value} {base : Heap} {CX : CXT} {cl : Str → Option Addr} {k : Nat} {f : Addr} {fd : FuncData} {ps : List Str} {mf : List PV → Res PV} (h : ∀ qs, mf qs = .stuck) : FnOk P w K mg base CX k f fd ps (spP K cl mf) := by
  refine ⟨fun vs H Q E ⟨O, qs, _, _, hw⟩ => ?_, fun A outer s H args us vs Q E _ _ _ _ ⟨O, qs, _, _, hw⟩ => ?_⟩
  · rw [h] at hw; exact hw.elim
  · rw [h] at hw; exact hw.elim
theorem stuck1 : ∀ qs, ap1 (fun _ => (.stuck : Res PV)) qs = .stuck := fun qs => by unfold ap1; split <;> rfl
theorem stuck2 : ∀ qs, ap2 (fun _ _ => (.stuck : Res PV)) qs = .stuck := fun qs => by unfold ap2; split <;> rfl
theorem stuck3 : ∀ qs, ap3 (fun _ _ _ => (.stuck : Res PV)) qs = .stuck := fun qs => by unfold ap3; split <;> rfl
theorem stuck4 : ∀ qs, ap4 (fun _ _ _ _ => (.stuck : Res PV)) qs = .stuck := fun qs => by unfold ap4; split <;> rfl
theorem stuck5 : ∀ qs, ap5 (fun _ _ _ _ _ => (.stuck : Res PV)) qs = .stuck := fun qs => by unfold ap5; split <;> rfl
theorem stuck6 : ∀ qs, ap6 (fun _ _ _ _ _ _ => (.stuck : Res PV)) qs = .stuck := fun qs => by unfold ap6; split <;> rfl
theorem stuck7 : ∀ qs, ap7 (fun _ _ _ _ _ _ _ => (.stuck : Res PV)) qs = .stuck := fun qs => by unfold ap7; split <;> rfl
/-! ### expressions that change what is owned or lent: a state of contents is threaded -/
section
variable (K : PySem.W.Frag) (cl : Str → Option Addr)
def Eff {S : Type} (t : TE) (ρs : S → Ro) (m : S → Res (PV × S)) : Prop := ∀ (s : S) (O bs : List Addr) (σ : St) (H : Hp) (Q : VK), Rel K cl O bs (ρs s) σ H → (∀ b, b ∈ bs → b ∈ O) →
  wp (m s) (fun r => ∀ v H', Gr (adr (ρs s) σ) H (adr (ρs s) σ) H' → Rel K cl O bs (ρs r.2) σ H' → adr (ρs r.2) σ = adr (ρs s) σ → Is K cl (frz H' (O ++ adr (ρs s) σ)) v r.1 → Q v H') (fun _ => False) → t σ H Q
def EffL {S : Type} (t : TA) (ρs : S → Ro) (m : S → Res (List PV × S)) : Prop := ∀ (s : S) (O bs : List Addr) (σ : St) (H : Hp) (Q : List V → Hp → Prop), Rel K cl O bs (ρs s) σ H → (∀ b, b ∈ bs → b ∈ O) →
  wp (m s) (fun r => ∀ vs H', Gr (adr (ρs s) σ) H (adr (ρs s) σ) H' → Rel K cl O bs (ρs r.2) σ H' → adr (ρs r.2) σ = adr (ρs s) σ → IsL K cl (frz H' (O ++ adr (ρs s) σ)) vs r.1 → Q vs H') (fun _ => False) → t σ H Q
def EffT {S : Type} (t : TT) (ρs : S → Ro) (m : S → Res (Bool × S)) : Prop := ∀ (s : S) (O bs : List Addr) (σ : St) (H : Hp) (Q : Bool → Hp → Prop), Rel K cl O bs (ρs s) σ H → (∀ b, b ∈ bs → b ∈ O) →
  wp (m s) (fun r => ∀ H', Gr (adr (ρs s) σ) H (adr (ρs s) σ) H' → Rel K cl O bs (ρs r.2) σ H' → adr (ρs r.2) σ = adr (ρs s) σ → Q r.1 H') (fun _ => False) → t σ H Q
def EffI {S : Type} (wi : TI) (ρs : S → Ro) (m : S → Res (List PV × S)) : Prop := ∀ (s : S) (O bs : List Addr) (σ : St) (H : Hp) (R : It → Hp → Prop), Rel K cl O bs (ρs s) σ H → (∀ b, b ∈ bs → b ∈ O) →
  wp (m s) (fun r => ∀ J H', Gr (adr (ρs s) σ) H (adr (ρs s) σ) H' → Rel K cl O bs (ρs r.2) σ H' → adr (ρs r.2) σ = adr (ρs s) σ → ItOk K cl (fun _ => True) (frz H' (O ++ adr (ρs s) σ)) J r.1 → R J H') (fun _ => False) → wi σ H R
/-- a def that is lent one list or dict, its first argument -/
def spR (mf : MO → List PV → Res (PV × MO)) : Sp := fun vs H Q _ => ∃ O b mo us ps, vs = .ref b :: us ∧ b ∈ O ∧ (∀ a, a ∈ O → ∃ o, H a = some o) ∧ MoIs K cl (frz H O) H b mo ∧ IsL K cl (frz H O) us ps ∧
  wp (mf mo ps) (fun r => ∀ v H', (∀ x o, x ≠ b → H x = some o → H' x = some o) → MoIs K cl (frz H' O) H' b r.2 → Is K cl (frz H' O) v r.1 → Q v H') (fun _ => False)
/-- a def that gives a new list or dict -/
def spN (mf : List PV → Res MO) : Sp := fun vs H Q _ => ∃ O ps, (∀ a, a ∈ O → ∃ o, H a = some o) ∧ IsL K cl (frz H O) vs ps ∧
  wp (mf ps) (fun mo => ∀ p H', Sub H H' → H p = none → MoIs K cl (frz H' (p :: O)) H' p mo → Q (.ref p) H') (fun _ => False)
end
section
variable {K : PySem.W.Frag} {cl : Str → Option Addr} {W : WX} {bs O A A1 B : List Addr} {F H H' H1 : Hp} {ρ ρ' ρx ρh : Ro} {σ : St} {S S1 S2 L : Type} {ρs : S → Ro} {ρn : S1 → Ro} {ρj : S2 → Ro} {ρl : L → Ro} {D : Ends} {t u v tb : TS} {te ta tc td : TE} {m : S → Res PV} {ma mb mc md : S → Res (PV × S)} {tr : TA} {ml mk : S → Res (List PV × S)}
theorem Gr.eq {A A' : List Addr} (g : Gr A H A H1) (e : A' = A) : Gr A H A' H1 := by rw [e]; exact g
theorem ef_pure (h : ∀ s, Pur K cl W te (ρs s) (m s)) : Eff K cl te ρs (fun s => noX (m s) >>= fun v => .val (v, s)) := fun s O bs σ H Q R hb q => by
  refine h s O bs σ H Q R (wp_mono (wp_noX (E' := fun _ => False) (wp_bind.mp q)) (fun r qr v H' s' i => ?_) fun _ z => z.elim)
  exact qr v H' (Gr.of s') (R.same s') rfl i
theorem ef_op {r : R2} {f : PV → PV → Res PV} (ho : Op2 K cl r f) (ha : Eff K cl ta ρs ma) (hb' : Eff K cl tc ρs mb) : Eff K cl (tOp r ta tc) ρs (fun s => ma s >>= fun x => mb x.2 >>= fun y => noX (f x.1 y.1) >>= fun z => .val (z, y.2)) := fun s O bs σ H Q R hb q => by
  refine ha s O bs σ H _ R hb (wp_mono (wp_bind.mp q) (fun x qx v1 H1 g1 R1 e1 i1 => ?_) fun _ z => z)
  refine hb' x.2 O bs σ H1 _ R1 hb (wp_mono (wp_bind.mp qx) (fun y qy v2 H2 g2 R2 e2 i2 => ?_) fun _ z => z)
  rw [e1] at g2 i2
  have i1' := i1.mono (g2.sub R1.al)
  have hA : ∀ a, a ∈ O ++ adr (ρs s) σ → ∃ o, H2 a = some o := fun a h => R2.got (by rw [e2, e1]; exact h)
  refine ho _ H2 v1 v2 x.1 y.1 _ (fun _ => False) hA (i1'.view frz_sub) (i2.view frz_sub) (wp_mono (wp_noX (E' := fun _ => False) (wp_bind.mp qy)) (fun z qz v H' s iz => ?_) fun _ z => z)
  exact qz v H' ((g1.trans g2).trans (Gr.of s)) (R2.same s) (e2.trans e1) iz
theorem ef_un {r : V → Hp → VK → Prop} {f : PV → Res PV} (ho : Op1 K cl r f) (ha : Eff K cl ta ρs ma) : Eff K cl (tUn r ta) ρs (fun s => ma s >>= fun x => noX (f x.1) >>= fun z => .val (z, x.2)) := fun s O bs σ H Q R hb q => by
  refine ha s O bs σ H _ R hb (wp_mono (wp_bind.mp q) (fun x qx v1 H1 g1 R1 e1 i1 => ?_) fun _ z => z)
  have hA : ∀ a, a ∈ O ++ adr (ρs s) σ → ∃ o, H1 a = some o := fun a h => R1.got (by rw [e1]; exact h)
  exact ho _ H1 v1 x.1 _ (fun _ => False) hA (i1.view frz_sub) (wp_mono (wp_noX (E' := fun _ => False) (wp_bind.mp qx)) (fun z qz v H' s iz => qz v H' (g1.trans (Gr.of s)) (R1.same s) e1 iz) fun _ z => z)
theorem ef_cb1 {r : List V → Hp → VK → Prop} {f : PV → Res PV} (ho : Bi1 K cl r f) (ha : Eff K cl ta ρs ma) : Eff K cl (tCB r (tCons ta tNil)) ρs (fun s => ma s >>= fun x => noX (f x.1) >>= fun z => .val (z, x.2)) := ef_un (r := fun x H Q => r [x] H Q) ho ha
theorem ef_cb2 {r : List V → Hp → VK → Prop} {f : PV → PV → Res PV} (ho : Bi2 K cl r f) (ha : Eff K cl ta ρs ma) (hb' : Eff K cl tc ρs mb) : Eff K cl (tCB r (tCons ta (tCons tc tNil))) ρs (fun s => ma s >>= fun x => mb x.2 >>= fun y => noX (f x.1 y.1) >>= fun z => .val (z, y.2)) :=
  ef_op (r := fun x y H Q => r [x, y] H Q) ho ha hb'
theorem el_nil : EffL K cl tNil ρs (fun s => .val ([], s)) := fun s O bs σ H Q R hb q => q [] H .refl R rfl .nil
theorem el_cons (ha : Eff K cl ta ρs ma) (hl : EffL K cl tr ρs ml) : EffL K cl (tCons ta tr) ρs (fun s => ma s >>= fun x => ml x.2 >>= fun xs => .val (x.1 :: xs.1, xs.2)) := fun s O bs σ H Q R hb q => by
  refine ha s O bs σ H _ R hb (wp_mono (wp_bind.mp q) (fun x qx v1 H1 g1 R1 e1 i1 => ?_) fun _ z => z)
  refine hl x.2 O bs σ H1 _ R1 hb (wp_mono (wp_bind.mp qx) (fun xs qs vs H2 g2 R2 e2 i2 => ?_) fun _ z => z)
  rw [e1] at g2 i2
  exact qs _ H2 (g1.trans g2) R2 (e2.trans e1) (.cons (i1.mono (g2.sub R1.al)) i2)
theorem ef_tup (hl : EffL K cl tr ρs ml) : Eff K cl (tTup tr) ρs (fun s => ml s >>= fun xs => mkT xs.1 >>= fun z => .val (z, xs.2)) := fun s O bs σ H Q R hb q => by
  refine hl s O bs σ H _ R hb (wp_mono (wp_bind.mp q) (fun ps qs vs H1 g1 R1 e1 i1 => ?_) fun _ z => z)
  obtain ⟨z, qs⟩ := wp_sized (wp_bind.mp (wp_bind.mp qs))
  have hA : ∀ a, a ∈ O ++ adr (ρs s) σ → ∃ o, H1 a = some o := fun a h => R1.got (by rw [e1]; exact h)
  refine ⟨by rw [i1.len]; exact z, fun p hp => qs _ _ (g1.trans (Gr.of (sub_new hp _))) (R1.same (sub_new hp _)) e1 (new_tup hA hp i1)⟩
theorem ef_lst (hl : EffL K cl tr ρs ml) : Eff K cl (tLst tr) ρs (fun s => ml s >>= fun xs => mkL xs.1 >>= fun z => .val (z, xs.2)) := fun s O bs σ H Q R hb q => by
  refine hl s O bs σ H _ R hb (wp_mono (wp_bind.mp q) (fun ps qs vs H1 g1 R1 e1 i1 => ?_) fun _ z => z)
  obtain ⟨z, qs⟩ := wp_sized (wp_bind.mp (wp_bind.mp qs))
  have hA : ∀ a, a ∈ O ++ adr (ρs s) σ → ∃ o, H1 a = some o := fun a h => R1.got (by rw [e1]; exact h)
  refine ⟨by rw [i1.len]; exact z, fun p hp => qs _ _ (g1.trans (Gr.of (sub_new hp _))) (R1.same (sub_new hp _)) e1 (new_lst hA hp i1)⟩
theorem et_pure {mt : S → Res Bool} {c : TT} (h : ∀ s, Tst K cl W c (ρs s) (mt s)) : EffT K cl c ρs (fun s => noX (mt s) >>= fun b => .val (b, s)) := fun s O bs σ H Q R hb q =>
  h s O bs σ H Q R (wp_mono (wp_noX (E' := fun _ => False) (wp_bind.mp q)) (fun r qr H' s' => qr H' (Gr.of s') (R.same s') rfl) fun _ z => z.elim)
theorem et_val (ha : Eff K cl ta ρs ma) : EffT K cl (tB ta) ρs (fun s => ma s >>= fun x => asB x.1 >>= fun b => .val (b, x.2)) := fun s O bs σ H Q R hb q => by
  refine ha s O bs σ H _ R hb (wp_mono (wp_bind.mp q) (fun x qx v1 H1 g1 R1 e1 i1 => ?_) fun _ z => z)
  obtain ⟨b, e, qb⟩ := wp_asB (wp_bind.mp qx)
  rw [e] at i1
  cases i1
  exact ⟨b, rfl, qb H1 g1 R1 e1⟩
theorem et_cmp (ha : Eff K cl ta ρs ma) : EffT K cl (tTest ta) ρs (fun s => ma s >>= fun x => asB x.1 >>= fun b => .val (b, x.2)) := fun s O bs σ H Q R hb q => by
  refine ha s O bs σ H _ R hb (wp_mono (wp_bind.mp q) (fun x qx v1 H1 g1 R1 e1 i1 => ?_) fun _ z => z)
  obtain ⟨b, e, qb⟩ := wp_asB (wp_bind.mp qx)
  rw [e] at i1
  cases i1
  exact ⟨b, rfl, qb H1 g1 R1 e1⟩
variable {c1 c2 : TT} {n1 n2 : S → Res (Bool × S)}
theorem et_and (h1 : EffT K cl c1 ρs n1) (h2 : EffT K cl c2 ρs n2) : EffT K cl (tAnd c1 c2) ρs (fun s => n1 s >>= fun b => if b.1 = true then n2 b.2 else .val (false, b.2)) := fun s O bs σ H Q R hb q => by
  refine h1 s O bs σ H _ R hb (wp_mono (wp_bind.mp q) (fun b qb H1 g1 R1 e1 => ?_) fun _ z => z)
  obtain ⟨b, s1⟩ := b
  cases b with
  | true => exact h2 s1 O bs σ H1 _ R1 hb (wp_mono qb (fun c qc H2 g2 R2 e2 => qc H2 (g1.trans (by rw [e1] at g2; exact g2)) R2 (e2.trans e1)) fun _ z => z)
  | false => exact qb H1 g1 R1 e1
theorem et_or (h1 : EffT K cl c1 ρs n1) (h2 : EffT K cl c2 ρs n2) : EffT K cl (tOr c1 c2) ρs (fun s => n1 s >>= fun b => if b.1 = true then .val (true, b.2) else n2 b.2) := fun s O bs σ H Q R hb q => by
  refine h1 s O bs σ H _ R hb (wp_mono (wp_bind.mp q) (fun b qb H1 g1 R1 e1 => ?_) fun _ z => z)
  obtain ⟨b, s1⟩ := b
  cases b with
  | false => exact h2 s1 O bs σ H1 _ R1 hb (wp_mono qb (fun c qc H2 g2 R2 e2 => qc H2 (g1.trans (by rw [e1] at g2; exact g2)) R2 (e2.trans e1)) fun _ z => z)
  | true => exact qb H1 g1 R1 e1
theorem et_not (h1 : EffT K cl c1 ρs n1) : EffT K cl (tNot c1) ρs (fun s => n1 s >>= fun b => .val (!b.1, b.2)) := fun s O bs σ H Q R hb q =>
  h1 s O bs σ H _ R hb (wp_mono (wp_bind.mp q) (fun _ qb H1 g1 R1 e1 => qb H1 g1 R1 e1) fun _ z => z)
theorem ef_if (h1 : EffT K cl c1 ρs n1) (ha : Eff K cl ta ρs ma) (hb' : Eff K cl tc ρs mb) : Eff K cl (tIf c1 ta tc) ρs (fun s => n1 s >>= fun b => if b.1 = true then ma b.2 else mb b.2) := fun s O bs σ H Q R hb q => by
  refine h1 s O bs σ H _ R hb (wp_mono (wp_bind.mp q) (fun b qb H1 g1 R1 e1 => ?_) fun _ z => z)
  obtain ⟨b, s1⟩ := b
  cases b with
  | true => exact ha s1 O bs σ H1 _ R1 hb (wp_mono qb (fun c qc v H2 g2 R2 e2 i => qc v H2 (g1.trans (by rw [e1] at g2; exact g2)) R2 (e2.trans e1) (by rw [e1] at i; exact i)) fun _ z => z)
  | false => exact hb' s1 O bs σ H1 _ R1 hb (wp_mono qb (fun c qc v H2 g2 R2 e2 i => qc v H2 (g1.trans (by rw [e1] at g2; exact g2)) R2 (e2.trans e1) (by rw [e1] at i; exact i)) fun _ z => z)
/-- a pure def, its arguments with effects -/
theorem ef_call {mf : List PV → Res PV} (hl : EffL K cl tr ρs ml) : Eff K cl (tCallS (spP K cl mf) (WE W) tr) ρs (fun s => ml s >>= fun xs => noX (mf xs.1) >>= fun z => .val (z, xs.2)) := fun s O bs σ H Q R hb q => by
  refine hl s O bs σ H _ R hb (wp_mono (wp_bind.mp q) (fun ps qs vs H1 g1 R1 e1 i1 => ?_) fun _ z => z)
  have hA : ∀ a, a ∈ O ++ adr (ρs s) σ → ∃ o, H1 a = some o := fun a h => R1.got (by rw [e1]; exact h)
  refine ⟨O ++ adr (ρs s) σ, ps.1, hA, i1, wp_mono (wp_noX (E' := fun _ => False) (wp_bind.mp qs)) (fun r qr v H' s i => qr v H' (g1.trans (Gr.of s)) (R1.same s) e1 i) fun _ z => z.elim⟩
/-- a def that is lent the list or dict at slot i -/
theorem ef_callR {mf : MO → List PV → Res (PV × MO)} {i : Nat} {sl : S → Slot} {get : S → MO} {put : S → MO → Res S} (hi : ∀ s, (ρs s)[i]? = some (sl s)) (hs : ∀ s, sl s = .ow (get s) ∨ ∃ k, sl s = .rf k (get s)) (hp : ∀ s mo s', put s mo = .val s' → (ρs s).set i (reSl (sl s) mo) = ρs s') (hl : EffL K cl tr ρs ml) :
    Eff K cl (tCallS (spR K cl mf) (WE W) (tCons (tVar i) tr)) ρs (fun s => ml s >>= fun xs => mf (get xs.2) xs.1 >>= fun r => put xs.2 r.2 >>= fun s' => .val (r.1, s')) := fun s O bs σ H Q R hb q => by
  have ha : ∃ a, σ[i]? = some (some (.ref a)) := by
    obtain ⟨x, e, q⟩ := R.sl.get (hi s)
    rcases hs s with h | ⟨k, h⟩
    · rw [h] at q; obtain ⟨a, rfl, _⟩ := q; exact ⟨a, e⟩
    · rw [h] at q; obtain ⟨a, rfl, _⟩ := q; exact ⟨a, e⟩
  obtain ⟨a, ha⟩ := ha
  refine ⟨_, ha, hl s O bs σ H _ R hb (wp_mono (wp_bind.mp q) (fun ps qs vs H1 g1 R1 e1 i1 => ?_) fun _ z => z)⟩
  have hm : MoIs K cl (frz H1 (O ++ adr (ρs ps.2) σ)) H1 a (get ps.2) := by
    obtain ⟨x, e, q⟩ := R1.sl.get (hi ps.2)
    rw [ha] at e
    cases e
    rcases hs ps.2 with h | ⟨k, h⟩
    · rw [h] at q; obtain ⟨b, e, q⟩ := q; cases e; exact q
    · rw [h] at q; obtain ⟨b, e, _, q⟩ := q; cases e; exact q
  have ma : a ∈ adr (ρs ps.2) σ := adr_at (hi ps.2) ha ((hs ps.2).imp (fun h => ⟨_, h⟩) fun ⟨k, h⟩ => ⟨k, _, h⟩)
  rw [e1] at hm ma
  have hA : ∀ a, a ∈ O ++ adr (ρs s) σ → ∃ o, H1 a = some o := fun a h => R1.got (by rw [e1]; exact h)
  refine ⟨O ++ adr (ρs s) σ, a, get ps.2, vs, ps.1, rfl, List.mem_append_right _ ma, hA, hm, i1, wp_mono (wp_bind.mp qs) (fun r qr v H' hk hmo iv => ?_) fun _ z => z⟩
  obtain ⟨R2, g2⟩ := R1.putH (H2 := H') (m' := r.2) hk (MoIs.got hmo) (hi ps.2) (hs ps.2) ha (by rw [e1]; exact hmo)
  have e2 : adr ((ρs ps.2).set i (reSl (sl ps.2) r.2)) σ = adr (ρs ps.2) σ := (adr_re (hi ps.2)).1
  rw [e2, e1] at g2
  cases hpu : put ps.2 r.2 with
  | val s' =>
    rw [hp _ _ _ hpu] at R2 e2
    have qr := wp_bind.mp qr
    rw [hpu] at qr
    have qr' : ∀ v H', Gr (adr (ρs s) σ) H (adr (ρs s) σ) H' → Rel K cl O bs (ρs s') σ H' → adr (ρs s') σ = adr (ρs s) σ → Is K cl (frz H' (O ++ adr (ρs s) σ)) v r.1 → Q v H' := qr
    exact qr' v H' (g1.trans g2) R2 (e2.trans e1) iv
  | exc c =>
    have qr := wp_bind.mp qr
    rw [hpu] at qr
    exact qr.elim
  | stuck =>
    have qr := wp_bind.mp qr
    rw [hpu] at qr
    exact qr.elim
/-! iterators with effects -/
theorem ei_rng1 (ha : Eff K cl ta ρs ma) : EffI K cl (iRng1 (tCons ta tNil)) ρs (fun s => ma s >>= fun x => rng1 x.1 >>= fun z => .val (z, x.2)) := fun s O bs σ H Rr R hb q => by
  refine ha s O bs σ H _ R hb (wp_mono (wp_bind.mp q) (fun x w v H' g1 R1 e1 i => ?_) fun _ z => z)
  have w := wp_bind.mp w
  unfold rng1 at w
  split at w
  · next j e =>
    rw [e] at i
    cases i
    split at w
    · next c => exact ⟨j, rfl, c.1, c.2, w _ H' g1 R1 e1 (itOk_rng (by rw [rng_len, Int.sub_zero]) fun i p h => by have := rng_get h; rwa [Int.sub_zero] at this)⟩
    · exact w.elim
  · exact w.elim
theorem ei_pure {wi : TI} {mi : S → Res (List PV)} (h : ∀ s, Iter K cl W wi (ρs s) (mi s)) : EffI K cl wi ρs (fun s => noX (mi s) >>= fun z => .val (z, s)) := fun s O bs σ H Rr R hb q =>
  h s O bs σ H Rr R (wp_mono (wp_noX (E' := fun _ => False) (wp_bind.mp q)) (fun r qr J H' s' i => qr J H' (Gr.of s') (R.same s') rfl i) fun _ z => z.elim)
theorem ei_seq (ha : Eff K cl te ρs ma) : EffI K cl (iSeqV K te) ρs (fun s => ma s >>= fun x => asSq x.1 >>= fun z => .val (z, x.2)) := fun s O bs σ H Rr R hb q => by
  have w := wp_bind.mp q
  cases hm : ma s with
  | stuck => rw [hm] at w; exact w.elim
  | exc c => rw [hm] at w; exact w.elim
  | val x =>
    rw [hm] at w
    have w := wp_bind.mp (show wp (asSq x.1 >>= fun z => .val (z, x.2)) _ _ from w)
    obtain ⟨p, s1⟩ := x
    cases p with
    | tup ps =>
      refine .inr (ha s O bs σ H _ R hb ?_)
      rw [hm]
      refine wp_val.mpr fun v H' g1 R1 e1 i => ?_
      cases (show Is K cl (frz H' (O ++ adr (ρs s) σ)) v (.tup ps) from i) with
      | tup h l => exact ⟨_, rfl, ⟨_, frz_sub.sqT h⟩, w _ H' g1 R1 e1 ((itOk_tup (P := fun _ => True) (fun H _ sF => sF.sqT h) l).of fun H B _ sF => ⟨trivial, sF.trans frz_sub⟩)⟩
    | lst ps =>
      refine .inl (ha s O bs σ H _ R hb ?_)
      rw [hm]
      refine wp_val.mpr fun v H' g1 R1 e1 i => ?_
      cases (show Is K cl (frz H' (O ++ adr (ρs s) σ)) v (.lst ps) from i) with
      | lst h l => exact ⟨_, rfl, ⟨_, .inl (.inl (frz_sub _ _ h))⟩, w _ H' g1 R1 e1 ((itOk_list (P := fun _ => True) (fun H _ sF => .inl (.inl (sF _ _ h))) l).of fun H B _ sF => ⟨trivial, sF.trans frz_sub⟩)⟩
    | fls ps =>
      refine .inl (ha s O bs σ H _ R hb ?_)
      rw [hm]
      refine wp_val.mpr fun v H' g1 R1 e1 i => ?_
      cases (show Is K cl (frz H' (O ++ adr (ρs s) σ)) v (.fls ps) from i) with
      | fls h l => exact ⟨_, rfl, ⟨_, frz_sub.sqL h⟩, w _ H' g1 R1 e1 ((itOk_list (P := fun _ => True) (fun H _ sF => sF.sqL h) l).of fun H B _ sF => ⟨trivial, sF.trans frz_sub⟩)⟩
    | _ => exact w.elim
/-! statements with effects -/
variable {s0 : S}
theorem Wk.of_eq {ρ ρ' : Ro} (e : ρ = ρ') : Wk ρ ρ' := by rw [e]; exact Wk.refl _
theorem run_setE {i : Nat} {n : PV → S → Res (Fl S1 L)} (he : Eff K cl te ρs ma) (e0 : ρs s0 = ρ) (hn : ∀ s, nad (ρs s) i = true) (h : ∀ x s, Runs K cl W u ((ρs s).set i (.fz x)) (n x s) ρn ρl ρx) :
    Runs K cl W (tSeq (tAsg te (gName i)) u) ρ (noX (ma s0) >>= fun r => n r.1 r.2) ρn ρl ρx := fun O bs σ H D R hb q => by
  subst e0
  refine he s0 O bs σ H _ R hb (wp_mono (wp_noX (E' := fun _ => False) (wp_bind.mp q)) (fun x qx v H' g1 R1 e1 i1 => ?_) fun _ z => z)
  have g : Gr (adr (ρs s0) σ) H (adr ((ρs x.2).set i (.fz x.1)) (σ.set i (some v))) H' := by rw [adr_setn (hn _), e1]; exact g1
  exact h x.1 x.2 O bs _ H' D (R1.setfz (hn _) (by rw [e1]; exact i1)) hb (wp_mono qx (fun _ z => z.step g) fun _ z => z.step g)
theorem run_asgE {g : TG} {α : Type} {d : PV → Res α} {ρe : S → α → Ro} {n : α → S → Res (Fl S1 L)} (he : Eff K cl te ρs ma) (e0 : ρs s0 = ρ) (hg : ∀ s, TgtE K cl g [] (ρs s) d (ρe s)) (h : ∀ a s, Runs K cl W u (ρe s a) (n a s) ρn ρl ρx) :
    Runs K cl W (tSeq (tAsg te g) u) ρ (noX (ma s0) >>= fun r => d r.1 >>= fun a => n a r.2) ρn ρl ρx := fun O bs σ H D R hb q => by
  subst e0
  refine he s0 O bs σ H _ R hb (wp_mono (wp_noX (E' := fun _ => False) (wp_bind.mp q)) (fun x qx v H' g1 R1 e1 i1 => ?_) fun _ z => z)
  have g1' : Gr (adr (ρs s0) σ) H (adr (ρs x.2) σ) H' := by rw [e1]; exact g1
  refine hg x.2 x.1 O bs σ H' v _ (fun c => ExOk K cl W O bs ρx (adr (ρs s0) σ) H c) R1 (by show Is K cl (frz H' (O ++ adr (ρs x.2) σ)) v x.1; rw [e1]; exact i1) (wp_mono (wp_bind.mp qx) (fun a qa σ2 R2 e2 _ => ?_) fun _ z => z)
  have gr : Gr (adr (ρs s0) σ) H (adr (ρe x.2 a) σ2) H' := by
    have e2' : adr (ρe x.2 a) σ2 = adr (ρs x.2) σ := e2
    rw [e2']; exact g1'
  exact h a x.2 O bs σ2 H' D R2 hb (wp_mono qa (fun _ z => z.step gr) fun _ z => z.step gr)
theorem run_retE {r : S → List MO} (he : Eff K cl te ρs ma) (e0 : ρs s0 = ρ) (hr : ∀ s, rfB 0 (ρs s) = true) (e : ∀ s, brs (ρs s) = r s) : Runs (S := S1) K cl W (tSeq (tRet te) u) ρ (noX (ma s0) >>= fun x => .val (.rt x.1 (r x.2))) ρn ρl ρx := fun O bs σ H D R hb q => by
  subst e0
  refine he s0 O bs σ H _ R hb (wp_mono (wp_noX (E' := fun _ => False) (wp_bind.mp q)) (fun x qx v H' g1 R1 e1 i1 => ?_) fun _ z => z)
  exact qx v H' ⟨g1.1, fun _ z => by cases z⟩ (i1.mono (frz_less fun a ha => List.mem_append_left _ ha)) fun k b mo h1 h2 => R1.byref (hr _) h1 (by rw [e]; exact h2)
theorem run_ifE {c : TT} {mt : S → Res (Bool × S)} {M1 M2 : S → Res (Fl S1 L)} (hc : EffT K cl c ρs mt) (e0 : ρs s0 = ρ) (h1 : ∀ s, Runs K cl W (tSeq t u) (ρs s) (M1 s) ρn ρl ρx) (h2 : ∀ s, Runs K cl W (tSeq v u) (ρs s) (M2 s) ρn ρl ρx) :
    Runs K cl W (tSeq (tIfS c t v) u) ρ (noX (mt s0) >>= fun b => if b.1 = true then M1 b.2 else M2 b.2) ρn ρl ρx := fun O bs σ H D R hb q => by
  subst e0
  refine hc s0 O bs σ H _ R hb (wp_mono (wp_noX (E' := fun _ => False) (wp_bind.mp q)) (fun x qx H' g1 R1 e1 => ?_) fun _ z => z)
  have g : Gr (adr (ρs s0) σ) H (adr (ρs x.2) σ) H' := by rw [e1]; exact g1
  obtain ⟨b, s1⟩ := x
  cases b with
  | true => exact h1 s1 O bs σ H' D R1 hb (wp_mono qx (fun _ z => z.step g) fun _ z => z.step g)
  | false => exact h2 s1 O bs σ H' D R1 hb (wp_mono qx (fun _ z => z.step g) fun _ z => z.step g)
/-- a call as a statement -/
theorem run_exprE {n : S → Res (Fl S1 L)} (he : Eff K cl te ρs ma) (e0 : ρs s0 = ρ) (h : ∀ s, Runs K cl W u (ρs s) (n s) ρn ρl ρx) : Runs K cl W (tSeq (tDrop te) u) ρ (noX (ma s0) >>= fun r => n r.2) ρn ρl ρx := fun O bs σ H D R hb q => by
  subst e0
  refine he s0 O bs σ H _ R hb (wp_mono (wp_noX (E' := fun _ => False) (wp_bind.mp q)) (fun x qx v H' g1 R1 e1 i1 => ?_) fun _ z => z)
  have g : Gr (adr (ρs s0) σ) H (adr (ρs x.2) σ) H' := by rw [e1]; exact g1
  exact h x.2 O bs σ H' D R1 hb (wp_mono qx (fun _ z => z.step g) fun _ z => z.step g)
theorem run_expr {m0 : Res PV} {n : Res (Fl S1 L)} (he : Pur K cl W te ρ m0) (w : Wk ρ ρx) (h : Runs K cl W u ρ n ρn ρl ρx) : Runs K cl W (tSeq (tDrop te) u) ρ (m0 >>= fun _ => n) ρn ρl ρx := fun O bs σ H D R hb q => by
  refine he O bs σ H _ R (wp_mono (wp_bind.mp q) (fun x qx v H' s ix => ?_) fun _ z => z.xw R w)
  exact h O bs σ H' D (R.same s) hb (wp_mono qx (fun _ z => z.step (Gr.of s)) fun _ z => z.step (Gr.of s))
theorem run_appendE {i : Nat} {sl : S → Slot} {get : S → List PV} {n : S → PV → Res (Fl S1 L)} (hi : ∀ s, (ρs s)[i]? = some (sl s)) (hs : ∀ s, sl s = .ow (.lst (get s)) ∨ ∃ k, sl s = .rf k (.lst (get s))) (he : Eff K cl te ρs ma) (e0 : ρs s0 = ρ) (h : ∀ s x, Runs K cl W u ((ρs s).set i (reSl (sl s) (.lst (get s ++ [x])))) (n s x) ρn ρl ρx) :
    Runs K cl W (tSeq (tDrop (tBM K "list" rAppend (tVar i) (tCons te tNil))) u) ρ (noX (ma s0) >>= fun r => sized ((get r.2).length + 1) >>= fun _ => n r.2 r.1) ρn ρl ρx := fun O bs σ H D R hb q => by
  subst e0
  have got : ∀ s' H', Rel K cl O bs (ρs s') σ H' → ∃ a vs, σ[i]? = some (some (.ref a)) ∧ H' a = some (.lst vs) ∧ IsL K cl (frz H' (O ++ adr (ρs s') σ)) vs (get s') := fun s' H' R => by
    obtain ⟨x, e, q⟩ := R.sl.get (hi s')
    rcases hs s' with h | ⟨k, h⟩
    · rw [h] at q; obtain ⟨a, rfl, vs, h1, h2⟩ := q; exact ⟨a, vs, e, h1, h2⟩
    · rw [h] at q; obtain ⟨a, rfl, _, vs, h1, h2⟩ := q; exact ⟨a, vs, e, h1, h2⟩
  obtain ⟨a, vs, ha, hv, hl⟩ := got _ _ R
  refine ⟨_, ha, .inl ⟨rfl, _, .inl (.inl hv)⟩, he s0 O bs σ H _ R hb (wp_mono (wp_noX (E' := fun _ => False) (wp_bind.mp q)) (fun x qx v H' g1 R1 e1 i1 => ?_) fun _ z => z)⟩
  obtain ⟨hz, qx⟩ := wp_sized (wp_bind.mp qx)
  obtain ⟨a', vs', ha', hv', hl'⟩ := got _ _ R1
  rw [ha] at ha'
  cases ha'
  obtain ⟨R2, g2⟩ := R1.put (m' := .lst (get x.2 ++ [x.1])) (o := .lst (vs' ++ [v])) (hi x.2) (hs x.2) ha ⟨_, upd_same, hl'.append (.one (by rw [e1]; exact i1))⟩
  have g : Gr (adr (ρs s0) σ) H _ _ := (show Gr (adr (ρs s0) σ) H (adr (ρs x.2) σ) H' by rw [e1]; exact g1).trans g2
  refine ⟨a, vs', v, rfl, rfl, hv', by rw [hl'.len]; omega, ?_⟩
  exact h x.2 x.1 O bs σ _ D R2 hb (wp_mono qx (fun _ z => z.step g) fun _ z => z.step g)
theorem run_setitemE {i : Nat} {sl : S → Slot} {get : S → List PV} {n : S → List PV → Res (Fl S1 L)} (hi : ∀ s, (ρs s)[i]? = some (sl s)) (hs : ∀ s, sl s = .ow (.lst (get s)) ∨ ∃ k, sl s = .rf k (.lst (get s))) (he : Eff K cl te ρs ma) (hk : Eff K cl ta ρs mb) (e0 : ρs s0 = ρ) (h : ∀ s qs, Runs K cl W u ((ρs s).set i (reSl (sl s) (.lst qs))) (n s qs) ρn ρl ρx) :
    Runs K cl W (tSeq (tAsg te (gSub (tVar i) ta rSetL)) u) ρ (noX (ma s0) >>= fun r => noX (mb r.2) >>= fun k => setL (get k.2) k.1 r.1 >>= n k.2) ρn ρl ρx := fun O bs σ H D R hb q => by
  subst e0
  have got : ∀ s' H', Rel K cl O bs (ρs s') σ H' → ∃ a vs, σ[i]? = some (some (.ref a)) ∧ H' a = some (.lst vs) ∧ IsL K cl (frz H' (O ++ adr (ρs s') σ)) vs (get s') := fun s' H' R => by
    obtain ⟨x, e, q⟩ := R.sl.get (hi s')
    rcases hs s' with h | ⟨k, h⟩
    · rw [h] at q; obtain ⟨a, rfl, vs, h1, h2⟩ := q; exact ⟨a, vs, e, h1, h2⟩
    · rw [h] at q; obtain ⟨a, rfl, _, vs, h1, h2⟩ := q; exact ⟨a, vs, e, h1, h2⟩
  obtain ⟨a, _, ha, _⟩ := got _ _ R
  refine he s0 O bs σ H _ R hb (wp_mono (wp_noX (E' := fun _ => False) (wp_bind.mp q)) (fun x qx v H1 g1 R1 e1 i1 => ?_) fun _ z => z)
  refine ⟨_, ha, hk x.2 O bs σ H1 _ R1 hb (wp_mono (wp_noX (E' := fun _ => False) (wp_bind.mp qx)) (fun k qk v2 H2 g2 R2 e2 i2 => ?_) fun _ z => z)⟩
  obtain ⟨a', vs, ha', hv, hl⟩ := got _ _ R2
  rw [ha] at ha'
  cases ha'
  have g1' : Gr (adr (ρs s0) σ) H (adr (ρs x.2) σ) H1 := by rw [e1]; exact g1
  have g2' : Gr (adr (ρs x.2) σ) H1 (adr (ρs k.2) σ) H2 := by rw [e2]; exact g2
  have ix : Is K cl (frz H2 (O ++ adr (ρs k.2) σ)) v x.1 := by
    rw [e2, e1]
    rw [e1] at g2
    exact i1.mono (g2.sub R1.al)
  have qk := wp_bind.mp qk
  unfold setL at qk
  split at qk
  · next k0 hk0 =>
    rw [hk0] at i2
    cases i2
    split at qk
    · next j hj =>
      obtain ⟨R3, g3⟩ := R2.put (m' := .lst ((get k.2).set j x.1)) (o := .lst (vs.set j v)) (hi k.2) (hs k.2) ha ⟨_, upd_same, IsL.set ix j hl⟩
      have g := (g1'.trans g2').trans g3
      exact ⟨a, vs, _, j, rfl, rfl, hv, by rw [hl.len]; exact hj, h k.2 _ O bs σ _ D R3 hb (wp_mono qk (fun _ z => z.step g) fun _ z => z.step g)⟩
    · exact qk.elim
  · exact qk.elim
theorem run_forE {wi : TI} {g : TG} {mi : S → Res (List PV × S)} {α : Type} {d : PV → Res α} {ρs' : S1 → Ro} {ρe : S1 → α → Ro} {st : S → S1} {body : α → S1 → Res (Fl S1 S1)} (hi : EffI K cl wi ρs mi) (e0 : ρs s0 = ρ) (w0 : ∀ s, Wk (ρs s) (ρs' (st s))) (hg : ∀ s, TgtE K cl g [] (ρs' s) d (ρe s))
    (hb : ∀ a s, Runs K cl W tb (ρe s a) (body a s) ρs' ρs' ρx) : Runs K cl W (tFor wi g tb) ρ (noX (mi s0) >>= fun r => forF (fun x s => d x >>= fun a => body a s) r.1 (st r.2)) ρs' ρl ρx := fun O bs σ H D R hbs q => by
  subst e0
  refine hi s0 O bs σ H _ R hbs (wp_mono (wp_noX (E' := fun _ => False) (wp_bind.mp q)) (fun r qp J H1 g0 R1 e1 hJ => ?_) fun _ z => z)
  obtain ⟨ps, s1⟩ := r
  have g1 : Gr (adr (ρs s0) σ) H (adr (ρs' (st s1)) σ) H1 := (show Gr (adr (ρs s0) σ) H (adr (ρs s1) σ) H1 by rw [e1]; exact g0).trans (Gr.wk (w0 s1))
  have hJ' : ItOk K cl (fun _ => True) (frz H1 (O ++ adr (ρs s1) σ)) J ps := by rw [e1]; exact hJ
  have sF0 : Sub (frz H1 (O ++ adr (ρs s1) σ)) (frz H1 (O ++ adr (ρs' (st s1)) σ)) := Gr.sub (Gr.wk (w0 s1)) R1.al
  refine ⟨fun i mm σ' H' => mm = ps.length - i ∧ i ≤ ps.length ∧ ∃ s, Rel K cl O bs (ρs' s) σ' H' ∧ Gr (adr (ρs s0) σ) H (adr (ρs' s) σ') H' ∧ Sub (frz H1 (O ++ adr (ρs s1) σ)) (frz H' (O ++ adr (ρs' s) σ')) ∧
      wp (forF (L := L) (fun x s => d x >>= fun a => body a s) (ps.drop i) s) (FlOk K cl O bs ρs' ρl D (adr (ρs s0) σ) H) (ExOk K cl W O bs ρx (adr (ρs s0) σ) H),
    ⟨_, rfl, Nat.zero_le _, st s1, R1.wk (w0 s1), g1, sF0, by rw [List.drop_zero]; exact qp⟩, ?_⟩
  rintro i mm σ' H' ⟨rfl, hle, s, R', g', sF, qw⟩
  obtain ⟨hs, hg'⟩ := hJ' H' _ trivial sF (fun a ha => R'.got ha)
  by_cases c : i = ps.length
  · subst c
    rw [List.drop_length] at qw
    exact .inl ⟨hs, qw σ' H' g' R'⟩
  · have hlt : i < ps.length := by omega
    obtain ⟨hgo, hy⟩ := hg' i _ (List.getElem?_eq_getElem hlt)
    rw [List.drop_eq_getElem_cons hlt] at qw
    refine .inr ⟨hgo, fun σ2 H2 => ∃ s', Rel K cl O bs (ρs' s') σ2 H2 ∧ Gr (adr (ρs s0) σ) H (adr (ρs' s') σ2) H2 ∧ Sub (frz H1 (O ++ adr (ρs s1) σ)) (frz H2 (O ++ adr (ρs' s') σ2)) ∧ wp (forF (L := L) (fun x s => d x >>= fun a => body a s) (ps.drop (i + 1)) s') (FlOk K cl O bs ρs' ρl D (adr (ρs s0) σ) H) (ExOk K cl W O bs ρx (adr (ρs s0) σ) H),
      fun σ2 H2 ⟨s', z⟩ => ⟨_, by omega, rfl, by omega, s', z⟩, fun x H2 hyx => ?_⟩
    obtain ⟨s2, ix⟩ := hy x H2 hyx
    have R2 := R'.same s2
    have qw := wp_bind.mp (wp_bind.mp qw)
    refine hg s ps[i] O bs σ' H2 x _ _ R2 ix (wp_mono qw (fun a qa σ3 R3 e3 _ => ?_) fun _ z => z)
    have g3 : Gr (adr (ρs s0) σ) H (adr (ρe s a) σ3) H2 := by rw [e3]; exact g'.trans (Gr.of s2)
    have sF3 : Sub (frz H1 (O ++ adr (ρs s1) σ)) (frz H2 (O ++ adr (ρe s a) σ3)) := by rw [e3]; exact sF.trans (frz_same s2)
    refine hb a s O bs σ3 H2 _ R3 hbs (wp_mono qa (fun f qf => ?_) fun _ z => z.step g3)
    cases f with
    | nx s' => exact fun σ4 H4 g4 R4 => ⟨s', R4, g3.trans g4, sF3.trans (g4.sub R3.al), qf⟩
    | ct s' => exact fun σ4 H4 g4 R4 => ⟨s', R4, g3.trans g4, sF3.trans (g4.sub R3.al), qf⟩
    | bk s' => exact fun σ4 H4 g4 R4 => qf σ4 H4 (g3.trans g4) R4
    | rt v r => exact FlOk.step (f := Fl.rt v r) qf g3
    | ro mo r => exact FlOk.step (f := Fl.ro mo r) qf g3
/-! a comprehension whose parts have effects -/
def lcE {S α : Type} (d : PV → Res α) (c : α → S → Res (Bool × S)) (e : α → S → Res (PV × S)) : List PV → S → Res (List PV × S)
  | [], s => .val ([], s)
  | x :: xs, s => noX (d x) >>= fun a => c a s >>= fun b => if b.1 = true then e a b.2 >>= fun y => lcE d c e xs y.2 >>= fun ys => .val (y.1 :: ys.1, ys.2) else lcE d c e xs b.2
theorem et_yes : EffT K cl tYes ρs (fun s => .val (true, s)) := fun s O bs σ H Q R hb q => q H .refl R rfl
def unB : Ro → Nat → Bool
  | [], _ => true
  | .un :: _, 0 => true
  | _ :: _, 0 => false
  | _ :: ρ, i + 1 => unB ρ i
def unsB (ρ : Ro) (vs : List Nat) : Bool := vs.all fun i => unB ρ i
theorem adr_un : ∀ {ρ : Ro} {σ : St} {i : Nat} {x : Option V}, unB ρ i = true → adr ρ (σ.set i x) = adr ρ σ ∧ owa ρ (σ.set i x) = owa ρ σ
  | [], σ, i, x, _ => by
    cases σ with
    | nil => exact ⟨rfl, rfl⟩
    | cons y σ => cases i <;> exact ⟨rfl, rfl⟩
  | s :: ρ, [], i, x, h => ⟨rfl, rfl⟩
  | s :: ρ, y :: σ, 0, x, h => by cases s <;> first | exact ⟨rfl, rfl⟩ | cases h
  | s :: ρ, y :: σ, i + 1, x, h => by
    have ih := adr_un (ρ := ρ) (σ := σ) (i := i) (x := x) (by cases s <;> exact h)
    show adr (s :: ρ) (y :: σ.set i x) = adr (s :: ρ) (y :: σ) ∧ owa (s :: ρ) (y :: σ.set i x) = owa (s :: ρ) (y :: σ)
    cases s with
    | un => exact ih
    | fz q => exact ih
    | ow m => cases y with
      | none => exact ih
      | some v => cases v <;> first | exact ih | exact ⟨congrArg (_ :: ·) ih.1, congrArg (_ :: ·) ih.2⟩
    | rf k m => cases y with
      | none => exact ih
      | some v => cases v <;> first | exact ih | exact ⟨congrArg (_ :: ·) ih.1, ih.2⟩
theorem rels_un : ∀ {ρ : Ro} {σ : St} {i : Nat} {x : Option V} {F H : Hp}, unB ρ i = true → (RelS K cl bs F H ρ (σ.set i x) ↔ RelS K cl bs F H ρ σ)
  | [], σ, i, x, F, H, _ => by
    cases σ with
    | nil => exact Iff.rfl
    | cons y σ => cases i <;> exact ⟨(fun h => nomatch h), (fun h => nomatch h)⟩
  | s :: ρ, [], i, x, F, H, h => Iff.rfl
  | s :: ρ, y :: σ, 0, x, F, H, h => by
    cases s with
    | un => exact ⟨fun q => by cases q with | cons a r => exact .cons trivial r, fun q => by cases q with | cons a r => exact .cons trivial r⟩
    | _ => cases h
  | s :: ρ, y :: σ, i + 1, x, F, H, h => by
    have ih := rels_un (ρ := ρ) (σ := σ) (i := i) (x := x) (F := F) (H := H) (by cases s <;> exact h)
    exact ⟨fun q => by cases q with | cons a r => exact .cons a (ih.mp r), fun q => by cases q with | cons a r => exact .cons a (ih.mpr r)⟩
theorem Rel.un1 {i : Nat} {x : Option V} (h : unB ρ i = true) : Rel K cl O bs ρ (σ.set i x) H ↔ Rel K cl O bs ρ σ H := by
  obtain ⟨e1, e2⟩ := adr_un (ρ := ρ) (σ := σ) (x := x) h
  constructor
  · rintro ⟨a, b, c, d⟩
    rw [e1] at a b
    rw [e2] at d
    exact ⟨(rels_un h).mp a, b, c, d⟩
  · rintro ⟨a, b, c, d⟩
    exact ⟨by rw [e1]; exact (rels_un h).mpr a, by rw [e1]; exact b, c, by rw [e2]; exact d⟩
theorem Rel.uns : ∀ {vs : List Nat}, unsB ρ vs = true → ((Rel K cl O bs ρ (L2.wipe σ vs) H ↔ Rel K cl O bs ρ σ H) ∧ adr ρ (L2.wipe σ vs) = adr ρ σ)
  | [], _ => ⟨Iff.rfl, rfl⟩
  | v :: vs, h => by
    have h' := Bool.and_eq_true_iff.mp (show (unB ρ v && unsB ρ vs) = true from h)
    obtain ⟨h1, h2⟩ := Rel.uns (vs := vs) h'.2
    exact ⟨(Rel.un1 (σ := L2.wipe σ vs) h'.1).trans h1, ((adr_un (σ := L2.wipe σ vs) h'.1).1).trans h2⟩
theorem Rel.narrow {a : Addr} (R : Rel K cl (a :: O) bs ρ σ H) : Rel K cl O bs ρ σ H :=
  ⟨R.sl.mono (frz_less fun b hb => List.mem_cons_of_mem _ hb) fun _ _ _ e => e, R.nd, fun b hb => R.al b (List.mem_cons_of_mem _ hb), fun b hb z => R.ow b hb (List.mem_cons_of_mem _ z)⟩
theorem ef_lc {wi : TI} {g : TG} {tt : TT} {vs : List Nat} {mi : S → Res (List PV × S)} {α : Type} {d : PV → Res α} {ρe : α → S → Ro} {mc : α → S → Res (Bool × S)} {me : α → S → Res (PV × S)} (hi : EffI K cl wi ρs mi) (hv : ∀ s, unsB (ρs s) vs = true) (hne : vs ≠ [])
    (hg : ∀ s, TgtE K cl g vs (ρs s) d (fun a => ρe a s)) (hw : ∀ a s, wipeR (ρe a s) vs = ρs s) (hv2 : ∀ a s, nads (ρe a s) vs = true) (ht : ∀ a, EffT K cl tt (ρe a) (mc a)) (he : ∀ a, Eff K cl te (ρe a) (me a)) :
    Eff K cl (tLc wi g tt te vs) ρs (fun s => mi s >>= fun ps => sized ps.1.length >>= fun _ => lcE d mc me ps.1 ps.2 >>= fun r => .val (.lst r.1, r.2)) := fun s O bs σ H Q R hb q => by
  refine hi s O bs σ H _ R hb (wp_mono (wp_bind.mp q) (fun r qp J H1 g1 R1 e1 hJ => ?_) fun _ z => z)
  obtain ⟨ps, s1⟩ := r
  obtain ⟨hz, qp⟩ := wp_sized (wp_bind.mp qp)
  replace hz : ps.length ≤ sizeLine := hz
  intro Da hD
  have qp := wp_bind.mp qp
  have Rw1 := (Rel.uns (σ := σ) (hv s1)).1.mpr R1
  have ew1 := (Rel.uns (K := K) (cl := cl) (O := O) (bs := bs) (H := H1) (σ := σ) (hv s1)).2
  have Rw0 := Rw1.wider (o := .lst []) hD
  have nDA : Da ∉ O ++ adr (ρs s) σ := fun z => by
    obtain ⟨u, e⟩ := R1.got (by rw [e1]; exact z)
    rw [hD] at e; cases e
  have hbD : ∀ b, b ∈ bs → b ∈ Da :: O := fun b h => List.mem_cons_of_mem _ (hb b h)
  refine ⟨fun i mm H2 => mm = ps.length - i ∧ i ≤ ps.length ∧ ∃ s2, (∀ x o, x ∉ adr (ρs s) σ → H1 x = some o → H2 x = some o) ∧ Rel K cl (Da :: O) bs (ρs s2) (wipe σ vs) H2 ∧ adr (ρs s2) (wipe σ vs) = adr (ρs s) σ ∧
      ∃ acc qs, H2 Da = some (.lst acc) ∧ acc.length ≤ i ∧ IsL K cl (frz H2 (Da :: (O ++ adr (ρs s) σ))) acc qs ∧
      wp (lcE d mc me (ps.drop i) s2) (fun r => ∀ v H', Gr (adr (ρs s) σ) H (adr (ρs s) σ) H' → Rel K cl O bs (ρs r.2) σ H' → adr (ρs r.2) σ = adr (ρs s) σ → Is K cl (frz H' (O ++ adr (ρs s) σ)) v (.lst (qs ++ r.1)) → Q v H') (fun _ => False),
    ⟨_, rfl, Nat.zero_le _, s1, fun x o _ e => sub_new hD _ x o e, Rw0, ew1.trans e1, [], [], upd_same, Nat.le_refl _, .nil, by rw [List.drop_zero]; exact wp_mono qp (fun r z => z) fun _ z => z⟩, ?_⟩
  rintro i mm H2 ⟨rfl, hle, s2, k2, R2, ew, acc, qs, ha, hal, hl, qw⟩
  have sF : Sub (frz H1 (O ++ adr (ρs s) σ)) (frz H2 (Da :: (O ++ adr (ρs s) σ))) := fun x u e => by
    obtain ⟨n, e⟩ := frz_some.mp e
    refine frz_some.mpr ⟨fun z => ?_, k2 _ _ (fun z => n (List.mem_append_right _ z)) e⟩
    rcases List.mem_cons.mp z with c | c
    · rw [c, hD] at e; cases e
    · exact n c
  have gotB : ∀ a, a ∈ Da :: (O ++ adr (ρs s) σ) → ∃ o, H2 a = some o := fun a z => R2.got (by rw [ew]; exact z)
  obtain ⟨hs, hgo⟩ := hJ H2 _ trivial sF gotB
  by_cases c : i = ps.length
  · subst c
    rw [List.drop_length] at qw
    obtain ⟨u1, u2⟩ := Rel.uns (K := K) (cl := cl) (O := O) (bs := bs) (H := H2) (σ := σ) (hv s2)
    refine .inl ⟨hs, qw (.ref Da) H2 ⟨fun x o n e => k2 x o n (g1.1 x o n e), fun x hx => .inl hx⟩ (u1.mp R2.narrow) (u2.symm.trans ew) ?_⟩
    rw [List.append_nil]
    exact .lst (frz_some.mpr ⟨nDA, ha⟩) (hl.mono (frz_less fun b hb => List.mem_cons_of_mem _ hb))
  · have hlt : i < ps.length := by omega
    obtain ⟨hgi, hy⟩ := hgo i _ (List.getElem?_eq_getElem hlt)
    rw [List.drop_eq_getElem_cons hlt] at qw
    refine .inr ⟨hgi, fun H3 => ∃ s2, (∀ x o, x ∉ adr (ρs s) σ → H1 x = some o → H3 x = some o) ∧ Rel K cl (Da :: O) bs (ρs s2) (wipe σ vs) H3 ∧ adr (ρs s2) (wipe σ vs) = adr (ρs s) σ ∧
      ∃ acc qs, H3 Da = some (.lst acc) ∧ acc.length ≤ i + 1 ∧ IsL K cl (frz H3 (Da :: (O ++ adr (ρs s) σ))) acc qs ∧
      wp (lcE d mc me (ps.drop (i + 1)) s2) (fun r => ∀ v H', Gr (adr (ρs s) σ) H (adr (ρs s) σ) H' → Rel K cl O bs (ρs r.2) σ H' → adr (ρs r.2) σ = adr (ρs s) σ → Is K cl (frz H' (O ++ adr (ρs s) σ)) v (.lst (qs ++ r.1)) → Q v H') (fun _ => False),
      fun H3 z => ⟨_, by omega, rfl, by omega, z⟩, fun x H3 hyx => ?_⟩
    obtain ⟨s3, ix⟩ := hy x H3 hyx
    have R3 := R2.same s3
    have qw := wp_bind.mp qw
    refine hg s2 ps[i] (Da :: O) bs σ H3 x _ _ R3 (by rw [ew]; exact ix) (wp_mono (wp_noX (E' := fun _ => False) qw) (fun a qa σ4 R4 e4 w4 => ?_) fun _ z => z)
    have e4s : adr (ρe a s2) σ4 = adr (ρs s) σ := e4.trans ew
    refine ⟨w4 hne, ht a s2 (Da :: O) bs σ4 H3 _ R4 hbD (wp_mono (wp_bind.mp qa) (fun b qb H5 g5 R5 e5 => ?_) fun _ z => z.elim)⟩
    obtain ⟨b, s5⟩ := b
    rw [e4s] at g5
    have e5s : adr (ρe a s5) σ4 = adr (ρs s) σ := e5.trans e4s
    have nD : Da ∉ adr (ρs s) σ := fun z => nDA (List.mem_append_right _ z)
    -- back to the comprehension's own frame
    have back : ∀ (s6 : S) (H6 : Hp), Rel K cl (Da :: O) bs (ρe a s6) σ4 H6 → adr (ρe a s6) σ4 = adr (ρs s) σ → Rel K cl (Da :: O) bs (ρs s6) (wipe σ vs) H6 ∧ adr (ρs s6) (wipe σ vs) = adr (ρs s) σ := fun s6 H6 R6 e6 => by
      obtain ⟨q1, q2⟩ := R6.wipe (hv2 a s6)
      rw [hw, w4 hne] at q1 q2
      exact ⟨q1, q2.trans e6⟩
    have k5 : ∀ x o, x ∉ adr (ρs s) σ → H1 x = some o → H5 x = some o := fun x o n e => g5.1 x o n (s3 _ _ (k2 x o n e))
    have ha5 : H5 Da = some (.lst acc) := g5.1 _ _ nD (s3 _ _ ha)
    have hA : ∀ a, a ∈ Da :: O → ∃ o, H3 a = some o := R3.al
    have fs5 : Sub (frz H2 (Da :: (O ++ adr (ρs s) σ))) (frz H5 (Da :: (O ++ adr (ρs s) σ))) := (frz_same s3).trans (Gr.sub (O := Da :: O) g5 hA)
    cases b with
    | false =>
      obtain ⟨b1, b2⟩ := back s5 H5 R5 e5s
      exact ⟨s5, k5, b1, b2, acc, qs, ha5, by omega, hl.mono fs5, qb⟩
    | true =>
      refine he a s5 (Da :: O) bs σ4 H5 _ R5 hbD (wp_mono (wp_bind.mp qb) (fun y qy vy H6 g6 R6 e6 iy => ?_) fun _ z => z.elim)
      rw [e5s] at g6 iy
      have e6s : adr (ρe a y.2) σ4 = adr (ρs s) σ := e6.trans e5s
      have ha6 : H6 Da = some (.lst acc) := g6.1 _ _ nD ha5
      have k6 : ∀ x o, x ∉ adr (ρs s) σ → H1 x = some o → H6 x = some o := fun x o n e => g6.1 x o n (k5 x o n e)
      have fs6 : Sub (frz H2 (Da :: (O ++ adr (ρs s) σ))) (frz H6 (Da :: (O ++ adr (ρs s) σ))) := fs5.trans (Gr.sub (O := Da :: O) g6 R5.al)
      obtain ⟨b1, b2⟩ := back y.2 H6 R6 e6s
      have keepD : ∀ x u, x ≠ Da → H6 x = some u → upd H6 Da (.lst (acc ++ [vy])) x = some u := fun x u n e => by rw [upd_ne n]; exact e
      have sD : Sub (frz H6 (Da :: (O ++ adr (ρs s) σ))) (frz (upd H6 Da (.lst (acc ++ [vy]))) (Da :: (O ++ adr (ρs s) σ))) := fun x u e => by
        obtain ⟨n, e⟩ := frz_some.mp e
        exact frz_some.mpr ⟨n, keepD x u (fun z => n (by rw [z]; exact List.mem_cons_self)) e⟩
      refine ⟨acc, ha6, by omega, y.2, fun x u n e => keepD x u (ne_of_none e hD) (k6 x u n e), b1.putO List.mem_cons_self (by rw [b2]; exact nD), b2, acc ++ [vy], qs ++ [y.1], upd_same, by rw [List.length_append, List.length_singleton]; omega, ((hl.mono fs6).append (.one iy)).mono sD, ?_⟩
      refine wp_mono (wp_bind.mp qy) (fun ys qys => ?_) fun _ z => z
      intro v H' h1 h2 h3 h4
      exact qys v H' h1 h2 h3 (by rw [List.append_assoc] at h4; exact h4)
end
/-! ### defs that are lent something, defs that give something new -/
def retR (M : Res (Fl MO Empty)) : Res (PV × MO) := M >>= fun f => match f with
  | .nx mo => .val (.non, mo)
  | .rt v [mo] => .val (v, mo)
  | .rt _ _ => .stuck
  | .ro _ _ => .stuck
def retN (M : Res (Fl Unit Empty)) : Res MO := M >>= fun f => match f with
  | .ro mo _ => .val mo
  | .nx _ => .stuck
  | .rt _ _ => .stuck
def apR0 (f : MO → Res (PV × MO)) : MO → List PV → Res (PV × MO)
  | mo, [] => f mo
  | _, _ => .stuck
def apR1 (f : MO → PV → Res (PV × MO)) : MO → List PV → Res (PV × MO)
  | mo, [a] => f mo a
  | _, _ => .stuck
def apR2 (f : MO → PV → PV → Res (PV × MO)) : MO → List PV → Res (PV × MO)
  | mo, [a, b] => f mo a b
  | _, _ => .stuck
def apR3 (f : MO → PV → PV → PV → Res (PV × MO)) : MO → List PV → Res (PV × MO)
  | mo, [a, b, c] => f mo a b c
  | _, _ => .stuck
def apR4 (f : MO → PV → PV → PV → PV → Res (PV × MO)) : MO → List PV → Res (PV × MO)
  | mo, [a, b, c, d] => f mo a b c d
  | _, _ => .stuck
def apR5 (f : MO → PV → PV → PV → PV → PV → Res (PV × MO)) : MO → List PV → Res (PV × MO)
  | mo, [a, b, c, d, e] => f mo a b c d e
  | _, _ => .stuck
def apN0 (f : Res MO) : List PV → Res MO
  | [] => f
  | _ => .stuck
def apN1 (f : PV → Res MO) : List PV → Res MO
  | [a] => f a
  | _ => .stuck
def apN2 (f : PV → PV → Res MO) : List PV → Res MO
  | [a, b] => f a b
  | _ => .stuck
def apN3 (f : PV → PV → PV → Res MO) : List PV → Res MO
  | [a, b, c] => f a b c
  | _ => .stuck
def TaknR (n : Nat) (mf : MO → List PV → Res (PV × MO)) : Prop := ∀ mo ps, ps.length ≠ n → mf mo ps = .stuck
def TaknN (n : Nat) (mf : List PV → Res MO) : Prop := ∀ ps, ps.length ≠ n → mf ps = .stuck
theorem taknR0 {f : MO → Res (PV × MO)} : TaknR 0 (apR0 f) := fun mo ps h => by
  unfold apR0; split
  · exact absurd rfl h
  · rfl
theorem taknR1 {f : MO → PV → Res (PV × MO)} : TaknR 1 (apR1 f) := fun mo ps h => by
  unfold apR1; split
  · exact absurd rfl h
  · rfl
theorem taknR2 {f : MO → PV → PV → Res (PV × MO)} : TaknR 2 (apR2 f) := fun mo ps h => by
  unfold apR2; split
  · exact absurd rfl h
  · rfl
theorem taknR3 {f : MO → PV → PV → PV → Res (PV × MO)} : TaknR 3 (apR3 f) := fun mo ps h => by
  unfold apR3; split
  · exact absurd rfl h
  · rfl
theorem taknR4 {f : MO → PV → PV → PV → PV → Res (PV × MO)} : TaknR 4 (apR4 f) := fun mo ps h => by
  unfold apR4; split
  · exact absurd rfl h
  · rfl
theorem taknR5 {f : MO → PV → PV → PV → PV → PV → Res (PV × MO)} : TaknR 5 (apR5 f) := fun mo ps h => by
  unfold apR5; split
  · exact absurd rfl h
  · rfl
theorem taknN1 {f : PV → Res MO} : TaknN 1 (apN1 f) := fun ps h => by
  unfold apN1; split
  · exact absurd rfl h
  · rfl
theorem taknN2 {f : PV → PV → Res MO} : TaknN 2 (apN2 f) := fun ps h => by
  unfold apN2; split
  · exact absurd rfl h
  · rfl
theorem taknN3 {f : PV → PV → PV → Res MO} : TaknN 3 (apN3 f) := fun ps h => by
  unfold apN3; split
  · exact absurd rfl h
  · rfl
section
variable {P : Program} {w : World} {K : PySem.W.Frag} {mg : Str → Option Value} {base : Heap} {cl : Str → Option Addr}
open PySem.Spec PyProof.Rows in
theorem fnR {x qual : Str} {st : Stmt} {f : Addr} {fd : FuncData} {N ps : List Str} {k n : Nat} {mf : MO → List PV → Res (PV × MO)} (F : Fun K x qual st f fd) (S : FnScope N ps (defScope st)) (hn : ps.length = n + 1) (tk : TaknR n mf)
    (h : ∀ (cdv : Value) (A : Around) (outer : List Env) (s : Shared) (H : Hp) (E : XK), Room k (A.deeper (envOfC qual (defScope st) s.heap.objs.size f cdv)) → ∀ (mo : MO) (qs : List PV), qs.length = n → mf mo qs = .stuck ∨
      ∃ t, PSs (cxOf (L2.CX P w) P w K mg base N qual (defScope st) f cdv A outer s H E) (defBody st) t ∧ ∃ M, Runs K cl (fun c d _ H' => E c d H') t (.rf 0 mo :: (qs.map Slot.fz ++ uns (N.length - (n + 1)))) M (fun mo : MO => .rf 0 mo :: uns (N.length - 1)) (fun l : Empty => nomatch l) (uns N.length) ∧ mf mo qs = retR M) :
    FnOk P w K mg base (L2.CX P w) (k + 1) f fd ps (spR K cl mf) := by
  have len : ∀ vs H Q E, spR K cl mf vs H Q E → vs.length = n + 1 := fun vs H Q E ⟨O, b, mo, us, qs, e, hb, hO, hm, hl, hw⟩ => by
    rw [e, List.length_cons, hl.len]
    refine Classical.byContradiction fun c => ?_
    rw [tk mo qs (by omega)] at hw
    exact hw
  refine F.okX S (fun vs H Q E h => (len vs H Q E h).trans hn.symm) (fun cdv A outer s H vs Q E hr hsp => ?_)
  have hvn := len vs H Q E hsp
  obtain ⟨O, b, mo, us, qs, rfl, hb, hO, hm, hl, hw⟩ := hsp
  have hun : us.length = n := by rw [List.length_cons] at hvn; omega
  have hqn : qs.length = n := by rw [← hl.len]; exact hun
  rcases h cdv A outer s H E hr mo qs hqn with e | ⟨t, ht, M, hM, e⟩
  · rw [e] at hw; exact hw.elim
  refine ⟨t, ht, ?_⟩
  rw [e] at hw
  have st0 : L2.start N (V.ref b :: us) = some (V.ref b) :: (us.map some ++ List.replicate (N.length - (n + 1)) none) := by
    unfold L2.start
    rw [List.length_cons, hun]
    rfl
  rw [st0]
  have ea : adr (.rf 0 mo :: (qs.map Slot.fz ++ uns (N.length - (n + 1)))) (some (V.ref b) :: (us.map some ++ List.replicate (N.length - (n + 1)) none)) = [b] := congrArg (b :: ·) (fz_adr _ _ _)
  have eo : owa (.rf 0 mo :: (qs.map Slot.fz ++ uns (N.length - (n + 1)))) (some (V.ref b) :: (us.map some ++ List.replicate (N.length - (n + 1)) none)) = [] := fz_owa _ _ _
  have sO : Sub (frz H O) (frz H (O ++ [b])) := frz_less fun a ha => by
    rcases List.mem_append.mp ha with c | c
    · exact c
    · have : a = b := by simpa using c
      rw [this]; exact hb
  have R : Rel K cl O [b] (.rf 0 mo :: (qs.map Slot.fz ++ uns (N.length - (n + 1)))) (some (V.ref b) :: (us.map some ++ List.replicate (N.length - (n + 1)) none)) H := by
    refine ⟨?_, by rw [ea]; simp, hO, by rw [eo]; exact fun _ z => nomatch z⟩
    rw [ea]
    refine .cons ⟨b, rfl, rfl, hm.mono sO fun _ e => e⟩ ?_
    have q := fz_rel (K := K) (cl := cl) (H := H) (N.length - (n + 1)) (hl.mono sO)
    have lift : ∀ {ρ : Ro} {σ : L2.St} {F H : Hp}, RelS K cl [] F H ρ σ → (∀ s ∈ ρ, (∃ p, s = .fz p) ∨ s = .un) → RelS K cl [b] F H ρ σ := fun {ρ σ F H} r => by
      induction r with
      | nil => exact fun _ => .nil
      | cons a r ih =>
        intro hs
        refine .cons ?_ (ih fun s h => hs s (List.mem_cons_of_mem _ h))
        rcases hs _ List.mem_cons_self with ⟨p, rfl⟩ | rfl
        · exact a
        · exact trivial
    refine lift q fun s hs => ?_
    rcases List.mem_append.mp hs with c | c
    · obtain ⟨p, _, rfl⟩ := List.mem_map.mp c
      exact .inl ⟨p, rfl⟩
    · exact .inr (List.eq_of_mem_replicate c)
  refine hM O [b] _ H _ R (fun a ha => by have : a = b := by simpa using ha
                                          rw [this]; exact hb) (wp_mono (wp_bind.mp hw) (fun fl q => ?_) fun c q => q.elim)
  rw [ea]
  have keep : ∀ {A' : List Addr} {H' : Hp}, Gr [b] H A' H' → ∀ x o, x ≠ b → H x = some o → H' x = some o := fun {A' H'} g x o ne e => g.1 x o (by simpa using ne) e
  cases fl with
  | nx mo' =>
    intro σ' H' g R'
    have q' : ∀ v H', (∀ x o, x ≠ b → H x = some o → H' x = some o) → MoIs K cl (frz H' O) H' b mo' → Is K cl (frz H' O) v .non → Q v H' := q
    refine q' .non H' (keep g) ?_ .non
    have r0 : (Slot.rf 0 mo' :: uns (N.length - 1) : Ro)[0]? = some (.rf 0 mo') := rfl
    obtain ⟨x, e, a, rfl, hk, hmo⟩ := R'.sl.get r0
    have : b = a := by simpa using hk
    subst this
    exact hmo.mono (frz_less fun a ha => List.mem_append_left _ ha) fun _ e => e
  | rt v r =>
    match r, q with
    | [mo'], q =>
      have q' : ∀ v' H', (∀ x o, x ≠ b → H x = some o → H' x = some o) → MoIs K cl (frz H' O) H' b mo' → Is K cl (frz H' O) v' v → Q v' H' := q
      exact fun w' H' g i hbm => q' w' H' (keep g) (hbm 0 b mo' rfl rfl) i
  | ro mo r => exact q.elim
  | bk l => exact nomatch l
  | ct l => exact nomatch l
open PySem.Spec PyProof.Rows in
theorem fnN {x qual : Str} {st : Stmt} {f : Addr} {fd : FuncData} {N ps : List Str} {k n : Nat} {mf : List PV → Res MO} (F : Fun K x qual st f fd) (S : FnScope N ps (defScope st)) (hn : ps.length = n) (tk : TaknN n mf)
    (h : ∀ (cdv : Value) (A : Around) (outer : List Env) (s : Shared) (H : Hp) (E : XK), Room k (A.deeper (envOfC qual (defScope st) s.heap.objs.size f cdv)) → ∀ qs : List PV, qs.length = n →
      ∃ t, PSs (cxOf (L2.CX P w) P w K mg base N qual (defScope st) f cdv A outer s H E) (defBody st) t ∧ ∃ M, Runs K cl (fun c d _ H' => E c d H') t (qs.map Slot.fz ++ uns (N.length - n)) M (fun _ : Unit => uns N.length) (fun l : Empty => nomatch l) (uns N.length) ∧ mf qs = retN M) :
    FnOk P w K mg base (L2.CX P w) (k + 1) f fd ps (spN K cl mf) := by
  have len : ∀ vs H Q E, spN K cl mf vs H Q E → vs.length = n := fun vs H Q E ⟨O, qs, hO, hl, hw⟩ => by
    rw [hl.len]
    refine Classical.byContradiction fun c => ?_
    rw [tk qs c] at hw
    exact hw
  refine F.okX S (fun vs H Q E h => (len vs H Q E h).trans hn.symm) (fun cdv A outer s H vs Q E hr hsp => ?_)
  have hvn := len vs H Q E hsp
  obtain ⟨O, qs, hO, hl, hw⟩ := hsp
  have hqn : qs.length = n := by rw [← hl.len]; exact hvn
  obtain ⟨t, ht, M, hM, e⟩ := h cdv A outer s H E hr qs hqn
  refine ⟨t, ht, ?_⟩
  rw [e] at hw
  have st0 : L2.start N vs = vs.map some ++ List.replicate (N.length - n) none := by unfold L2.start; rw [hvn]
  rw [st0]
  have R : Rel K cl O [] (qs.map Slot.fz ++ uns (N.length - n)) (vs.map some ++ List.replicate (N.length - n) none) H :=
    ⟨by rw [fz_adr, List.append_nil]; exact fz_rel _ hl, by rw [fz_adr]; exact List.nodup_nil, hO, by rw [fz_owa]; exact fun _ z => nomatch z⟩
  refine hM O [] _ H _ R (fun _ z => nomatch z) (wp_mono (wp_bind.mp hw) (fun fl q => ?_) fun c q => q.elim)
  rw [fz_adr]
  cases fl with
  | nx s => exact q.elim
  | rt v r => exact q.elim
  | ro mo r =>
    intro p H' g n hm _
    refine q p H' (fun x o e => g.1 x o (fun z => nomatch z) e) ?_ hm
    rcases g.2 p (by simp) with c | c
    · cases c
    · exact c
  | bk l => exact nomatch l
  | ct l => exact nomatch l
end
section
variable {K : PySem.W.Frag} {cl : Str → Option Addr} {W : WX} {bs O A A1 B : List Addr} {F H H' H1 : Hp} {ρ ρ' ρx ρh : Ro} {σ : St} {S S1 S2 L : Type} {ρs : S → Ro} {ρn : S1 → Ro} {ρl : L → Ro} {D : Ends} {t u v tb : TS} {te ta tc td : TE} {ma mb : S → Res (PV × S)} {tr : TA} {ml : Res (List PV)} {mls : S → Res (List PV × S)}
def moL : MO → Res (List PV)
  | .lst l => .val l
  | _ => .stuck
def moD : MO → Res (List (Key × PV))
  | .dct l => .val l
  | _ => .stuck
theorem nw_callN {mf : List PV → Res MO} (hl : PurL K cl W tr ρ ml) : New K cl W (tCallS (spN K cl mf) (WE W) tr) ρ (ml >>= fun ps => noX (mf ps) >>= moL) := fun O bs σ H Q R q => by
  refine hl O bs σ H _ R (wp_mono (wp_bind.mp q) (fun ps qs vs H1 s1 i1 => ?_) fun _ z => z)
  refine ⟨O ++ adr ρ σ, ps, fun a h => (R.same s1).got h, i1, wp_mono (wp_noX (E' := fun _ => False) (wp_bind.mp qs)) (fun mo qm p H' s hp hm => ?_) fun _ z => z⟩
  cases mo with
  | lst l =>
    obtain ⟨vs', h1, h2⟩ := hm
    exact qm p vs' H' (s1.trans s) (none_back s1 hp) h1 h2
  | _ => exact qm.elim
theorem nd_callN {mf : List PV → Res MO} (hl : PurL K cl W tr ρ ml) : NewD K cl W (tCallS (spN K cl mf) (WE W) tr) ρ (ml >>= fun ps => noX (mf ps) >>= moD) := fun O bs σ H Q R q => by
  refine hl O bs σ H _ R (wp_mono (wp_bind.mp q) (fun ps qs vs H1 s1 i1 => ?_) fun _ z => z)
  refine ⟨O ++ adr ρ σ, ps, fun a h => (R.same s1).got h, i1, wp_mono (wp_noX (E' := fun _ => False) (wp_bind.mp qs)) (fun mo qm p H' s hp hm => ?_) fun _ z => z⟩
  cases mo with
  | dct l =>
    obtain ⟨vs', h1, h2⟩ := hm
    exact qm p vs' H' (s1.trans s) (none_back s1 hp) h1 h2
  | _ => exact qm.elim
/-! pop -/
def popL (l : List PV) (i : PV) : Res (PV × List PV) := match i with
  | .int i => if -(2 ^ 63) ≤ i ∧ i < 2 ^ 63 then match seqIndex? i l.length with
      | some k => match l[k]? with
        | some y => .val (y, l.eraseIdx k)
        | none => .stuck
      | none => .stuck
    else .stuck
  | _ => .stuck
theorem ef_pop {i : Nat} {sl : S → Slot} {get : S → List PV} {put : S → List PV → S} (hi : ∀ s, (ρs s)[i]? = some (sl s)) (hs : ∀ s, sl s = .ow (.lst (get s)) ∨ ∃ k, sl s = .rf k (.lst (get s))) (hp : ∀ s l, (ρs s).set i (reSl (sl s) (.lst l)) = ρs (put s l)) (ha : Eff K cl ta ρs ma) :
    Eff K cl (tBM K "list" rPopAt (tVar i) (tCons ta tNil)) ρs (fun s => ma s >>= fun k => popL (get k.2) k.1 >>= fun r => .val (r.1, put k.2 r.2)) := fun s O bs σ H Q R hb q => by
  have got : ∀ s' H', Rel K cl O bs (ρs s') σ H' → ∃ a vs, σ[i]? = some (some (.ref a)) ∧ H' a = some (.lst vs) ∧ IsL K cl (frz H' (O ++ adr (ρs s') σ)) vs (get s') := fun s' H' R => by
    obtain ⟨x, e, q⟩ := R.sl.get (hi s')
    rcases hs s' with h | ⟨k, h⟩
    · rw [h] at q; obtain ⟨a, rfl, vs, h1, h2⟩ := q; exact ⟨a, vs, e, h1, h2⟩
    · rw [h] at q; obtain ⟨a, rfl, _, vs, h1, h2⟩ := q; exact ⟨a, vs, e, h1, h2⟩
  obtain ⟨a, vs, hA, hv, hl⟩ := got _ _ R
  refine ⟨_, hA, .inl ⟨rfl, _, .inl (.inl hv)⟩, ha s O bs σ H _ R hb (wp_mono (wp_bind.mp q) (fun k qk v H1 g1 R1 e1 i1 => ?_) fun _ z => z)⟩
  obtain ⟨a', vs', hA', hv', hl'⟩ := got _ _ R1
  rw [hA] at hA'
  cases hA'
  have qk := wp_bind.mp qk
  unfold popL at qk
  split at qk
  · next j hj =>
    rw [hj] at i1
    cases i1
    split at qk
    · next c =>
      split at qk
      · next n hn =>
        split at qk
        · next y hy =>
          obtain ⟨vy, h1, h2⟩ := hl'.get hy
          obtain ⟨R2, g2⟩ := R1.put (m' := .lst ((get k.2).eraseIdx n)) (o := .lst (vs'.eraseIdx n)) (hi k.2) (hs k.2) hA ⟨_, upd_same, IsL.erase n hl'⟩
          have e2 := (adr_re (σ := σ) (m' := .lst ((get k.2).eraseIdx n)) (hi k.2)).1
          have g2e : Gr (adr (ρs s) σ) H1 (adr (ρs s) σ) (upd H1 a (.lst (vs'.eraseIdx n))) := by rw [e2, e1] at g2; exact g2
          rw [hp] at R2 e2
          refine ⟨a, vs', j, n, vy, rfl, rfl, hv', c.1, c.2, by rw [hl'.len]; exact hn, h1, qk vy _ (g1.trans g2e) R2 (e2.trans e1) ?_⟩
          rw [← e1]
          exact h2.mono (by rw [e1]; exact g2e.sub R1.al)
        · exact qk.elim
      · exact qk.elim
    · exact qk.elim
  · exact qk.elim
end
open PySem.Spec PyProof.Rows in
theorem fn_stuckR {P : Program} {w : World} {K : PySem.W.Frag} {mg : Str → Option Value} {base : Heap} {CX : CXT} {cl : Str → Option Addr} {k : Nat} {f : Addr} {fd : FuncData} {ps : List Str} {mf : MO → List PV → Res (PV × MO)} (h : ∀ mo qs, mf mo qs = .stuck) : FnOk P w K mg base CX k f fd ps (spR K cl mf) := by
  refine ⟨fun vs H Q E ⟨O, b, mo, us, qs, _, _, _, _, _, hw⟩ => ?_, fun A outer s H args us vs Q E _ _ _ _ ⟨O, b, mo, us, qs, _, _, _, _, _, hw⟩ => ?_⟩
  · rw [h] at hw; exact hw.elim
  · rw [h] at hw; exact hw.elim
theorem stuckR0 : ∀ mo qs, apR0 (fun _ => (.stuck : Res (PV × MO))) mo qs = .stuck := fun mo qs => by unfold apR0; split <;> rfl
theorem stuckR1 : ∀ mo qs, apR1 (fun _ _ => (.stuck : Res (PV × MO))) mo qs = .stuck := fun mo qs => by unfold apR1; split <;> rfl
theorem stuckR2 : ∀ mo qs, apR2 (fun _ _ _ => (.stuck : Res (PV × MO))) mo qs = .stuck := fun mo qs => by unfold apR2; split <;> rfl
theorem stuckR3 : ∀ mo qs, apR3 (fun _ _ _ _ => (.stuck : Res (PV × MO))) mo qs = .stuck := fun mo qs => by unfold apR3; split <;> rfl
theorem stuckR4 : ∀ mo qs, apR4 (fun _ _ _ _ _ => (.stuck : Res (PV × MO))) mo qs = .stuck := fun mo qs => by unfold apR4; split <;> rfl
theorem stuckR5 : ∀ mo qs, apR5 (fun _ _ _ _ _ _ => (.stuck : Res (PV × MO))) mo qs = .stuck := fun mo qs => by unfold apR5; split <;> rfl
/-! ### list(range(..)), tuple(range(..)), isinstance with two, the law -/
section
variable {K : PySem.W.Frag} {cl : Str → Option Addr} {W : WX} {bs O A A1 B : List Addr} {F H H' H1 : Hp} {ρ : Ro} {σ : L2.St} {ta tb : TE} {ma mb : Res PV}
def rgL (lo hi : Int) : Res (List PV) := if -(2 ^ 62) ≤ lo ∧ lo < 2 ^ 62 ∧ -(2 ^ 62) ≤ hi ∧ hi < 2 ^ 62 ∧ (hi - lo).toNat ≤ 2 ^ 24 then .val (rngP lo hi) else .stuck
theorem is_rg : ∀ (l : List Nat) (lo : Int), IsL K cl F (l.map fun i => V.int (lo + (i : Nat))) (l.map fun i => PV.int (lo + (i : Nat)))
  | [], _ => .nil
  | _ :: l, lo => .cons (.int _) (is_rg l lo)
theorem wp_rgL {lo hi : Int} {Q : List PV → Prop} {E : Str → Prop} (h : wp (rgL lo hi) Q E) : RgOk lo hi ∧ Q (rngP lo hi) := by
  unfold rgL at h
  split at h
  · next c => exact ⟨c, h⟩
  · exact h.elim
def PRgP (K : PySem.W.Frag) (cl : Str → Option Addr) (W : WX) (t : L2.St → Hp → (Int → Int → Hp → Prop) → Prop) (ρ : Ro) (m : Res (Int × Int)) : Prop := ∀ (O bs : List Addr) (σ : L2.St) (H : Hp) (Q : Int → Int → Hp → Prop), Rel K cl O bs ρ σ H →
  wp m (fun r => ∀ H', Sub H H' → Q r.1 r.2 H') (XW cl W σ H) → t σ H Q
theorem rg_1 (ha : Vw K cl W ta ρ ma) : PRgP K cl W (tRg1 ta) ρ (ma >>= partP >>= fun i => .val (0, i)) := fun O bs σ H Q R q => by
  rw [wp_bind, wp_bind] at q
  refine ha O bs σ H _ R (wp_mono q (fun x qx v1 H1 s1 i1 => ?_) fun _ z => z)
  unfold partP at qx
  split at qx
  · cases isV_int i1; exact ⟨_, rfl, qx H1 s1⟩
  · exact qx.elim
theorem rg_2 (ha : Vw K cl W ta ρ ma) (hb : Vw K cl W tb ρ mb) : PRgP K cl W (tRg2 ta tb) ρ (ma >>= fun x => mb >>= fun y => partP x >>= fun i => partP y >>= fun j => .val (i, j)) := fun O bs σ H Q R q => by
  refine ha O bs σ H _ R (wp_mono (wp_bind.mp q) (fun x qx v1 H1 s1 i1 => ?_) fun _ z => z)
  refine hb O bs σ H1 _ (R.same s1) (wp_mono (wp_bind.mp qx) (fun y qy v2 H2 s2 i2 => ?_) fun _ z => z.mono s1)
  unfold partP at qy
  split at qy
  · cases isV_int i1
    have qy := wp_bind.mp qy
    split at qy
    · cases isV_int i2; exact ⟨_, _, rfl, rfl, qy H2 (s1.trans s2)⟩
    · exact qy.elim
  · exact qy.elim
theorem nw_listRg {t : L2.St → Hp → (Int → Int → Hp → Prop) → Prop} {m : Res (Int × Int)} (h : PRgP K cl W t ρ m) : New K cl W (tLstRg t) ρ (m >>= fun r => rgL r.1 r.2) := fun O bs σ H Q R q => by
  refine h O bs σ H _ R (wp_mono (wp_bind.mp q) (fun r qr H1 s1 => ?_) fun _ z => z)
  obtain ⟨ok, qr⟩ := wp_rgL qr
  exact ⟨ok, fun p hp => qr p _ _ (s1.trans (sub_new hp _)) (none_back s1 hp) upd_same (is_rg _ _)⟩
theorem pu_tupRg {t : L2.St → Hp → (Int → Int → Hp → Prop) → Prop} {m : Res (Int × Int)} (h : PRgP K cl W t ρ m) : Pur K cl W (tTupRg t) ρ (m >>= fun r => rgL r.1 r.2 >>= fun l => .val (.tup l)) := fun O bs σ H Q R q => by
  refine h O bs σ H _ R (wp_mono (wp_bind.mp q) (fun r qr H1 s1 => ?_) fun _ z => z)
  obtain ⟨ok, qr⟩ := wp_rgL (wp_bind.mp qr)
  exact ⟨ok, fun p hp => qr _ _ (s1.trans (sub_new hp _)) (new_tup (fun a h => (R.same s1).got h) hp (is_rg _ _))⟩
theorem New.pur' {t : TE} {α : Type} {m : Res α} {f : α → Res (List PV)} (h : New K cl W t ρ (m >>= f)) : Pur K cl W t ρ (m >>= fun x => f x >>= fun l => .val (.lst l)) := by
  have q := h.pur
  cases m <;> exact q
def isiP2 (a b : String) (p : PV) : Res PV := match tyNm p with
  | some n => match kitB n a, kitB n b with
    | some r, some s => .val (.bl (r || s))
    | _, _ => .stuck
  | none => .stuck
theorem call_isiTV (K : PySem.W.Frag) {X : Cx} (e : X.K = K) : CallR X (.builtin "isinstance") (rIsiT K) := by subst e; exact call_isiT
theorem pu_isi2 {a b : String} (ha : Vw K cl W ta ρ ma) : Pur K cl W (tCB (rIsiT K) (tCons ta (tCons (tTup (tCons (tC (.ty a)) (tCons (tC (.ty b)) tNil))) tNil))) ρ (ma >>= isiP2 a b) := fun O bs σ H Q R q => by
  refine ha O bs σ H _ R (wp_mono (wp_bind.mp q) (fun x qx v1 H1 s1 i1 => ?_) fun _ z => z)
  unfold isiP2 at qx
  split at qx
  · next n hn =>
    split at qx
    · next r s hr hs =>
      refine ⟨by show 2 ≤ sizeLine; decide, fun p hp => ⟨v1, p, [.ty a, .ty b], .type n, [.type a, .type b], r || s, rfl, upd_same, .cons (.ty _) (.cons (.ty _) .nil), ?_, ?_, qx _ _ (s1.trans (sub_new hp _)) (.bl _)⟩⟩
      · exact isV_ty (i1.mono (frz_same (sub_new hp _)) (sub_new hp _)) frz_sub hn
      · refine kitAny_cons (kit_ty hr) (fun e => ?_) fun e => by rw [e]; rfl
        rw [e, Bool.false_or]
        exact kitAny_cons (kit_ty hs) (fun e => by rw [e]; exact kitAny_nil) fun e => e
    · exact qx.elim
  · exact qx.elim
end
section
variable {P : Program} {w : World} {K : PySem.W.Frag} {mg : Str → Option Value} {base : Heap} {cl : Str → Option Addr}
def spLaw (K : PySem.W.Frag) : Sp := fun vs H Q _ => ∃ (a : Addr) (ns : List Int), vs = [.ref a] ∧ SqL K H a (ns.map V.int) ∧ ns.length ≤ 63 ∧ ∀ H', Q (.bl true) H'
open PySem.Spec PyProof.Rows in
theorem fnLaw {x qual sx : Str} {st : Stmt} {f : Addr} {fd : FuncData} {N : List Str} {k : Nat} (F : Fun K x qual st f fd) (S : FnScope N [sx] (defScope st)) {ml : List Int → Res PV} (hml : ∀ ns : List Int, ns.length ≤ 63 → ml ns = .val (.bl true))
    (h : ∀ (cdv : Value) (A : Around) (outer : List Env) (s : Shared) (H : Hp) (E : XK), Room k (A.deeper (envOfC qual (defScope st) s.heap.objs.size f cdv)) → ∀ ns : List Int,
      ∃ t, PSs (cxOf CX0 P w K mg base N qual (defScope st) f cdv A outer s H E).nox (defBody st) t ∧ ∃ M, Runs K cl (fun c d _ H' => E0 c d H') t (.fz (.fls (ns.map PV.int)) :: uns (N.length - 1)) M (fun _ : Unit => uns N.length) (fun l : Empty => nomatch l) (uns N.length) ∧ ml ns = retF M) :
    FnOk P w K mg base CX0 (k + 1) f fd [sx] (spLaw K) := by
  refine F.ok S (fun vs H Q E h => ?_) (fun cdv A outer s H vs Q E hr hsp => ?_)
  · obtain ⟨_, _, rfl, _⟩ := h; rfl
  obtain ⟨a, ns, rfl, hS, h63, k⟩ := hsp
  obtain ⟨t, ht, M, hM, e⟩ := h cdv A outer s H E hr ns
  refine ⟨t, ht, ?_⟩
  have hw := (hml ns h63).symm.trans e
  have hw : wp (retF M) (fun r => r = .bl true) (fun _ => False) := by rw [← hw]; exact rfl
  have R : Rel K cl [] [] (.fz (.fls (ns.map PV.int)) :: uns (N.length - 1)) (some (V.ref a) :: List.replicate (N.length - 1) none) H := by
    have ea : adr (.fz (.fls (ns.map PV.int)) :: uns (N.length - 1)) (some (V.ref a) :: List.replicate (N.length - 1) none) = [] := uns_adr _ _
    refine ⟨?_, by rw [ea]; exact List.nodup_nil, fun _ z => (nomatch z), fun _ _ z => nomatch z⟩
    rw [ea]
    refine .cons ⟨_, rfl, .fls (Sub.sqL (F := H) (F' := frz H ([] ++ [])) (fun x o e => frz_some.mpr ⟨(fun z => nomatch z), e⟩) hS) (IsL.of_ints ns)⟩ ?_
    exact fz_rel (vs := []) (qs := []) _ .nil
  refine hM [] [] _ H _ R (fun _ z => nomatch z) (wp_mono (wp_bind.mp hw) (fun fl q => ?_) fun c q => q.elim)
  cases fl with
  | nx s => exact absurd (show PV.non = .bl true from q) (fun z => nomatch z)
  | rt v r =>
    have q : v = .bl true := q
    subst q
    exact fun w' H' g i _ => by cases i; exact k H'
  | ro mo r => exact q.elim
  | bk l => exact nomatch l
  | ct l => exact nomatch l
end
/-! ### tuple * int, any int -/
section
open PySem.Spec PyProof.Rows
theorem tup_mul1 (l : Addr) (items : Array Value) (n : Nat) (dd : Option Addr) (sl : Array (Option Value)) (x : Int) (u : Tok) (c0 : (decide (x < -(2 ^ 63)) || decide (x ≥ 2 ^ 63)) = false) (c1 : (items.isEmpty || x == 1) = true) :
    Meets (Builtin.«tuple.__mul__» ⟨[.ref l, .int x u], []⟩) (fun _ R s => s.heap.get? l = some { cls := .type "tuple", dict := dd, data := .seq items n, slots := sl } ∧ R (.ok (.ret (Value.ref l))) s) :=
  .of_wp fun prog w A R s h => by
    obtain ⟨hp, g, d, tk, os⟩ := s
    obtain ⟨hl, h⟩ := h
    have f1 := AutoSeq1.idx_int
    wp_walk using wpAny_loadPart' hl
    repeat (first
      | (refine wpAny_ite_false (decide_eq_false (by rw [c0]; exact Bool.false_ne_true)) ?_; wp_walk using wpAny_loadPart' hl)
      | (refine wpAny_ite_true (decide_eq_true (by rw [c1])) ?_; wp_walk using wpAny_loadPart' hl))
    all_goals exact ⟨_, rfl, h⟩
theorem tup_mul0 (l : Addr) (items : Array Value) (n : Nat) (dd : Option Addr) (sl : Array (Option Value)) (x : Int) (u : Tok) (c0 : (decide (x < -(2 ^ 63)) || decide (x ≥ 2 ^ 63)) = false) (c1 : (items.isEmpty || x == 1) = false) (c2 : (decide (x ≤ 0) || items.isEmpty) = true) :
    Meets (Builtin.«tuple.__mul__» ⟨[.ref l, .int x u], []⟩) (fun _ R s => s.heap.get? l = some { cls := .type "tuple", dict := dd, data := .seq items n, slots := sl } ∧
      R (.ok (.ret (Value.ref s.heap.objs.size))) { s with heap := s.heap.push { cls := Value.type "tuple", data := Data.seq #[] }, toks := s.toks }) :=
  .of_wp fun prog w A R s h => by
    obtain ⟨hp, g, d, tk, os⟩ := s
    obtain ⟨hl, h⟩ := h
    have f1 := AutoSeq1.idx_int
    wp_walk using wpAny_loadPart' hl
    repeat (first
      | (refine wpAny_ite_false (decide_eq_false (by rw [c0]; exact Bool.false_ne_true)) ?_; wp_walk using wpAny_loadPart' hl)
      | (refine wpAny_ite_false (decide_eq_false (by rw [c1]; exact Bool.false_ne_true)) ?_; wp_walk using wpAny_loadPart' hl)
      | (refine wpAny_ite_true (decide_eq_true (by rw [c2])) ?_; wp_walk using wpAny_loadPart' hl))
    all_goals exact ⟨_, rfl, h⟩
def rRepT1 (K : PySem.W.Frag) : R2 := fun x y H Q => ∃ l k xs, x = .ref l ∧ y = .int k ∧ SqT K H l xs ∧ -(2 ^ 63) ≤ k ∧ k < 2 ^ 63 ∧ (xs = [] ∨ k = 1) ∧ Q (.ref l) H
def rRepT0 (K : PySem.W.Frag) : R2 := fun x y H Q => ∃ l k xs, x = .ref l ∧ y = .int k ∧ SqT K H l xs ∧ -(2 ^ 63) ≤ k ∧ k ≤ 0 ∧ xs ≠ [] ∧ ∀ p, H p = none → Q (.ref p) (upd H p (.tup []))
theorem op_repT1 {X : Cx} : OpR X (binaryOp .Mult) (rRepT1 X.K) := by
  intro pins s σ H x y v u Q I rx ry h
  obtain ⟨l, k, xs, rfl, rfl, hT, h1, h2, h3, q⟩ := h
  cases rx
  obtain ⟨t, rfl⟩ := ry
  obtain ⟨its, r, ⟨⟨cls, dd, data, sl⟩, ho, hc, n, hd⟩, hs⟩ := I.tuple hT
  simp only at hc hd
  subst hc hd
  have c0 : (decide (k < -(2 ^ 63)) || decide (k ≥ 2 ^ 63)) = false := by
    rw [decide_eq_false (by omega), decide_eq_false (by omega)] <;> rfl
  have c1 : (its.toArray.isEmpty || k == 1) = true := by
    rcases h3 with h3 | h3
    · have e : its = [] := List.eq_nil_of_length_eq_zero (by rw [← r.length, h3]; rfl)
      subst e
      rfl
    · rw [h3]
      exact Bool.or_true _
  exact wpAny_binaryOp_repeat_ref (T := "tuple") (U := "int") (by decide) ⟨_, ho, rfl⟩ (fun s' => typeIs_int s' k t) noFill_tuple_mul F.fills_int_mul F.slot_int_rmul repeat_tuple F.slot_int_index.lookup
    (call_meets F.slot_int_rmul (typeIs_int s k t) F.entry_int_rmul (F.args_int_rmul_2 _ _) (int_rmul_tuple k t l its.toArray n dd sl)
      ⟨ho, rfl, ⟨_, ho, rfl⟩, call_meets F.slot_tuple_mul ⟨_, ho, rfl⟩ F.entry_tuple_mul (F.args_tuple_mul_2 _ _) (tup_mul1 l its.toArray n dd sl k t c0 c1) ⟨ho, .ref l, H, I, rfl, q⟩⟩)
theorem op_repT0 {X : Cx} : OpR X (binaryOp .Mult) (rRepT0 X.K) := by
  intro pins s σ H x y v u Q I rx ry h
  obtain ⟨l, k, xs, rfl, rfl, hT, h1, h2, h3, q⟩ := h
  cases rx
  obtain ⟨t, rfl⟩ := ry
  obtain ⟨its, r, ⟨⟨cls, dd, data, sl⟩, ho, hc, n, hd⟩, hs⟩ := I.tuple hT
  simp only at hc hd
  subst hc hd
  have hi : its.toArray.isEmpty = false := by
    cases its with
    | nil => exact absurd (List.eq_nil_of_length_eq_zero (by rw [r.length]; rfl)) h3
    | cons a b => rfl
  have c0 : (decide (k < -(2 ^ 63)) || decide (k ≥ 2 ^ 63)) = false := by
    rw [decide_eq_false (by omega), decide_eq_false (by omega)] <;> rfl
  have c1 : (its.toArray.isEmpty || k == 1) = false := by
    rw [hi, Bool.false_or]
    exact beq_eq_false_iff_ne.mpr (by omega)
  have c2 : (decide (k ≤ 0) || its.toArray.isEmpty) = true := by
    rw [decide_eq_true h2]
    rfl
  refine wpAny_binaryOp_repeat_ref (T := "tuple") (U := "int") (by decide) ⟨_, ho, rfl⟩ (fun s' => typeIs_int s' k t) noFill_tuple_mul F.fills_int_mul F.slot_int_rmul repeat_tuple F.slot_int_index.lookup
    (call_meets F.slot_int_rmul (typeIs_int s k t) F.entry_int_rmul (F.args_int_rmul_2 _ _) (int_rmul_tuple k t l its.toArray n dd sl)
      ⟨ho, rfl, ⟨_, ho, rfl⟩, call_meets F.slot_tuple_mul ⟨_, ho, rfl⟩ F.entry_tuple_mul (F.args_tuple_mul_2 _ _) (tup_mul0 l its.toArray n dd sl k t c0 c1 c2) ⟨ho, ?_⟩⟩)
  refine ⟨.ref s.heap.objs.size, _, I.laid (t' := s.toks) (o := .tup []) (fun b ob q => Heap.get?_push_of_some _ q) (Nat.le_refl _) ?_, rfl, q _ (I.hok.fresh (Nat.le_refl _))⟩
  exact ⟨Nat.zero_le _, [], .nil, IsTup.new _ _⟩
end
section
variable {K : PySem.W.Frag} {cl : Str → Option Addr}
def repT : PV → PV → Res PV
  | .tup xs, .int k =>
    if -(2 ^ 63) ≤ k ∧ k < 2 ^ 63 ∧ (xs.length = 0 ∨ k = 1) then .val (.tup xs)
    else if -(2 ^ 63) ≤ k ∧ k ≤ 0 ∧ xs.length ≠ 0 then .val (.tup [])
    else if xs.length ≠ 0 ∧ 2 ≤ k ∧ k ≤ 1000 ∧ xs.length ≤ 1000 then .val (.tup (List.replicate k.toNat xs).flatten)
    else .stuck
  | _, _ => .stuck
def rRepTV (K : PySem.W.Frag) : R2 := rOr (rRepT1 K) (rOr (rRepT0 K) (rRepT K))
theorem o2_repT : Op2 K cl (rRepTV K) repT := fun A H x y p q Q E hA ix iy w => by
  unfold repT at w
  split at w
  · cases ix with
    | tup h l =>
    cases isV_int iy
    split at w
    · next c =>
      refine .inl ⟨_, _, _, rfl, rfl, frz_sub.sqT h, c.1, c.2.1, ?_, w _ H .refl (.tup h l)⟩
      rcases c.2.2 with e | e
      · exact .inl (List.eq_nil_of_length_eq_zero (by rw [l.len]; exact e))
      · exact .inr e
    · split at w
      · next c =>
        refine .inr (.inl ⟨_, _, _, rfl, rfl, frz_sub.sqT h, c.1, c.2.1, fun e => c.2.2 (by rw [← l.len, e]; rfl), fun p hp => w _ _ (sub_new hp _) (new_tup hA hp .nil)⟩)
      · split at w
        · next c =>
          refine .inr (.inr ⟨_, _, _, rfl, rfl, frz_sub.sqT h, fun e => c.1 (by rw [← l.len, e]; rfl), c.2.1, c.2.2.1, by rw [l.len]; exact c.2.2.2, fun p hp => w _ _ (sub_new hp _) (new_tup hA hp (l.reps _))⟩)
        · exact w.elim
  · exact w.elim
def mulPT : PV → PV → Res PV := orS mulP repT
def rMulVT (K : PySem.W.Frag) : R2 := rOr rMulV (rRepTV K)
theorem o2_mulT : Op2 K cl (rMulVT K) mulPT := o2_or o2_mul o2_repT
theorem op_mulVT (K : PySem.W.Frag) {X : Cx} (e : X.K = K) : OpR X (binaryOp .Mult) (rMulVT K) := by
  subst e
  exact op_mulV.or (op_repT1.or (op_repT0.or op_repT))
end
/-! ### sum of a tuple -/
section
open PySem.Spec PyProof.Rows
theorem sumT_raw {prog : Program} {w : World} {A : Around} {E : Value → Shared → Prop} {s : Shared} {Q : Value → Shared → Prop} {l : Addr} {its : List Value} {ns : List Int} (hh : A.handled = none) (hl : s.heap.IsTuple l its.toArray) (hi : IntsAre its ns)
    (h : ∀ h' tk t', (∀ b o, s.heap.get? b = some o → h'.get? b = some o) → Q (.int ns.sum t') { s with heap := h', toks := tk }) : wpAny (model prog w) A (call (.builtin "sum") [.ref l]) Q E s := by
  obtain ⟨xs, e⟩ := hi.allInts.items
  have hn : numsOf (intItems xs).toList = ns := by rw [← e]; exact hi.numsOf
  rw [nums_intItems] at hn
  rw [e] at hl
  have hlt : l < s.heap.objs.size := by obtain ⟨_, e, _⟩ := hl; exact Heap.lt_size e
  refine call_sum_walkG (wpAny_pyIter_tuple hl ?_)
  refine ⟨_, [s.heap.objs.size, l], [s.heap.objs.size], _, _, _, numAt xs, rfl, Walks.tuple (A := A.in1) hh _ l (Nat.ne_of_lt hlt) (intItems xs), ⟨⟨_, Heap.get?_push_size _ rfl, rfl, rfl⟩, hl.push _⟩, fun b hb => ?_, (fun _ _ => intItems_at), fun h' tk t' hk => ?_⟩
  · show b < (s.heap.push _).objs.size
    rw [Heap.size_push]
    rcases List.mem_cons.mp hb with rfl | hb
    · exact Nat.lt_succ_self _
    · rcases List.mem_cons.mp hb with rfl | hb
      · exact Nat.lt_succ_of_lt hlt
      · cases hb
  · have := h h' tk t' fun b o eo => hk b o (fun hm => by
      have : b = s.heap.objs.size := by simpa using hm
      exact absurd (this ▸ Heap.lt_size eo) (Nat.lt_irrefl _)) (Heap.get?_push_of_some _ eo)
    have e2 : preSum (numAt xs) (intItems xs).size = ns.sum := by
      have : (intItems xs).size = xs.size := by simp [intItems]
      rw [this, preSum_eq, List.take_of_length_le (by simp), hn]
    rw [e2]
    exact this
def rSumT (K : PySem.W.Frag) : List V → Hp → VK → Prop := fun vs H Q => ∃ (a : Addr) (ns : List Int), vs = [V.ref a] ∧ SqT K H a (ns.map V.int) ∧ Q (.int ns.sum) H
theorem cr_sumT {X : Cx} (hc : X.calm = true) : CallR X (.builtin "sum") (rSumT X.K) := by
  intro pins s σ H vs us Q I r h
  obtain ⟨a, ns, rfl, hs, q⟩ := h
  obtain ⟨its, rv, hl, _⟩ := I.tuple hs
  rw [Vals.ref1 r]
  refine sumT_raw (I.ok.hd hc) hl rv.ints fun h' tk t' hk => ⟨.int _, H, I.kept hk, ⟨_, rfl⟩, q⟩
end
section
variable {K : PySem.W.Frag} {cl : Str → Option Addr}
def rSumV (K : PySem.W.Frag) : List V → Hp → VK → Prop := cOr (rSum K) (rSumT K)
theorem cr_sumVT (K : PySem.W.Frag) {X : Cx} (e : X.K = K) (hc : X.calm = true) : CallR X (.builtin "sum") (rSumV K) := by
  subst e
  exact (cr_sum hc).or (cr_sumT hc)
def sumPT (p : PV) : Res PV := asSq p >>= fun ps => match allI ps with
  | some is => .val (.int is.sum)
  | none => .stuck
theorem b1_sumT : Bi1 K cl (rSumV K) sumPT := fun A H x p Q E hA ix w => by
  obtain ⟨a, vs, ps, rfl, hs, hl, w⟩ := wp_asSq (wp_bind.mp w) ix
  split at w
  · next is e =>
    cases allI_eq e
    cases hl.ints
    rcases hs with hs | hs
    · exact .inr ⟨a, is, rfl, hs, w _ H .refl (.int _)⟩
    · exact .inl ⟨a, is, rfl, hs, w _ H .refl (.int _)⟩
  · exact w.elim
end
/-! ### making, methods: the wish for an exception may hang on the slots -/
section
open PySem.Spec PyProof.Rows
variable {X : Cx} {CX : CXT} {k : Nat} {f C : Addr} {fd : FuncData} {ps : List Str} {sp : Sp} {E : L2.St → XK} {x m : Str} {p pos apos : Pos} {e o : Expr} {es : List Expr} {ta t1 t2 : TE} {t : TA}
theorem PE.either (h1 : PE X e t1) (h2 : PE X e t2) : PE X e (fun σ H Q => t1 σ H Q ∨ t2 σ H Q) :=
  ⟨fun pins s σ H Q I h => h.elim (fun q => h1.run pins s σ H Q I q) fun q => h2.run pins s σ H Q I q⟩
def tMakeS (C : Addr) (sp : Sp) (E : L2.St → XK) (t : TA) : TE := fun σ H Q => t σ H fun vs H1 => ∀ x dx, H1 x = none → H1 dx = none → dx ≠ x →
  sp (.ref x :: vs) (upd (upd H1 dx (.own x)) x (.ins C dx [])) (fun v H2 => v = .non ∧ Q (.ref x) H2) (E σ)
theorem run_makeS {pins : List (Addr × Obj)} {σ : L2.St} {H : Hp} {s : Shared} {Q : VK} {us : List Value} {vs : List V} (M : Mk X.K C f) (F : FnOk X.prog X.w X.K X.mg X.base CX k f fd ps sp) (hr : Room (k + 1) X.A) (hb : Binds X.K fd ps [])
    (hx : PassesAt CX X σ (E σ)) (I : Inv X pins σ H s) (r : Vals vs us)
    (h : ∀ x dx, H x = none → H dx = none → dx ≠ x → sp (.ref x :: vs) (upd (upd H dx (.own x)) x (.ins C dx [])) (fun v H2 => v = .non ∧ Q (.ref x) H2) (E σ)) :
    wpAny (model X.prog X.w) X.A (call (.ref C) us) (EP X pins σ Q) X.xe s := by
  have hq := h (s.heap.objs.size + 1) s.heap.objs.size (I.hok.fresh (Nat.le_succ _)) (I.hok.fresh (Nat.le_refl _)) (Nat.ne_of_lt (Nat.lt_succ_self _))
  have I2 := Inv.made (C := C) I
  have r2 : Vals (V.ref (s.heap.objs.size + 1) :: vs) (Value.ref (s.heap.objs.size + 1) :: us) := .cons rfl r
  have hl : ((Value.ref (s.heap.objs.size + 1) :: us) ++ []).length = ps.length := by
    have e := r2.length
    rw [F.len _ _ _ _ hq] at e
    rw [List.append_nil]
    exact e.symm
  refine wpAny_call (make_map (f := f) I.kIn M.makes M.init (beq_iff_eq.mp M.fn) (codeAny_mono (F.run _ X.stack _ _ ⟨Value.ref (s.heap.objs.size + 1) :: us, []⟩ (Value.ref (s.heap.objs.size + 1) :: us) _ _ (E σ) (hr.make C us [])
    (I2.env0.make C us []) (by have := hb _ (Value.ref (s.heap.objs.size + 1) :: us) I2.kIn hl; rwa [List.append_nil] at this) r2 hq) fun r s' hq' => ?_))
  cases r with
  | error e => exact hx pins _ _ e s' I2 hq'
  | ok fl =>
    cases fl with
    | ret u =>
      obtain ⟨v, H', I3, rv, ev, q3⟩ := I2.after hq'
      subst ev
      exact ⟨rv, ⟨V.ref (s.heap.objs.size + 1), H', I3, rfl, q3⟩⟩
    | next => exact False.elim hq'
    | brk => exact False.elim hq'
    | cont => exact False.elim hq'
theorem pe_makeS (M : Mk X.K C f) (F : FnOk X.prog X.w X.K X.mg X.base CX k f fd ps sp) (hr : Room (k + 1) X.A) (hg : Gl X x) (hm : X.mg x = some (.ref C)) (hb : Binds X.K fd ps []) (hx : ∀ σ, PassesAt CX X σ (E σ))
    (ha : PA X (e :: es) t) (hdb : (x == ("__debug__" : Str)) = false := by decide) (he : starEach (e :: es) X.env = (false, eval e X.env) :: starEach es X.env := by rfl) (hpl : (backTo pos (starEach es X.env)).any (·.1) = false := by rfl) :
    PE X (.Call (.Name x p) (e :: es) [] pos) (tMakeS C sp E t) := by
  refine ⟨fun pins s σ H Q I h => ?_⟩
  refine wpAny_Call_Name_kw (ld_glob I hg hm ?_ hdb)
  refine PySem.W.callWith_K (h₀ := X.base) I.ok.mod.kin M.kp (thn (ha.run pos pins s σ H _ I h) fun us s1 ⟨vs, H1, I1, r, q⟩ => ⟨I1.kIn, ?_⟩) he hpl
  exact run_makeS M F hr hb (hx σ) I1 r q
def tMethS' (C : Addr) (m : Str) (sp : Sp) (E : L2.St → XK) (ta : TE) (t : TA) : TE := fun σ H Q => ta σ H fun x H1 => ∃ a dx fs, x = .ref a ∧ H1 a = some (.ins C dx fs) ∧ fs.lookup m = none ∧ t σ H1 fun vs H2 => sp (x :: vs) H2 Q (E σ)
theorem pe_methT {pl : Sem Bool} (he : PE X o ta) (c : Cls X.K C) (hm : Meth X.K C m f) (F : FnOk X.prog X.w X.K X.mg X.base CX k f fd ps sp) (hr : Room k X.A) (hb : Binds X.K fd ps []) (hx : ∀ σ, PassesAt CX X σ (E σ)) (ha : PA X (e :: es) t)
    (hst : starEach (e :: es) X.env = (false, eval e X.env) :: starEach es X.env := by rfl) (hpl : (backTo pos (starEach es X.env)).any (·.1) = false := by rfl)
    (ht : eval (.Call (.Attribute o m apos) (e :: es) [] pos) X.env = (do
      let ov ← eval o X.env
      standAt apos.atName
      let (f, first) ← holding [ov] (getMethod ov m pl)
      callWith pos f first (backTo pos (starEach (e :: es) X.env)) (backToKw pos (keywordEach [] X.env))) := by rfl) :
    PE X (.Call (.Attribute o m apos) (e :: es) [] pos) (tMethS' C m sp E ta t) := by
  refine ⟨fun pins s σ H Q I h => ?_⟩
  refine PySem.W.methodCall_KW (pl := pl) (thn (he.run pins s σ H _ I h) fun u s1 ⟨x, H1, I1, rx, a, dx, fs, ex, ea, l, q⟩ => ?_) ht
  subst ex
  obtain rfl : u = Value.ref a := rx
  refine getmeth_ok I1 ea c hm l ?_
  refine PySem.W.callWith_K (first := [.ref a]) (h₀ := X.base) I.ok.mod.kin hm.kp (thn (ha.run pos pins s1 σ H1 _ I1 q) fun us s2 ⟨vs, H2, I2, r, q2⟩ => ⟨I2.kIn, ?_⟩) hst hpl
  exact run_fnS (us := .ref a :: us) (vs := .ref a :: vs) F hr hb (hx σ) I2 (.cons rfl r) q2
theorem pe_methT0 {pl : Sem Bool} (he : PE X o ta) (c : Cls X.K C) (hm : Meth X.K C m f) (F : FnOk X.prog X.w X.K X.mg X.base CX k f fd ps sp) (hr : Room k X.A) (hb : Binds X.K fd ps []) (hx : ∀ σ, PassesAt CX X σ (E σ))
    (ht : eval (.Call (.Attribute o m apos) [] [] pos) X.env = (do
      let ov ← eval o X.env
      standAt apos.atName
      let (f, first) ← holding [ov] (getMethod ov m pl)
      callWith pos f first (backTo pos (starEach [] X.env)) (backToKw pos (keywordEach [] X.env))) := by rfl) :
    PE X (.Call (.Attribute o m apos) [] [] pos) (tMethS' C m sp E ta tNil) := by
  refine ⟨fun pins s σ H Q I h => ?_⟩
  refine PySem.W.methodCall_KW (pl := pl) (thn (he.run pins s σ H _ I h) fun u s1 ⟨x, H1, I1, rx, a, dx, fs, ex, ea, l, q⟩ => ?_) ht
  subst ex
  obtain rfl : u = Value.ref a := rx
  refine getmeth_ok I1 ea c hm l ?_
  exact PySem.W.callWith_K0 (first := [.ref a]) I1.kIn hm.kp (run_fnS (us := [.ref a]) (vs := [.ref a]) F hr hb (hx σ) I1 (.cons rfl .nil) q)
end
/-! ### things of classes: made, their methods, their fields stored -/
def putFP (f : Str) (p : PV) : List (Str × PV) → List (Str × PV)
  | [] => [(f, p)]
  | (g, x) :: r => if g = f then (g, p) :: r else (g, x) :: putFP f p r
section
variable {K : PySem.W.Frag} {cl : Str → Option Addr} {F : Hp}
theorem IsF.len : ∀ {vs : List (Str × V)} {fs : List (Str × PV)}, IsF K cl F vs fs → vs.length = fs.length
  | _, _, .nil => rfl
  | _, _, .cons _ r => congrArg (· + 1) (IsF.len r)
theorem IsF.put {f : Str} {v : V} {p : PV} (i : Is K cl F v p) : ∀ {vs : List (Str × V)} {fs : List (Str × PV)}, IsF K cl F vs fs → IsF K cl F (putF f v vs) (putFP f p fs)
  | _, _, .nil => .cons i .nil
  | (g, _) :: _, _, .cons a r => by
    unfold putF putFP
    by_cases c : g = f
    · rw [if_pos c, if_pos c]; exact .cons i r
    · rw [if_neg c, if_neg c]; exact .cons a (IsF.put i r)
end
def setF (cs : List Str) (C : Str) (fs : List (Str × PV)) (f : Str) (x : PV) : Res (List (Str × PV)) := if C ∈ cs ∧ fs.length < 1000 then .val (putFP f x fs) else .stuck
def frO : PV × MO → Res PV
  | (.non, .ob C fs) => .val (.ins C fs)
  | _ => .stuck
section
variable (K : PySem.W.Frag) (cl : Str → Option Addr)
/-- an __init__: its first argument is lent and changed; it may raise -/
def spI (mf : MO → List PV → Res (PV × MO)) : Sp := fun vs H Q E => ∃ O b mo us ps, vs = .ref b :: us ∧ b ∈ O ∧ (∀ a, a ∈ O → ∃ o, H a = some o) ∧ MoIs K cl (frz H O) H b mo ∧ IsL K cl (frz H O) us ps ∧
  wp (mf mo ps) (fun r => ∀ v H', (∀ x o, x ≠ b → H x = some o → H' x = some o) → MoIs K cl (frz H' O) H' b r.2 → Is K cl (frz H' O) v r.1 → Q v H') (fun c => ∀ C H', cl c = some C → (∀ x o, x ≠ b → H x = some o → H' x = some o) → E (.ref C) none H')
end
section
variable {K : PySem.W.Frag} {cl : Str → Option Addr} {W : WX} {bs O A A1 B : List Addr} {F H H' H1 : Hp} {ρ ρ' ρx ρh : Ro} {σ : St} {S S1 S2 L : Type} {ρs : S → Ro} {ρn : S1 → Ro} {ρl : L → Ro} {D : Ends} {t u v tb t1 t2 : TS} {te ta tc td : TE} {m ma mb : Res PV} {tr : TA} {ml : Res (List PV)}
theorem run_setfld {i : Nat} {s : Slot} {C f : Str} {cs : List Str} {fs : List (Str × PV)} {n : List (Str × PV) → Res (Fl S1 L)} (hF : ∀ C, C ∈ cs → ∀ c, cl C = some c → Cls K c ∧ NoAttr K c f) (hi : ρ[i]? = some s) (hs : s = .ow (.ob C fs) ∨ ∃ k, s = .rf k (.ob C fs)) (he : Pur K cl W te ρ m) (w : Wk ρ ρx)
    (h : ∀ gs, Runs K cl W u (ρ.set i (reSl s (.ob C gs))) (n gs) ρn ρl ρx) :
    Runs K cl W (tSeq (sFld K (tVar i) te f) u) ρ (m >>= fun x => setF cs C fs f x >>= n) ρn ρl ρx := fun O bs σ H D R hb q => by
  have got : ∃ a c dx vs, σ[i]? = some (some (.ref a)) ∧ cl C = some c ∧ H a = some (.ins c dx vs) ∧ IsF K cl (frz H (O ++ adr ρ σ)) vs fs := by
    obtain ⟨x, e, q⟩ := R.sl.get hi
    rcases hs with rfl | ⟨k, rfl⟩
    · obtain ⟨a, rfl, c, dx, vs, h0, h1, h2⟩ := q; exact ⟨a, c, dx, vs, e, h0, h1, h2⟩
    · obtain ⟨a, rfl, _, c, dx, vs, h0, h1, h2⟩ := q; exact ⟨a, c, dx, vs, e, h0, h1, h2⟩
  obtain ⟨a, c, dx, vs, ha, hc, hv, hl⟩ := got
  refine he O bs σ H _ R (wp_mono (wp_bind.mp q) (fun x qx v H1 s1 ix => ?_) fun _ z => z.xw R w)
  have R1 := R.same s1
  have hl' := hl.mono (frz_same (A := O ++ adr ρ σ) s1)
  unfold setF at qx
  split at qx
  · next cc =>
    obtain ⟨c1, c2⟩ := hF C cc.1 c hc
    obtain ⟨R3, g3⟩ := R1.put (m' := .ob C (putFP f x fs)) (o := .ins c dx (putF f v vs)) hi (by rcases hs with e | ⟨k, e⟩; exact .inl e; exact .inr ⟨k, e⟩) ha ⟨c, dx, _, hc, upd_same, hl'.put ix⟩
    have g := (Gr.of (A := adr ρ σ) s1).trans g3
    exact ⟨_, ha, a, c, dx, vs, rfl, s1 _ _ hv, c1, c2, by rw [hl.len]; exact cc.2, h _ O bs σ _ D R3 hb (wp_mono qx (fun _ z => z.step g) fun _ z => z.step g)⟩
  · exact qx.elim
/-- a field of the thing under way -/
theorem pu_fldO {i : Nat} {s : Slot} {C f : Str} {cs : List Str} {fs : List (Str × PV)} (hF : ∀ C, C ∈ cs → ∀ c, cl C = some c → Cls K c ∧ NoAttr K c f) (hi : ρ[i]? = some s) (hs : s = .ow (.ob C fs) ∨ ∃ k, s = .rf k (.ob C fs)) :
    Pur K cl W (tFld K (tVar i) f) ρ (fldP cs f (.ins C fs)) := fun O bs σ H Q R q => by
  have got : ∃ a c dx vs, σ[i]? = some (some (.ref a)) ∧ cl C = some c ∧ H a = some (.ins c dx vs) ∧ IsF K cl (frz H (O ++ adr ρ σ)) vs fs := by
    obtain ⟨x, e, q⟩ := R.sl.get hi
    rcases hs with rfl | ⟨k, rfl⟩
    · obtain ⟨a, rfl, c, dx, vs, h0, h1, h2⟩ := q; exact ⟨a, c, dx, vs, e, h0, h1, h2⟩
    · obtain ⟨a, rfl, _, c, dx, vs, h0, h1, h2⟩ := q; exact ⟨a, c, dx, vs, e, h0, h1, h2⟩
  obtain ⟨a, c, dx, vs, ha, hc, hv, hl⟩ := got
  unfold fldP at q
  dsimp only at q
  split at q
  · next hC =>
    split at q
    · next p e =>
      obtain ⟨v, e2, iv⟩ := hl.look e
      obtain ⟨c1, c2⟩ := hF C hC _ hc
      exact ⟨_, ha, a, c, dx, vs, v, rfl, hv, c1, c2, e2, q v H .refl iv⟩
    · exact q.elim
  · exact q.elim
/-- C(..) -/
theorem pu_make {C : Str} {c : Addr} {mf : MO → List PV → Res (PV × MO)} (hc : cl C = some c) (hl : PurL K cl W tr ρ ml) : Pur K cl W (tMakeS c (spI K cl mf) (WE W) tr) ρ (ml >>= fun ps => mf (.ob C []) ps >>= frO) := fun O bs σ H Q R q => by
  refine hl O bs σ H _ R (wp_mono (wp_bind.mp q) (fun ps qs vs H1 s1 i1 => ?_) fun _ z => z)
  intro x dx hx hdx hne
  have R1 := R.same s1
  have sx : Sub H1 (upd (upd H1 dx (.own x)) x (.ins c dx [])) := fun y o e => by
    have n1 : y ≠ x := fun z => by rw [z, hx] at e; cases e
    have n2 : y ≠ dx := fun z => by rw [z, hdx] at e; cases e
    rw [upd_ne n1, upd_ne n2]; exact e
  have nx : x ∉ O ++ adr ρ σ := fun z => by obtain ⟨o, e⟩ := R1.got z; rw [hx] at e; cases e
  have sF : Sub (frz H1 (O ++ adr ρ σ)) (frz (upd (upd H1 dx (.own x)) x (.ins c dx [])) (x :: (O ++ adr ρ σ))) := fun y o e => by
    obtain ⟨n, e⟩ := frz_some.mp e
    refine frz_some.mpr ⟨fun z => ?_, sx _ _ e⟩
    rcases List.mem_cons.mp z with z | z
    · rw [z, hx] at e; cases e
    · exact n z
  refine ⟨x :: (O ++ adr ρ σ), x, .ob C [], vs, ps, rfl, List.mem_cons_self, fun a ha => ?_, ⟨c, dx, [], hc, upd_same, .nil⟩, i1.mono sF, wp_mono (wp_bind.mp qs) (fun r qr v H' hk hm iv => ?_) fun e qe C' H' he hk => ?_⟩
  · rcases List.mem_cons.mp ha with z | z
    · exact ⟨_, by rw [z]; exact upd_same⟩
    · obtain ⟨o, e⟩ := R1.got z
      exact ⟨o, sx _ _ e⟩
  · have sH : Sub H1 H' := fun y o e => hk y o (fun z => by rw [z, hx] at e; cases e) (sx _ _ e)
    unfold frO at qr
    split at qr
    · next C2 fs2 =>
      cases iv
      obtain ⟨c2, dx2, vs2, h0, h1, h2⟩ := hm
      refine ⟨rfl, qr _ H' (s1.trans sH) (.ins h0 (frz_some.mpr ⟨nx, h1⟩) (h2.mono (frz_less fun a ha => List.mem_cons_of_mem _ ha)))⟩
    · exact qr.elim
  · exact qe C' H' he (s1.trans fun y o e => hk y o (fun z => by rw [z, hx] at e; cases e) (sx _ _ e))
/-! methods -/
/-- the method of the thing, by its class -/
def sel : List (Str × (List PV → Res PV)) → Str → PV → Res (List PV → Res PV)
  | [], _, _ => .stuck
  | (C, f) :: D, m, x => match x with
    | .ins C' fs => if C' = C then (match fs.lookup m with
      | none => .val f
      | some _ => .stuck) else sel D m (.ins C' fs)
    | _ => .stuck
theorem sel_one {C : Str} {mf : List PV → Res PV} {mt : Str} {x : PV} {Q : (List PV → Res PV) → Prop} {E : Str → Prop} (h : wp (sel [(C, mf)] mt x) Q E) : ∃ fs, x = .ins C fs ∧ fs.lookup mt = none ∧ Q mf := by
  unfold sel at h
  cases x with
  | ins C' fs =>
    dsimp only at h
    split at h
    · next e =>
      subst e
      split at h
      · next e2 => exact ⟨fs, rfl, e2, h⟩
      · exact h.elim
    · unfold sel at h; exact h.elim
  | _ => exact h.elim
theorem pu_meth {C : Str} {c : Addr} {mt : Str} {mf : List PV → Res PV} (hc : cl C = some c) (ha : Pur K cl W ta ρ ma) (hl : PurL K cl W tr ρ ml) :
    Pur K cl W (tMethS' c mt (spP K cl mf) (WE W) ta tr) ρ (ma >>= fun x => sel [(C, mf)] mt x >>= fun g => ml >>= fun ps => g (x :: ps)) := fun O bs σ H Q R q => by
  refine ha O bs σ H _ R (wp_mono (wp_bind.mp q) (fun x qx v1 H1 s1 i1 => ?_) fun _ z => z)
  have R1 := R.same s1
  obtain ⟨fs, rfl, e2, hw⟩ := sel_one (wp_bind.mp qx)
  have main : ∃ a dx vs, v1 = .ref a ∧ H1 a = some (.ins c dx vs) ∧ vs.lookup mt = none := by
    cases i1 with
    | ins h0 h1 h2 =>
      rw [hc] at h0
      cases h0
      exact ⟨_, _, _, rfl, frz_sub _ _ h1, h2.nolook e2⟩
  obtain ⟨a, dx, vs, e3, e4, e5⟩ := main
  refine ⟨a, dx, vs, e3, e4, e5, hl O bs σ H1 _ R1 (wp_mono (wp_bind.mp hw) (fun ps z us H2 s2 i2 => ?_) fun _ z C H' e s => z C H' e (s1.trans s))⟩
  exact ⟨O ++ adr ρ σ, .ins C fs :: ps, fun a h => ((R1.same s2).got h), .cons (i1.mono (frz_same s2)) i2, wp_mono z (fun r qr v H' s i => qr v H' (s1.trans (s2.trans s)) i) fun e qe C' H' he s => qe C' H' he (s1.trans (s2.trans s))⟩
theorem pu_meths {C mt : Str} {mf : List PV → Res PV} {D : List (Str × (List PV → Res PV))} {t1 t2 : TE} {n : PV → (List PV → Res PV) → Res PV} (h1 : Pur K cl W t1 ρ (ma >>= fun x => sel [(C, mf)] mt x >>= n x)) (h2 : Pur K cl W t2 ρ (ma >>= fun x => sel D mt x >>= n x)) :
    Pur K cl W (fun σ H Q => t1 σ H Q ∨ t2 σ H Q) ρ (ma >>= fun x => sel ((C, mf) :: D) mt x >>= n x) := fun O bs σ H Q R q => by
  cases ma with
  | exc c => exact .inl (h1 O bs σ H Q R q)
  | stuck => exact q.elim
  | val x =>
    cases x with
    | ins C' fs =>
      by_cases e : C' = C
      · refine .inl (h1 O bs σ H Q R ?_)
        have a : sel ((C, mf) :: D) mt (.ins C' fs) = sel [(C, mf)] mt (.ins C' fs) := by
          unfold sel
          dsimp only
          rw [if_pos e, if_pos e]
        show wp (sel [(C, mf)] mt (.ins C' fs) >>= _) _ _
        rw [← a]
        exact q
      · refine .inr (h2 O bs σ H Q R ?_)
        have a : sel ((C, mf) :: D) mt (.ins C' fs) = sel D mt (.ins C' fs) := by
          rw [sel]
          exact if_neg e
        show wp (sel D mt (.ins C' fs) >>= _) _ _
        rw [← a]
        exact q
    | _ => exact q.elim
end
/-! ### a def of a class that names its class (super): how it is entered -/
section
open PySem.Spec PyProof.Rows
theorem cells_app : ∀ (ns : List (Str × NameKind)) (n : Nat) (acc : List (Str × Addr)), cellsFrom n ns acc = cellsFrom n ns [] ++ acc
  | [], _, _ => rfl
  | (x, kd) :: r, n, acc => by
    unfold cellsFrom
    by_cases c : (kd == NameKind.cell) = true
    · rw [if_pos c, if_pos c, cells_app r (n + 1) ((x, n) :: acc), cells_app r (n + 1) [(x, n)], List.append_assoc]
      rfl
    · rw [if_neg c, if_neg c]
      exact cells_app r n acc
/-- the frame of such a def: its own cells, then the cell of its class -/
abbrev envS (qual : Str) (sc : Scope) (L f cc : Addr) (cd : Value) : Env := PySem.W.envX qual sc L f cd (cellsFrom (L + 1) sc.names [] ++ [(("__class__" : Str), cc)])
variable {M : Model} {A : Around} {E : Value → Shared → Prop}
theorem look_app {C D : List (Str × Addr)} {n : Str} {c : Addr} (h : C.lookup n = some c) : (C ++ D).lookup n = some c := by
  rw [List.lookup_append, h]
  rfl
section
variable {b0 st : Shared} {ml mc : Str → Option Value} {ev : Env} {C : List (Str × Addr)} {n : Str} {u : Value}
theorem put_loc {R : Unit → Shared → Prop} (x : InCallC b0 ev.locals ml C mc st) (kf : ev.scope.kind = .function) (kn : ev.kindOf n = some .local)
    (h : ∀ t, InCallC b0 ev.locals (fun y => if y = n then some u else ml y) C mc t → R () t) : wpAny M A (storeName ev n u) R E st := by
  refine wpAny_storeName_local kn x.toInCall.ns (fun g gn sb => h _ ?_) (by rw [kf]; rfl)
  refine ⟨⟨?_, gn, fun b o e => ?_, x.toInCall.fresh⟩, fun k c hc => ?_, x.apart, x.above⟩
  · obtain ⟨g0, tk, e0⟩ := x.toInCall.same
    subst e0
    exact ⟨g, _, rfl⟩
  · have lt := Heap.lt_size e
    have fr := x.toInCall.fresh
    exact sb.extBut b o (Nat.ne_of_lt (Nat.lt_of_lt_of_le lt fr)) (x.toInCall.keep b o e)
  · have ab := x.above k c (mem_of_lookup hc)
    exact (x.cell k c hc).sameBut sb (Nat.ne_of_gt ab)
theorem put_cell {R : Unit → Shared → Prop} {c : Addr} (x : InCallC b0 ev.locals ml C mc st) (kf : ev.scope.kind = .function) (kn : ev.kindOf n = some .cell) (hc : C.lookup n = some c) (he : ev.cells.lookup n = some c)
    (h : ∀ t, InCallC b0 ev.locals ml C (fun y => if y = n then some u else mc y) t → R () t) : wpAny M A (storeName ev n u) R E st := by
  have ab := x.above n c (mem_of_lookup hc)
  refine wpAny_storeName_cell kf kn he (x.cell n c hc) fun g gc sb => h _ ?_
  refine ⟨⟨?_, x.toInCall.ns.sameBut sb (Nat.ne_of_lt ab), fun b o e => ?_, x.toInCall.fresh⟩, fun k c2 hk => ?_, x.apart, x.above⟩
  · obtain ⟨g0, tk, e0⟩ := x.toInCall.same
    subst e0
    exact ⟨g, _, rfl⟩
  · have lt := Heap.lt_size e
    have fr := x.toInCall.fresh
    exact sb.extBut b o (Nat.ne_of_lt (Nat.lt_trans (Nat.lt_of_lt_of_le lt fr) ab)) (x.toInCall.keep b o e)
  · by_cases q : k = n
    · subst q
      rw [hc] at hk
      cases hk
      simpa using gc
    · rw [if_neg q]
      exact (x.cell k c2 hk).sameBut sb fun z => q (name_of_addr x.apart (mem_of_lookup hk) (z ▸ mem_of_lookup hc))
theorem put_all (f : Str × Value → PUnit → Sem (ForInStep PUnit)) (hf : ∀ y v u, f (y, v) u = (do storeName ev y v; pure (.yield ⟨⟩))) (kf : ev.scope.kind = .function) (sub : ∀ y c, C.lookup y = some c → ev.cells.lookup y = some c) :
    ∀ (bs : List (Str × Value)) (ml mc : Str → Option Value) (st : Shared) (R : PUnit → Shared → Prop), InCallC b0 ev.locals ml C mc st →
      (∀ y ∈ bs, ev.kindOf y.1 = some .local ∨ (ev.kindOf y.1 = some .cell ∧ ∃ c, C.lookup y.1 = some c)) →
      (∀ t, InCallC b0 ev.locals (bindL ev.kindOf bs ml) C (bindC ev.kindOf bs mc) t → R ⟨⟩ t) → wpAny M A (forIn bs ⟨⟩ f) R E st
  | [], _, _, st, _, x, _, h => by
    rw [List.forIn_nil]
    exact wpAny_pure (h st x)
  | (y, v) :: r, ml, mc, st, R, x, kd, h => by
    have kr := fun z hz => kd z (List.mem_cons_of_mem _ hz)
    rw [List.forIn_cons, hf]
    rcases kd (y, v) List.mem_cons_self with l | ⟨l, c, hc⟩
    · refine wpAny_bind (wpAny_bind (put_loc x kf l fun t xt => wpAny_pure (put_all f hf kf sub r _ _ t R xt kr fun t2 x2 => h t2 ?_)))
      unfold bindL bindC
      rw [if_pos l, if_pos l]
      exact x2
    · have nl : ¬ ev.kindOf y = some .local := by
        rw [show ev.kindOf y = some .cell from l]
        decide
      refine wpAny_bind (wpAny_bind (put_cell x kf l hc (sub y c hc) fun t xt => wpAny_pure (put_all f hf kf sub r _ _ t R xt kr fun t2 x2 => h t2 ?_)))
      unfold bindL bindC
      rw [if_neg nl, if_neg nl]
      exact x2
end
theorem env_new {st : Shared} {sc : Scope} {gl : Addr} {bs : List (Str × Value)} {qual : Str} {fu : Option Addr} {cd : Value} {bl : Addr} {R : Env → Shared → Prop} {D : List (Str × Addr)} (kf : sc.kind = .function)
    (kd : ∀ y ∈ bs, sc.names.lookup y.1 = some .local ∨ (sc.names.lookup y.1 = some .cell ∧ ∃ c, (cellsFrom (st.heap.objs.size + 1) sc.names []).lookup y.1 = some c))
    (h : ∀ ev, ev = newEnv sc st.heap.objs.size gl (cellsFrom (st.heap.objs.size + 1) sc.names [] ++ D) qual fu cd none bl →
      ∀ t, InCallC st ev.locals (bindL ev.kindOf bs fun _ => none) (cellsFrom (st.heap.objs.size + 1) sc.names []) (bindC ev.kindOf bs fun _ => none) t → R ev t) :
    wpAny M A (newFunctionEnv sc gl D bs qual fu cd none bl) R E st := by
  simp only [newFunctionEnv, Option.isSome_none, Bool.false_eq_true, if_false]
  refine wpAny_bind (wpAny_alloc ?_)
  have sz : ({ st with heap := st.heap.push { cls := .type "frame", data := .dict #[] } } : Shared).heap.objs.size = st.heap.objs.size + 1 := Heap.size_push ..
  refine wpAny_bind (wpAny_layCells _ (fun x k cs => by cases q : k == NameKind.cell <;> simp) _ _ _ _ ?_)
  have ok := cellsFrom_ok sc.names (st.heap.push { cls := .type "frame", data := .dict #[] }) (st.heap.objs.size + 1) [] ⟨fun _ _ z => (nomatch z), List.Pairwise.nil⟩ (by rw [Heap.size_push]; exact Nat.le_refl _)
  rw [Heap.size_push] at ok
  rw [sz, cells_app]
  refine wpAny_bind (put_all (b0 := st) (C := cellsFrom (st.heap.objs.size + 1) sc.names []) (ev := newEnv sc st.heap.objs.size gl (cellsFrom (st.heap.objs.size + 1) sc.names [] ++ D) qual fu cd none bl)
    _ (fun _ _ _ => rfl) kf (fun y c z => look_app z) bs (fun _ => none) (fun _ => none) _ _ ?_ kd fun t x => wpAny_pure (h _ rfl t x))
  have keep := fun b o (e : st.heap.get? b = some o) => pushCells_keeps sc.names _ b o (Heap.get?_push_of_some { cls := .type "frame", data := .dict #[] } e)
  exact ⟨⟨⟨_, _, rfl⟩, (Heap.Ns.new st.heap (.type "frame")).keeps (pushCells_keeps _ _), keep, Nat.le_refl _⟩, fun y c z => (ok.empty y c (mem_of_lookup z)).1, ok.apart, fun y c z => (ok.empty y c z).2⟩
structure ScopeS (N P : List Str) (sc : Scope) : Prop where
  kind : sc.kind = .function
  co : sc.isCoroutine = false
  gen : sc.isGenerator = false
  nd : N.Nodup
  pre : N.take P.length = P
  par : ∀ x ∈ P, sc.names.lookup x = some .local ∨ sc.names.lookup x = some .cell
  fr : ∀ y ∈ sc.names, y.2 = .free → y.1 = ("__class__" : Str)
/-- the context of its body at the entry -/
def cxS (CX : CXT) (P : Program) (w : World) (K : PySem.W.Frag) (mg : Str → Option Value) (base : Heap) (N : List Str) (qual : Str) (sc : Scope) (f cc : Addr) (cd : Value) (A : Around) (outer : List Env) (s : Shared) (H : Hp) (E : XK) : Cx where
  prog := P
  w := w
  K := K
  mg := mg
  base := base
  A := A.deeper (envS qual sc s.heap.objs.size f cc cd)
  N := N
  s_0 := s
  H_0 := H
  env := envS qual sc s.heap.objs.size f cc cd
  outer := outer
  stack := envS qual sc s.heap.objs.size f cc cd :: outer
  ex := []
  calm := true
  fn := fun y => !(y == ("__class__" : Str))
  pn := []
  xe := fun e t => wpAny (model P w) (A.deeper (envS qual sc s.heap.objs.size f cc cd)) (leaving (envS qual sc s.heap.objs.size f cc cd) e) (fun _ t2 => CX outer H s E e t2) (fun e2 t2 => CX outer H s E e2 t2) t
theorem look_two {C : List (Str × Addr)} {x y : Str} {c d : Addr} (h : (C ++ [(x, d)]).lookup y = some c) : C.lookup y = some c ∨ (y = x ∧ c = d) := by
  rw [List.lookup_append] at h
  cases e : C.lookup y with
  | some z =>
    rw [e] at h
    exact .inl h
  | none =>
    rw [e] at h
    have h : List.lookup y [(x, d)] = some c := h
    have m := mem_of_lookup h
    have m := List.mem_singleton.mp m
    cases m
    exact .inr ⟨rfl, rfl⟩
section
variable {CX : CXT} {P : Program} {w : World} {K : PySem.W.Frag} {mg : Str → Option Value} {base : Heap} {N ps : List Str} {qual : Str} {sc : Scope} {f cc D : Addr} {cd : Value} {A : Around} {outer : List Env} {s s1 : Shared} {H : Hp} {E : XK} {us : List Value} {vs : List V}
theorem inv_startS {cl : Value} {cld : Option Addr} {csl : Array (Option Value)} (S : ScopeS N ps sc) (hd : A.handled = none) (e0 : Env0 P w K mg base A outer s H) (kc : K.lookup cc = some ⟨cl, cld, .cell (some (.ref D)), csl⟩) (hl : vs.length = ps.length) (r : Vals vs us)
    (x : InCallC s s.heap.objs.size (bindL (envS qual sc s.heap.objs.size f cc cd).kindOf (ps.zip us) fun _ => none) (cellsFrom (s.heap.objs.size + 1) sc.names []) (bindC (envS qual sc s.heap.objs.size f cc cd).kindOf (ps.zip us) fun _ => none) s1) :
    Inv (cxS CX P w K mg base N qual sc f cc cd A outer s H E) [] (start N vs) H s1 := by
  have pn : ps.length ≤ N.length := by
    have q := congrArg List.length S.pre
    rw [List.length_take] at q
    omega
  obtain ⟨h1, tk, rfl, hk⟩ := x.done
  have none' : ∀ b : Addr, b ∉ (cxS CX P w K mg base N qual sc f cc cd A outer s H E).ex := fun b z => absurd (show b ∈ ([] : List Addr) from z) (by simp)
  have kb := e0.mod.kin _ _ kc
  have cb := (e0.bs _ _ kb).1
  have clt : cc < s.heap.objs.size := Heap.lt_size cb
  have two : ∀ y c, (cxS CX P w K mg base N qual sc f cc cd A outer s H E).env.cells.lookup y = some c → (cellsFrom (s.heap.objs.size + 1) sc.names []).lookup y = some c ∨ (y = ("__class__" : Str) ∧ c = cc) := fun y c h => look_two h
  refine ⟨⟨e0.mod, S.kind, rfl, rfl, Nat.le_refl _, fun y z c q1 q2 => ?_, fun y hy => ?_, fun y c hf h => ?_, fun _ => hd, Around.frames_deeper e0.frames, .inr ⟨rfl, rfl⟩, fun b z => absurd z (none' b), e0.bs, e0.bsz, fun b _ _ => none' b, fun b z => absurd z (none' b), e0.funs, e0.frf⟩,
    rfl, e0.bare, Un.kept hk, ⟨_, x.toInCall.ns, fun i y v q1 q2 q3 => ?_⟩, fun y c h => ?_, e0.hok.fresh (Nat.le_refl _), fun y c h => ?_, fun p hp => absurd (show p ∈ ([] : List (Addr × Obj)) from hp) (by simp), e0.hok.kept hk, ?_⟩
  · rcases two y c q1 with a1 | ⟨a1, a2⟩
    · rcases two z c q2 with b1 | ⟨b1, b2⟩
      · exact name_of_addr x.apart (mem_of_lookup a1) (mem_of_lookup b1)
      · have ab := x.above y c (mem_of_lookup a1)
        rw [b2] at ab
        exact absurd (Nat.lt_trans clt ab) (Nat.lt_irrefl _)
    · rcases two z c q2 with b1 | ⟨b1, b2⟩
      · have ab := x.above z c (mem_of_lookup b1)
        rw [a2] at ab
        exact absurd (Nat.lt_trans clt ab) (Nat.lt_irrefl _)
      · rw [a1, b1]
  · have hy : sc.names.lookup y = some .cell ∨ sc.names.lookup y = some .free := hy
    rcases hy with hy | hy
    · obtain ⟨c, e⟩ := cell_has (n := s.heap.objs.size + 1) hy
      exact ⟨c, look_app e⟩
    · have e := S.fr _ (mem_of_lookup hy) rfl
      have e : y = ("__class__" : Str) := e
      subst e
      show ∃ c, (cellsFrom (s.heap.objs.size + 1) sc.names [] ++ [(("__class__" : Str), cc)]).lookup ("__class__" : Str) = some c
      rw [List.lookup_append]
      cases q : (cellsFrom (s.heap.objs.size + 1) sc.names []).lookup ("__class__" : Str) with
      | some c => exact ⟨c, rfl⟩
      | none => exact ⟨cc, by simp [List.lookup]⟩
  · rcases two y c h with a1 | ⟨a1, a2⟩
    · exact Nat.le_of_lt (x.above y c (mem_of_lookup a1))
    · subst a1
      have hf : (!(("__class__" : Str) == ("__class__" : Str))) = true := hf
      rw [beq_self_eq_true] at hf
      cases hf
  · have hi : i < vs.length := by
      refine Classical.byContradiction fun hi => ?_
      unfold L2.start at q2
      rw [List.getElem?_append_right (by rw [List.length_map]; omega), List.getElem?_replicate] at q2
      split at q2 <;> cases q2
    have ha : vs[i]? = some v := by
      unfold L2.start at q2
      rw [List.getElem?_append_left (by rw [List.length_map]; exact hi), List.getElem?_map, List.getElem?_eq_getElem hi] at q2
      rw [List.getElem?_eq_getElem hi]
      exact Option.some.inj q2
    obtain ⟨u, hu, rv⟩ := r.get ha
    have hp : ps[i]? = some y := by
      rw [← S.pre, List.getElem?_take_of_lt (by omega)]
      exact q1
    have ndP : ps.Nodup := by
      rw [← S.pre]
      exact S.nd.sublist (List.take_sublist _ _)
    refine ⟨u, rv, ?_⟩
    rcases S.par y (List.mem_of_getElem? hp) with k | k
    · exact .inl ⟨k, bindL_get ndP hp hu k⟩
    · obtain ⟨c, e⟩ := cell_has (n := s.heap.objs.size + 1) k
      have q := x.cell y c e
      rw [bindC_get ndP hp hu (by show sc.names.lookup y ≠ _; rw [k]; decide)] at q
      exact .inr ⟨.inl k, c, look_app e, q⟩
  · rcases two y c h with a1 | ⟨_, a2⟩
    · exact ⟨_, x.cell y c a1⟩
    · rw [a2]
      exact ⟨_, _, hk _ _ cb, rfl⟩
  · rcases two y c h with a1 | ⟨_, a2⟩
    · exact e0.hok.fresh (Nat.le_of_lt (x.above y c (mem_of_lookup a1)))
    · rw [a2]
      exact (e0.bs _ _ kb).2
  · unfold L2.start
    show _ = N.length
    rw [List.length_append, List.length_map, List.length_replicate]
    omega
end
/-- statements run where the innermost code is known -/
structure PAt (X : Cx) (c : Code) (ss : List Stmt) (t : TS) : Prop where
  run : ∀ (pins : List (Addr × Obj)) (s : Shared) (σ : L2.St) (H : Hp) (D : Ends), Inv X pins σ H s → t D σ H → _root_.PySem.wpAt (model X.prog X.w) X.A c (execs ss X.env) (SP X pins D) X.xe s
theorem pat_cons {X : Cx} {c : Code} {st : Stmt} {ss : List Stmt} {t u : TS} (h : PS X st t) (r : PAt X c ss u) : PAt X c (st :: ss) (tSeq t u) := by
  refine ⟨fun pins s σ H D I q => ?_⟩
  refine ks_wpAt_execs_cons (wpAt_of_wpAny (thn (h.run pins s σ H { D with nx := u D } I q) fun f s1 z => ?_))
  cases f with
  | next =>
    obtain ⟨σ', H', I', z⟩ := z
    exact r.run pins s1 σ' H' D I' z
  | ret v => exact z
  | brk => exact z
  | cont => exact z
/-- such a def as it stands behind the top -/
structure FunS (K : PySem.W.Frag) (x qual : Str) (st : Stmt) (f D cc cda : Addr) (fd : FuncData) : Prop where
  ex : ∃ (oc : Value) (od : Option Addr) (kV doc pm : Value) (an : Option Addr) (ct : Value) (osl : Array (Option Value)),
    fd = PySem.W.fnX x qual (defArgs st) (defBody st) (defScope st) [(("__class__" : Str), cc)] .none kV doc pm an (.ref cda) ct ∧ K.lookup f = some ⟨oc, od, .func fd, osl⟩
  rec' : PySem.W.codeIn K (.ref cda) qual = true
  cell : ∃ (cl : Value) (cld : Option Addr) (csl : Array (Option Value)), K.lookup cc = some ⟨cl, cld, .cell (some (.ref D)), csl⟩
  kp : PySem.W.keepIn K (.ref f) = true
section
variable {CX : CXT} {P : Program} {w : World} {K : PySem.W.Frag} {mg : Str → Option Value} {base : Heap}
theorem FunS.ok {x qual : Str} {st : Stmt} {f D cc cda : Addr} {fd : FuncData} {N ps : List Str} {k : Nat} {sp : Sp} (F : FunS K x qual st f D cc cda fd) (S : ScopeS N ps (defScope st)) (len : ∀ vs H Q E, sp vs H Q E → vs.length = ps.length)
    (hb : ∀ (A : Around) (outer : List Env) (s : Shared) (H : Hp) (vs : List V) (Q : VK) (E : XK), Room k (A.deeper (envS qual (defScope st) s.heap.objs.size f cc (.ref cda))) → sp vs H Q E →
      ∃ t, PAt (cxS CX P w K mg base N qual (defScope st) f cc (.ref cda) A outer s H E) (.func (defBody st) (envS qual (defScope st) s.heap.objs.size f cc (.ref cda))) (defBody st) t ∧ t { nx := fun _ H2 => Q .non H2, rt := Q } (L2.start N vs) H) :
    FnOk P w K mg base CX (k + 1) f fd ps sp := by
  obtain ⟨oc, od, kV, doc, pm, an, ct, osl, rfl, lk⟩ := F.ex
  obtain ⟨cl, cld, csl, kc⟩ := F.cell
  refine ⟨len, fun A outer s H args us vs Q E hr e0 bd r hsp => ?_⟩
  have hl := len _ _ _ _ hsp
  have KX : K.In s.heap := e0.mod.kin.keeps fun b o e => (e0.bs b o e).1
  have lim : s.heap.NoLimit := e0.mod.nolimit.keeps fun b o e => (e0.bs b o e).1
  refine codeAny_call_function hr.depth (KX _ _ lk) rfl S.co S.gen rfl (PySem.W.codeRec_of KX F.rec') (bd _ _ _ _ ?_)
  refine env_new (D := [(("__class__" : Str), cc)]) S.kind (fun ⟨n, v⟩ hy => ?_) fun env he s1 x => ?_
  · rcases S.par n (List.of_mem_zip hy).1 with q | q
    · exact .inl q
    · exact .inr ⟨q, cell_has q⟩
  subst he
  refine ⟨lim.keeps x.toInCall.keep, PySem.ks_codeAny_funcAt ?_⟩
  obtain ⟨t, ht, hq⟩ := hb A outer s H vs Q E (hr.deeper _) hsp
  have I : Inv (cxS CX P w K mg base N qual (defScope st) f cc (.ref cda) A outer s H E) [] (L2.start N vs) H s1 := inv_startS S hr.hd e0 kc hl r x
  refine PySem.ks_wpAt_mono (ht.run [] s1 (L2.start N vs) H _ I hq) (fun fl s2 z => ?_) fun e s2 z => z
  have fin : ∀ {σ2 : L2.St} {H2 : Hp} {v : V} {u : Value}, Inv (cxS CX P w K mg base N qual (defScope st) f cc (.ref cda) A outer s H E) [] σ2 H2 s2 → RelV v u → Q v H2 → CE outer P w H s Q u s2 :=
    fun {σ2 H2 v u} J rv q => ⟨v, H2, J.os, J.bare, J.base, J.hok, rv, q⟩
  cases fl with
  | ret u =>
    obtain ⟨v, σ2, H2, J, rv, q⟩ := z
    exact fin J rv q
  | next =>
    obtain ⟨σ2, H2, J, q⟩ := z
    exact fin (v := V.non) (u := Value.none) J rfl q
  | brk =>
    obtain ⟨_, _, _, q⟩ := z
    exact False.elim q
  | cont =>
    obtain ⟨_, _, _, q⟩ := z
    exact False.elim q
end
/-- what of the text super().m(..) asks, in the def f of the class at D whose next m is g -/
structure Sup (K : PySem.W.Frag) (f D cc cda g : Addr) (fd : FuncData) (x m file : Str) : Prop where
  fn : ∃ (oc : Value) (od : Option Addr) (osl : Array (Option Value)), K.lookup f = some ⟨oc, od, .func fd, osl⟩
  hd : ∃ ar : Arg, (fd.params.posonlyargs ++ fd.params.args).head? = some ar ∧ ar.arg = x
  code : ∃ (a : Value) (b : Option Addr) (vs : Array Value) (c : Array (Option Value)) (tf : Tok), K.lookup cda = some ⟨a, b, .fields vs, c⟩ ∧ vs[2]? = some (.str file tf)
  cell : ∃ (cl : Value) (cld : Option Addr) (csl : Array (Option Value)), K.lookup cc = some ⟨cl, cld, .cell (some (.ref D)), csl⟩
  cls : PySem.W.isClsIn K D = true
  sub : PySem.W.mroIn K D (.ref D) = some true
  nxt : PySem.W.ks_superIn K D D m = some (some (.ref g))
  ty : PySem.W.typeIn K (.ref g) = some (.type "function")
  tp : PySem.W.nsIn K cStatics "thirdparty.any" = some none
def tSup (D : Addr) (sp : Sp) (E : XK) (t : TA) : TS := fun Dn σ H => ∃ a dx fs, σ[0]? = some (some (.ref a)) ∧ H a = some (.ins D dx fs) ∧ t σ H fun vs H1 => sp (.ref a :: vs) H1 (fun _ H2 => Dn.nx σ H2) E
section
variable {X : Cx} {CX : CXT} {body : List Stmt} {f D cc cda g : Addr} {fd gd : FuncData} {x m file : Str} {k : Nat} {ps : List Str} {sp : Sp} {E : XK} {e : Expr} {es : List Expr} {t : TA} {p0 p1 apos pos pos2 : Pos} {pl : Sem Bool}
theorem pat_super (U : Sup X.K f D cc cda g fd x m file) (F : FnOk X.prog X.w X.K X.mg X.base CX k g gd ps sp) (hr : Room k X.A) (hb : Binds X.K gd ps []) (hx : Passes CX X E) (hgf : PySem.W.fnIn X.K g = true) (ha : PA X (e :: es) t)
    (h0 : X.N[0]? = some x) (hl : X.env.kindOf x = some .local) (hks : X.env.kindOf "super" = some .globalImplicit) (hkc : X.env.kindOf "__class__" = some .free) (hcl : X.env.cells.lookup ("__class__" : Str) = some cc)
    (hfu : X.env.func = some f) (hco : X.env.code = .ref cda) (hmg : X.mg "super" = none) (hfile : (X.prog.main.file == file) = true) (htop : (X.prog.main.scope.names.lookup ("super" : Str)).isSome = false)
    (hat : (m == ("__class__" : Str)) = false) (hst : starEach (e :: es) X.env = (false, eval e X.env) :: starEach es X.env) (hpl : (backTo pos (starEach es X.env)).any (·.1) = false)
    (hsw : swapsWith (.Call (.Attribute (.Call (.Name "super" p0) [] [] p1) m apos) (e :: es) [] pos) none pos2.line X.env = pure false)
    (he : eval (.Call (.Attribute (.Call (.Name "super" p0) [] [] p1) m apos) (e :: es) [] pos) X.env = (do
      let ov ← attributeBase (.Call (.Name "super" p0) [] [] p1) m X.env (eval (.Call (.Name "super" p0) [] [] p1) X.env)
      standAt apos.atName
      let (f, first) ← holding [ov] (getMethod ov m pl)
      callWith pos f first (backTo pos (starEach (e :: es) X.env)) [])) :
    PAt X (.func body X.env) [.Expr (.Call (.Attribute (.Call (.Name "super" p0) [] [] p1) m apos) (e :: es) [] pos) pos2] (tSup D sp E t) := by
  refine ⟨fun pins s σ H Dn I h => ?_⟩
  obtain ⟨a, dx, fs, hs0, ha0, q⟩ := h
  obtain ⟨oc, od, osl, lf⟩ := U.fn
  obtain ⟨ar, har, rfl⟩ := U.hd
  obtain ⟨ka, kb, kv, kc, tf, lc, hv2⟩ := U.code
  obtain ⟨cl, cld, csl, lcell⟩ := U.cell
  obtain ⟨cd, hcd⟩ := Option.isSome_iff_exists.mp (show (PySem.W.clsIn X.K D).isSome = true from U.cls)
  obtain ⟨hh, gg, dd, tk, os⟩ := s
  have KX : X.K.In hh := I.kIn
  obtain ⟨oD, hD, hDc⟩ : ∃ oD, hh.get? D = some oD ∧ oD.data = .cls cd := by
    unfold PySem.W.clsIn at hcd
    split at hcd
    · rename_i c1 c2 c3 c4 ho
      cases hcd
      exact ⟨_, KX _ _ ho, rfl⟩
    · cases hcd
  obtain ⟨mA, O, _⟩ := ins_get I.hok ha0
  have naD : a ≠ D := fun z => by
    have o := O.obj
    have o : hh.get? a = some (PySem.W.instObj D dx) := o
    rw [z, hD] at o
    cases o
    cases hDc
  refine PySem.ks_wpAt_execs_cons (PySem.ks_wpAt_Expr_any ?_ I.quiet hsw)
  refine PySem.ks_wpAt_MethodCall (pl := pl) ?_ he
  refine PySem.ks_wpAt_super_base hks hkc hat hfu (KX _ _ lf) rfl har hco (KX _ _ lc) rfl hv2 hfile htop ?_
  obtain ⟨mb, b1, b2⟩ := I.mod.blt
  have gns : hh.Ns X.env.globals X.mg := by
    rw [I.ok.glob]
    exact I.mod.glob.keeps I.bk
  have bns : hh.Ns X.env.builtins mb := by
    rw [I.ok.blt]
    exact b1.keeps I.bk
  refine PySem.W.ks_loadName_global I.ok.kind hks (Calls.loadGlobal_builtin gns hmg bns ((b2 "super" (by decide)).trans (by decide +kernel : bootBuiltins "super" = some (.type "super"))) ⟨rfl, ?_⟩)
  refine wpAny_loadName_free I.ok.kind hkc hcl ⟨_, KX _ _ lcell, rfl⟩ ?_
  obtain ⟨m0, n0, at0⟩ := I.loc
  obtain ⟨u, ru, lu⟩ := at0 0 _ _ h0 hs0 (.inl hl)
  obtain rfl : u = Value.ref a := ru
  have hm0 : m0 ar.arg = some (.ref a) := by
    rcases lu with ⟨_, z⟩ | ⟨z, _⟩
    · exact z
    · rw [hl] at z
      rcases z with z | z <;> cases z
  refine wpAny_loadName_local I.ok.kind hl n0 hm0 ?_
  refine PySem.ks_wpAny_isType_cls hD hDc ⟨rfl, ?_⟩
  refine PySem.ks_wpAny_call_super hD hDc O.obj rfl (fun c z => nomatch z) (PySem.W.looks_mroIn KX U.sub) (fun h2 e2 k2 => ?_)
  have KX2 : X.K.In h2 := KX.keeps k2
  have hal : PySem.W.alongIn X.K m ((cd.mro.dropWhile (· != .ref D)).drop 1) = some (some (.ref g)) := by
    have z := U.nxt
    unfold PySem.W.ks_superIn at z
    rw [hcd] at z
    exact z
  obtain ⟨og, hg1, hg2⟩ : ∃ og, h2.get? g = some og ∧ og.cls = .type "function" := by
    have z : (X.K.lookup g).map (·.cls) = some (.type "function") := U.ty
    cases q : X.K.lookup g with
    | none => rw [q] at z; cases z
    | some o => rw [q] at z; exact ⟨o, KX2 _ _ q, Option.some.inj z⟩
  refine PySem.ks_wpAny_getMethod_super e2 (PySem.W.looks_opaque KX2 U.tp) ((PySem.W.looks_clsIn KX2 hcd).andThen .now) rfl KX2 hal hg1 hg2 naD hat ?_
  have I2 : Inv X pins σ H ⟨h2, gg, dd, tk, os⟩ := I.kept (t' := tk) k2
  have I3 := ClX.met_new (g := g) (C := a) I2
  refine ClX.callwith_cm I3 (ClX.base_none I2 (Nat.le_refl _)) hgf (thn (ha.run pos _ _ σ H _ I3 q) fun us s1 ⟨vs, H1, I4, r, q1⟩ => ⟨⟨ClX.pin_at I4, I4.kIn⟩, ?_⟩) hst hpl
  have ln : (Value.ref a :: us ++ []).length = ps.length := by
    rw [List.append_nil]
    have z := F.len _ _ _ _ q1
    rw [← z, List.length_cons, List.length_cons, r.length]
  have bd := hb s1 (.ref a :: us) I4.kIn ln
  rw [List.append_nil] at bd
  refine wpAny_call (PySem.W.method_call (ClX.pin_at I4) (codeAny_mono (F.run X.A X.stack s1 H1 ⟨.ref a :: us, []⟩ (.ref a :: us) (.ref a :: vs) _ E hr I4.env0 bd (.cons rfl r) q1) fun rs s3 z => ?_))
  cases rs with
  | error ex => exact hx _ σ H1 s1 ex s3 I4 z
  | ok fl =>
    cases fl with
    | ret u3 =>
      obtain ⟨v3, H3, I5, _, q3⟩ := I4.after z
      exact wpAt_of_wpAny (wpAny_execs_nil ⟨σ, H3, ClX.unpin I5, q3⟩)
    | next => exact False.elim z
    | brk => exact False.elim z
    | cont => exact False.elim z
end
end
/-! defs that are an __init__ -/
section
variable {P : Program} {w : World} {K : PySem.W.Frag} {mg : Str → Option Value} {base : Heap} {cl : Str → Option Addr}
theorem spI_len {mf : MO → List PV → Res (PV × MO)} {n : Nat} (tk : TaknR n mf) {vs : List V} {H : Hp} {Q : VK} {E : XK} : spI K cl mf vs H Q E → vs.length = n + 1 := fun ⟨O, b, mo, us, qs, e, hb, hO, hm, hl, hw⟩ => by
  rw [e, List.length_cons, hl.len]
  refine Classical.byContradiction fun c => ?_
  rw [tk mo qs (by omega)] at hw
  exact hw
theorem coreI {N : List Str} {n : Nat} {mf : MO → List PV → Res (PV × MO)} (tk : TaknR n mf) {vs : List V} {H : Hp} {Q : VK} {E : XK} {G : TS → Prop}
    (h : ∀ (mo : MO) (qs : List PV), qs.length = n → mf mo qs = .stuck ∨ ∃ t, G t ∧ ∃ M, Runs K cl (fun c d _ H' => E c d H') t (.rf 0 mo :: (qs.map Slot.fz ++ uns (N.length - (n + 1)))) M (fun mo : MO => .rf 0 mo :: uns (N.length - 1)) (fun l : Empty => nomatch l) (uns N.length) ∧ mf mo qs = retR M)
    (hsp : spI K cl mf vs H Q E) : ∃ t, G t ∧ t { nx := fun _ H' => Q .non H', rt := Q } (L2.start N vs) H := by
  have hvn := spI_len tk hsp
  obtain ⟨O, b, mo, us, qs, rfl, hb, hO, hm, hl, hw⟩ := hsp
  have hun : us.length = n := by rw [List.length_cons] at hvn; omega
  have hqn : qs.length = n := by rw [← hl.len]; exact hun
  rcases h mo qs hqn with e | ⟨t, ht, M, hM, e⟩
  · rw [e] at hw; exact hw.elim
  refine ⟨t, ht, ?_⟩
  rw [e] at hw
  have st0 : L2.start N (V.ref b :: us) = some (V.ref b) :: (us.map some ++ List.replicate (N.length - (n + 1)) none) := by
    unfold L2.start
    rw [List.length_cons, hun]
    rfl
  rw [st0]
  have ea : adr (.rf 0 mo :: (qs.map Slot.fz ++ uns (N.length - (n + 1)))) (some (V.ref b) :: (us.map some ++ List.replicate (N.length - (n + 1)) none)) = [b] := congrArg (b :: ·) (fz_adr _ _ _)
  have eo : owa (.rf 0 mo :: (qs.map Slot.fz ++ uns (N.length - (n + 1)))) (some (V.ref b) :: (us.map some ++ List.replicate (N.length - (n + 1)) none)) = [] := fz_owa _ _ _
  have sO : Sub (frz H O) (frz H (O ++ [b])) := frz_less fun a ha => by
    rcases List.mem_append.mp ha with c | c
    · exact c
    · have : a = b := by simpa using c
      rw [this]; exact hb
  have R : Rel K cl O [b] (.rf 0 mo :: (qs.map Slot.fz ++ uns (N.length - (n + 1)))) (some (V.ref b) :: (us.map some ++ List.replicate (N.length - (n + 1)) none)) H := by
    refine ⟨?_, by rw [ea]; simp, hO, by rw [eo]; exact fun _ z => nomatch z⟩
    rw [ea]
    refine .cons ⟨b, rfl, rfl, hm.mono sO fun _ e => e⟩ ?_
    have q := fz_rel (K := K) (cl := cl) (H := H) (N.length - (n + 1)) (hl.mono sO)
    have lift : ∀ {ρ : Ro} {σ : L2.St} {F H : Hp}, RelS K cl [] F H ρ σ → (∀ s ∈ ρ, (∃ p, s = .fz p) ∨ s = .un) → RelS K cl [b] F H ρ σ := fun {ρ σ F H} r => by
      induction r with
      | nil => exact fun _ => .nil
      | cons a r ih =>
        intro hs
        refine .cons ?_ (ih fun s h => hs s (List.mem_cons_of_mem _ h))
        rcases hs _ List.mem_cons_self with ⟨p, rfl⟩ | rfl
        · exact a
        · exact trivial
    refine lift q fun s hs => ?_
    rcases List.mem_append.mp hs with c | c
    · obtain ⟨p, _, rfl⟩ := List.mem_map.mp c
      exact .inl ⟨p, rfl⟩
    · exact .inr (List.eq_of_mem_replicate c)
  have keep : ∀ {A' : List Addr} {H' : Hp}, Gr (adr (.rf 0 mo :: (qs.map Slot.fz ++ uns (N.length - (n + 1)))) (some (V.ref b) :: (us.map some ++ List.replicate (N.length - (n + 1)) none))) H A' H' → ∀ x o, x ≠ b → H x = some o → H' x = some o := fun {A' H'} g x o ne e => g.1 x o (by rw [ea]; simpa using ne) e
  refine hM O [b] _ H _ R (fun a ha => by have : a = b := by simpa using ha
                                          rw [this]; exact hb) (wp_mono (wp_bind.mp hw) (fun fl q => ?_) fun c q C σ' H' e g _ => q C H' e (keep g))
  cases fl with
  | nx mo' =>
    intro σ' H' g R'
    have q' : ∀ v H', (∀ x o, x ≠ b → H x = some o → H' x = some o) → MoIs K cl (frz H' O) H' b mo' → Is K cl (frz H' O) v .non → Q v H' := q
    refine q' .non H' (keep g) ?_ .non
    have r0 : (Slot.rf 0 mo' :: uns (N.length - 1) : Ro)[0]? = some (.rf 0 mo') := rfl
    obtain ⟨x, e, a, rfl, hk, hmo⟩ := R'.sl.get r0
    have : b = a := by simpa using hk
    subst this
    exact hmo.mono (frz_less fun a ha => List.mem_append_left _ ha) fun _ e => e
  | rt v r =>
    match r, q with
    | [mo'], q =>
      have q' : ∀ v' H', (∀ x o, x ≠ b → H x = some o → H' x = some o) → MoIs K cl (frz H' O) H' b mo' → Is K cl (frz H' O) v' v → Q v' H' := q
      exact fun w' H' g i hbm => q' w' H' (keep g) (hbm 0 b mo' rfl rfl) i
  | ro mo r => exact q.elim
  | bk l => exact nomatch l
  | ct l => exact nomatch l
open PySem.Spec PyProof.Rows in
theorem fnI {x qual : Str} {st : Stmt} {f : Addr} {fd : FuncData} {N ps : List Str} {k n : Nat} {mf : MO → List PV → Res (PV × MO)} (F : Fun K x qual st f fd) (S : FnScope N ps (defScope st)) (hn : ps.length = n + 1) (tk : TaknR n mf)
    (h : ∀ (cdv : Value) (A : Around) (outer : List Env) (s : Shared) (H : Hp) (E : XK), Room k (A.deeper (envOfC qual (defScope st) s.heap.objs.size f cdv)) → ∀ (mo : MO) (qs : List PV), qs.length = n → mf mo qs = .stuck ∨
      ∃ t, PSs (cxOf (L2.CX P w) P w K mg base N qual (defScope st) f cdv A outer s H E) (defBody st) t ∧ ∃ M, Runs K cl (fun c d _ H' => E c d H') t (.rf 0 mo :: (qs.map Slot.fz ++ uns (N.length - (n + 1)))) M (fun mo : MO => .rf 0 mo :: uns (N.length - 1)) (fun l : Empty => nomatch l) (uns N.length) ∧ mf mo qs = retR M) :
    FnOk P w K mg base (L2.CX P w) (k + 1) f fd ps (spI K cl mf) :=
  F.okX S (fun vs H Q E h => (spI_len tk h).trans hn.symm) fun cdv A outer s H vs Q E hr hsp => coreI tk (h cdv A outer s H E hr) hsp
theorem fnIS {x qual : Str} {st : Stmt} {f D cc cda : Addr} {fd : FuncData} {N ps : List Str} {k n : Nat} {mf : MO → List PV → Res (PV × MO)} (F : FunS K x qual st f D cc cda fd) (S : ScopeS N ps (defScope st)) (hn : ps.length = n + 1) (tk : TaknR n mf)
    (h : ∀ (A : Around) (outer : List Env) (s : Shared) (H : Hp) (E : XK), Room k (A.deeper (envS qual (defScope st) s.heap.objs.size f cc (.ref cda))) → ∀ (mo : MO) (qs : List PV), qs.length = n → mf mo qs = .stuck ∨
      ∃ t, PAt (cxS (L2.CX P w) P w K mg base N qual (defScope st) f cc (.ref cda) A outer s H E) (.func (defBody st) (envS qual (defScope st) s.heap.objs.size f cc (.ref cda))) (defBody st) t ∧ ∃ M, Runs K cl (fun c d _ H' => E c d H') t (.rf 0 mo :: (qs.map Slot.fz ++ uns (N.length - (n + 1)))) M (fun mo : MO => .rf 0 mo :: uns (N.length - 1)) (fun l : Empty => nomatch l) (uns N.length) ∧ mf mo qs = retR M) :
    FnOk P w K mg base (L2.CX P w) (k + 1) f fd ps (spI K cl mf) :=
  F.ok S (fun vs H Q E h => (spI_len tk h).trans hn.symm) fun A outer s H vs Q E hr hsp => coreI tk (h A outer s H E hr) hsp
end
/-! ### super().__init__, methods of the thing under way -/
section
variable {K : PySem.W.Frag} {cl : Str → Option Addr} {F G : Hp}
theorem rd_ne {b a c dx : Addr} {fs : List (Str × V)} {vs : List V} (hF : F b = some (.ins c dx fs)) (s : ∀ x o, x ≠ b → F x = some o → G x = some o) (h : Rd F a (.tup vs)) : Rd G a (.tup vs) := by
  have n : a ≠ b := fun z => by
    subst z
    rcases h with h | ⟨o, h⟩ <;> rw [hF] at h <;> cases h
  rcases h with h | ⟨o, h⟩
  · exact .inl (s _ _ n h)
  · exact .inr ⟨o, s _ _ n h⟩
/-- a value that holds no thing: a number, a truth, None, a tuple of numbers -/
def flR : PV → Res PV
  | .int i => .val (.int i)
  | .bl b => .val (.bl b)
  | .non => .val .non
  | .tup ps => match allI ps with
    | some _ => .val (.tup ps)
    | none => .stuck
  | _ => .stuck
theorem isL_ints : ∀ {is : List Int} {vs : List V}, IsL K cl F vs (is.map PV.int) → IsL K cl G vs (is.map PV.int)
  | [], _, .nil => .nil
  | _ :: _, _, .cons (.int i) r => .cons (.int i) (isL_ints r)
theorem flR_move {b c dx : Addr} {fs : List (Str × V)} {v : V} {r : PV} {Q : PV → Prop} {E : Str → Prop} (q : wp (flR r) Q E) (hF : F b = some (.ins c dx fs)) (s : ∀ x o, x ≠ b → F x = some o → G x = some o) (h : Is K cl F v r) : Q r ∧ Is K cl G v r := by
  cases r with
  | int i => cases h; exact ⟨q, .int i⟩
  | bl i => cases h; exact ⟨q, .bl i⟩
  | non => cases h; exact ⟨q, .non⟩
  | tup ps =>
    unfold flR at q
    dsimp only at q
    split at q
    · next is e =>
      have e2 := allI_eq e
      subst e2
      cases h with
      | tup h l => exact ⟨q, .tup (h.imp (rd_ne hF s) id) (isL_ints l)⟩
    · exact q.elim
  | _ => exact q.elim
end
section
variable {K : PySem.W.Frag} {cl : Str → Option Addr} {W : WX} {bs O A A1 B : List Addr} {F H H' H1 : Hp} {ρ ρ' ρx ρh : Ro} {σ : St} {S S1 S2 L : Type} {ρs : S → Ro} {ρn : S1 → Ro} {ρl : L → Ro} {D : Ends} {t u v tb t1 t2 : TS} {te ta tc td : TE} {m ma mb : Res PV} {tr : TA} {ml : Res (List PV)}
def supP (C : Str) (mo : MO) (ml : Res (List PV)) (mf : MO → List PV → Res (PV × MO)) : Res (Fl MO L) := match mo with
  | .ob C' fs => if C' = C then ml >>= fun ps => noX (mf (.ob C' fs) ps) >>= fun r => .val (.nx r.2) else .stuck
  | _ => .stuck
theorem run_super {ρs' : MO → Ro} {C : Str} {c : Addr} {k : Nat} {mo : MO} {ρt : Ro} {E : XK} {mf : MO → List PV → Res (PV × MO)} (hc : cl C = some c) (hl : PurL K cl W tr (.rf k mo :: ρt) ml) (w : Wk (.rf k mo :: ρt) ρx) (w2 : ∀ mo', Wk (.rf k mo' :: ρt) (ρs' mo')) :
    Runs K cl W (tSup c (spI K cl mf) E tr) (.rf k mo :: ρt) (supP (L := L) C mo ml mf) ρs' ρl ρx := fun O bs σ H D R hb q => by
  unfold supP at q
  split at q
  · next C' fs =>
    split at q
    · next e =>
      subst e
      have r0 : (Slot.rf k (.ob C' fs) :: ρt : Ro)[0]? = some (.rf k (.ob C' fs)) := rfl
      obtain ⟨x, e, a, rfl, hk, c', dx, vs, h0, h1, h2⟩ := R.sl.get r0
      rw [hc] at h0
      cases h0
      refine ⟨a, dx, vs, e, h1, hl O bs σ H _ R (wp_mono (wp_bind.mp q) (fun ps qs us H1 s1 i1 => ?_) fun _ z => z.xw R w)⟩
      have R1 := R.same s1
      have ma : a ∈ O ++ adr (.rf k (.ob C' fs) :: ρt) σ := List.mem_append_right _ (adr_at r0 e (.inr ⟨k, _, rfl⟩))
      refine ⟨O ++ adr (.rf k (.ob C' fs) :: ρt) σ, a, .ob C' fs, us, ps, rfl, ma, fun b hb => R1.got hb, ⟨c, dx, vs, hc, s1 _ _ h1, h2.mono (frz_same s1)⟩, i1, wp_mono (wp_noX (E' := fun _ => False) (wp_bind.mp qs)) (fun r qr v H' hk' hm iv => ?_) fun _ z => z.elim⟩
      obtain ⟨o, ho⟩ := hm.got
      obtain ⟨R3, g3⟩ := R1.putH (m' := r.2) hk' ⟨o, ho⟩ r0 (.inr ⟨k, rfl⟩) e hm
      have g := (Gr.of (A := adr (.rf k (.ob C' fs) :: ρt) σ) s1).trans g3
      exact qr σ H' (g.trans (Gr.wk (w2 r.2))) (R3.wk (w2 r.2))
    · exact q.elim
  · exact q.elim
/-- a method of the thing under way, which gives something that holds no thing -/
theorem pu_methO {C mt : Str} {c : Addr} {i : Nat} {s : Slot} {C' : Str} {fs : List (Str × PV)} {mf : List PV → Res PV} (hc : cl C = some c) (hi : ρ[i]? = some s) (hs : s = .ow (.ob C' fs) ∨ ∃ k, s = .rf k (.ob C' fs)) (hl : PurL K cl W tr ρ ml) :
    Pur K cl W (tMethS' c mt (spP K cl mf) (WE W) (tVar i) tr) ρ ((Res.val (.ins C' fs)) >>= fun x => sel [(C, mf)] mt x >>= fun g => ml >>= fun ps => g (x :: ps) >>= flR) := fun O bs σ H Q R q => by
  have q2 : wp (sel [(C, mf)] mt (.ins C' fs) >>= fun g => ml >>= fun ps => g (.ins C' fs :: ps) >>= flR) (fun r => ∀ v H', Sub H H' → Is K cl (frz H' (O ++ adr ρ σ)) v r → Q v H') (XW cl W σ H) := q
  obtain ⟨fs', e1, e2, hw⟩ := sel_one (wp_bind.mp q2)
  cases e1
  have got : ∃ a dx vs, σ[i]? = some (some (.ref a)) ∧ H a = some (.ins c dx vs) ∧ IsF K cl (frz H (O ++ adr ρ σ)) vs fs := by
    obtain ⟨x, e, q⟩ := R.sl.get hi
    rcases hs with rfl | ⟨k, rfl⟩
    · obtain ⟨a, rfl, c', dx, vs, h0, h1, h2⟩ := q; rw [hc] at h0; cases h0; exact ⟨a, dx, vs, e, h1, h2⟩
    · obtain ⟨a, rfl, _, c', dx, vs, h0, h1, h2⟩ := q; rw [hc] at h0; cases h0; exact ⟨a, dx, vs, e, h1, h2⟩
  obtain ⟨a, dx, vs, ha, hv, hf⟩ := got
  refine ⟨_, ha, a, dx, vs, rfl, hv, hf.nolook e2, hl O bs σ H _ R (wp_mono (wp_bind.mp hw) (fun ps qs us H2 s2 i2 => ?_) fun _ z => z)⟩
  have R2 := R.same s2
  have less : Sub (frz H2 (O ++ adr ρ σ)) (frz H2 ((O ++ adr ρ σ).filter fun x => decide (x ≠ a))) := frz_less fun x hx => (List.mem_filter.mp hx).1
  have na : a ∉ (O ++ adr ρ σ).filter fun x => decide (x ≠ a) := fun z => by have := (List.mem_filter.mp z).2; simp at this
  refine ⟨(O ++ adr ρ σ).filter fun x => decide (x ≠ a), .ins C fs :: ps, fun x hx => R2.got (List.mem_filter.mp hx).1, .cons (.ins hc (frz_some.mpr ⟨na, s2 _ _ hv⟩) ((hf.mono (frz_same s2)).mono less)) (i2.mono less),
    wp_mono (wp_bind.mp qs) (fun r qr v H' s' iv => ?_) fun e qe C' H' he s' => qe C' H' he (s2.trans s')⟩
  obtain ⟨qq, iv'⟩ := flR_move (G := frz H' (O ++ adr ρ σ)) qr (frz_some.mpr ⟨na, s' _ _ (s2 _ _ hv)⟩) (fun x o n e => by
    obtain ⟨nm, e⟩ := frz_some.mp e
    exact frz_some.mpr ⟨fun z => nm (List.mem_filter.mpr ⟨z, by simpa using n⟩), e⟩) iv
  exact qq v H' (s2.trans s') iv'
end
/-! ### dict comprehensions -/
section
variable {K : PySem.W.Frag} {cl : Str → Option Addr} {W : WX} {bs O A A1 : List Addr} {F H H' H1 : Hp} {ρ ρ' ρx : Ro} {σ : St} {S S1 L : Type} {ρn : S → Ro} {ρj : S1 → Ro} {ρl : L → Ro} {D : Ends} {t u v tb : TS} {te ta tc : TE} {m ma mb : Res PV} {tr : TA} {ml : Res (List PV)} {md : Res (List (Key × PV))}
def dcF {α : Type} (d : PV → Res α) (c : α → Res Bool) (ek ev : α → Res PV) : List PV → List (Key × PV) → Res (List (Key × PV))
  | [], acc => .val acc
  | x :: xs, acc => noX (d x) >>= fun a => noX (c a) >>= fun b => if b = true then noX (ek a) >>= fun y => keyP y >>= fun k => noX (ev a) >>= fun z => dcF d c ek ev xs (putP acc k z) else dcF d c ek ev xs acc
theorem nd_dc {wi : TI} {g : TG} {tt : TT} {tk : TE} {vs : List Nat} {mi : Res (List PV)} {α : Type} {d : PV → Res α} {ρe : α → Ro} {mc : α → Res Bool} {mk me : α → Res PV} (hi : IterV K cl W wi ρ mi) (hv : nads ρ vs = true) (hne : vs ≠ []) (hg : TgtE K cl g vs (wipeR ρ vs) d ρe)
    (ht : ∀ a, Tst K cl (fun _ _ _ _ => False) tt (ρe a) (mc a)) (hk : ∀ a, Pur K cl (fun _ _ _ _ => False) tk (ρe a) (mk a)) (he : ∀ a, Pur K cl (fun _ _ _ _ => False) te (ρe a) (me a)) : NewD K cl W (tDc wi g tt tk te vs) ρ (mi >>= fun ps => sized ps.length >>= fun _ => dcF d mc mk me ps []) := fun O bs σ H Q R q => by
  refine hi O bs σ H _ R (wp_mono (wp_bind.mp q) (fun ps qp J H1 s1 hJ => ?_) fun _ z => z)
  obtain ⟨hz, qp⟩ := wp_sized (wp_bind.mp qp)
  intro Da hD
  have R1 := R.same s1
  have hD0 : H Da = none := none_back s1 hD
  obtain ⟨Rw, ew⟩ := R1.wipe hv
  have Rw0 := Rw.wider (o := .dK []) hD
  have nDA : Da ∉ O ++ adr ρ σ := fun z => by
    obtain ⟨u, e⟩ := R1.got z
    rw [hD] at e; cases e
  refine ⟨fun i mm H2 => mm = ps.length - i ∧ i ≤ ps.length ∧ Sub H1 H2 ∧ Rel K cl (Da :: O) bs (wipeR ρ vs) (wipe σ vs) H2 ∧ ∃ acc qs, H2 Da = some (.dK acc) ∧ acc.length ≤ i ∧ IsK K cl (frz H2 (Da :: (O ++ adr ρ σ))) acc qs ∧
      wp (dcF d mc mk me (ps.drop i) qs) (fun ys => ∀ p ws H', Sub H H' → H p = none → H' p = some (.dK ws) → IsK K cl (frz H' (p :: (O ++ adr ρ σ))) ws ys → Q (.ref p) H') (XW cl W σ H),
    ⟨_, rfl, Nat.zero_le _, sub_new hD _, Rw0, [], [], upd_same, Nat.le_refl _, .nil, by rw [List.drop_zero]; exact qp⟩, ?_⟩
  rintro i mm H2 ⟨rfl, hle, s2, R2, acc, qs, ha, hal, hl, qw⟩
  have sF : Sub (frz H1 (O ++ adr ρ σ)) (frz H2 (Da :: (O ++ adr ρ σ))) := fun x u e => by
    obtain ⟨n, e⟩ := frz_some.mp e
    refine frz_some.mpr ⟨fun z => ?_, s2 _ _ e⟩
    rcases List.mem_cons.mp z with c | c
    · rw [c, hD] at e; cases e
    · exact n c
  have gotB : ∀ a, a ∈ Da :: (O ++ adr ρ σ) → ∃ o, H2 a = some o := fun a z => R2.got (by rw [ew]; exact z)
  obtain ⟨hs, hgo⟩ := hJ H2 _ s2 sF gotB
  by_cases c : i = ps.length
  · subst c
    rw [List.drop_length] at qw
    have := qw Da acc H2 (s1.trans s2) hD0 ha hl
    exact .inl ⟨hs, this⟩
  · have hlt : i < ps.length := by omega
    obtain ⟨hgi, hy⟩ := hgo i _ (List.getElem?_eq_getElem hlt)
    rw [List.drop_eq_getElem_cons hlt] at qw
    refine .inr ⟨hgi, fun H3 => Sub H1 H3 ∧ Rel K cl (Da :: O) bs (wipeR ρ vs) (wipe σ vs) H3 ∧ ∃ acc qs, H3 Da = some (.dK acc) ∧ acc.length ≤ i + 1 ∧ IsK K cl (frz H3 (Da :: (O ++ adr ρ σ))) acc qs ∧
      wp (dcF d mc mk me (ps.drop (i + 1)) qs) (fun ys => ∀ p ws H', Sub H H' → H p = none → H' p = some (.dK ws) → IsK K cl (frz H' (p :: (O ++ adr ρ σ))) ws ys → Q (.ref p) H') (XW cl W σ H),
      fun H3 z => ⟨_, by omega, rfl, by omega, z⟩, fun x H3 hyx => ?_⟩
    obtain ⟨s3, ix⟩ := hy x H3 hyx
    have R3 := R2.same s3
    have qw := wp_bind.mp qw
    refine hg ps[i] (Da :: O) bs σ H3 x _ _ R3 (by rw [ew]; exact ix) (wp_mono (wp_noX (E' := fun _ => False) qw) (fun a qa σ4 R4 e4 w4 => ?_) fun _ z => z)
    refine ⟨w4 hne, ht a (Da :: O) bs σ4 H3 _ R4 (wp_mono (wp_noX (E' := fun _ => False) (wp_bind.mp qa)) (fun b qb H5 s5 => ?_) fun _ z => z.elim)⟩
    have R5 := R3.same s5
    have ha5 := s5 _ _ (s3 _ _ ha)
    have s25 := s3.trans s5
    cases b with
    | false => exact ⟨s2.trans s25, R5, acc, qs, ha5, by omega, hl.mono (frz_same s25), qb⟩
    | true =>
      refine hk a (Da :: O) bs σ4 H5 _ (R4.same s5) (wp_mono (wp_noX (E' := fun _ => False) (wp_bind.mp qb)) (fun y qy vy H6 s6 iy => ?_) fun _ z => z.elim)
      rw [e4, ew] at iy
      obtain ⟨k, ek, qk⟩ := wp_key (wp_bind.mp qy) (iy.view (H := H6) frz_sub)
      refine he a (Da :: O) bs σ4 H6 _ ((R4.same s5).same s6) (wp_mono (wp_noX (E' := fun _ => False) (wp_bind.mp qk)) (fun z qz vz H7 s7 iz => ?_) fun _ z => z.elim)
      rw [e4, ew] at iz
      have ha7 := s7 _ _ (s6 _ _ ha5)
      have s27 := (s25.trans s6).trans s7
      have keepD : ∀ x u, x ≠ Da → H7 x = some u → upd H7 Da (.dK (putK acc k vz)) x = some u := fun x u n e => by rw [upd_ne n]; exact e
      have sD : Sub (frz H7 (Da :: (O ++ adr ρ σ))) (frz (upd H7 Da (.dK (putK acc k vz))) (Da :: (O ++ adr ρ σ))) := fun x u e => by
        obtain ⟨n, e⟩ := frz_some.mp e
        exact frz_some.mpr ⟨n, keepD x u (fun z => n (z ▸ List.mem_cons_self)) e⟩
      refine ⟨acc, k, ek, ha7, by omega, fun x u e => keepD x u (ne_of_none e hD) (s27 _ _ (s2 _ _ e)), ((R5.same s6).same s7).putO List.mem_cons_self (by rw [ew]; exact fun z => nDA (List.mem_append_right _ z)), putK acc k vz, putP qs k z, upd_same, by have := length_putK acc k vz; omega, ?_, qz⟩
      exact ((hl.mono (frz_same s27)).put (k := k) iz).mono sD
end
/-! ### keywords: the wish for an exception may hang on the slots -/
section
open PySem.Spec PyProof.Rows
variable {X : Cx} {CX : CXT} {k : Nat} {f C : Addr} {fd : FuncData} {ps ks : List Str} {sp : Sp} {E : L2.St → XK} {x m : Str} {p pos apos : Pos} {e o : Expr} {es : List Expr} {kws : List Keyword} {ta : TE} {t tk : TA} {g : List Value → List Value → List Value} {gV : List V → List V → List V}
theorem run_fnkS {pins : List (Addr × Obj)} {σ : L2.St} {H : Hp} {s : Shared} {Q : VK} {us ws : List Value} {vs zs : List V} (F : FnOk X.prog X.w X.K X.mg X.base CX k f fd ps sp) (hr : Room k X.A) (hb : KBinds X.K fd ps ks g gV) (hx : PassesAt CX X σ (E σ))
    (I : Inv X pins σ H s) (r : Vals vs us) (rz : Vals zs ws) (h : sp (gV vs zs) H Q (E σ)) : wpAny (model X.prog X.w) X.A (call (.ref f) us (ks.zip ws)) (EP X pins σ Q) X.xe s := by
  have r2 := hb.rel r rz
  have hl : (g us ws).length = ps.length := by rw [← r2.length]; exact F.len _ _ _ _ h
  refine wpAny_call (codeAny_mono (F.run X.A X.stack s H ⟨us, ks.zip ws⟩ (g us ws) (gV vs zs) Q (E σ) hr I.env0 (hb.to s us ws I.kIn hl) r2 h) fun r s' hq => ?_)
  cases r with
  | error e => exact hx pins H s e s' I hq
  | ok fl =>
    cases fl with
    | ret u => exact I.after hq
    | next => exact False.elim hq
    | brk => exact False.elim hq
    | cont => exact False.elim hq
def tCallKS (sp : Sp) (gV : List V → List V → List V) (E : L2.St → XK) (t tk : TA) : TE := fun σ H Q => t σ H fun vs H1 => tk σ H1 fun zs H2 => sp (gV vs zs) H2 Q (E σ)
theorem pe_callKS (F : FnOk X.prog X.w X.K X.mg X.base CX k f fd ps sp) (hr : Room k X.A) (hg : Gl X x) (hm : X.mg x = some (.ref f)) (hk : PySem.W.keepIn X.K (.ref f) = true) (hb : KBinds X.K fd ps ks g gV) (hx : ∀ σ, PassesAt CX X σ (E σ))
    (ha : PA X (e :: es) t) (hkw : PK X kws tk) (hall : (backToKw pos (keywordEach kws X.env)).all (·.1.isSome) = true := by rfl) (hks : (backToKw pos (keywordEach kws X.env)).filterMap (·.1) = ks := by rfl)
    (hdb : (x == ("__debug__" : Str)) = false := by decide) (he : starEach (e :: es) X.env = (false, eval e X.env) :: starEach es X.env := by rfl)
    (hpl : ((backTo pos (starEach (e :: es) X.env)).any (·.1) || (backToKw pos (keywordEach kws X.env)).any (·.1.isNone)) = false := by rfl) :
    PE X (.Call (.Name x p) (e :: es) kws pos) (tCallKS sp gV E t tk) := by
  refine ⟨fun pins s σ H Q I h => ?_⟩
  refine wpAny_Call_Name_kw (ld_glob I hg hm ?_ hdb)
  refine PySem.W.callWith_KW (h₀ := X.base) I.ok.mod.kin hk hall (thn (ha.run pos pins s σ H _ I h) fun us s1 ⟨vs, H1, I1, r, q⟩ => ?_) hpl he
  refine thn (hkw.run pos pins s1 σ H1 _ I1 q) fun ws s2 ⟨zs, H2, I2, rz, q2⟩ => ⟨I2.kIn, ?_⟩
  rw [hks]
  exact run_fnkS F hr hb (hx σ) I2 r rz q2
theorem pe_callKS0 (F : FnOk X.prog X.w X.K X.mg X.base CX k f fd ps sp) (hr : Room k X.A) (hg : Gl X x) (hm : X.mg x = some (.ref f)) (hk : PySem.W.keepIn X.K (.ref f) = true) (hb : KBinds X.K fd ps ks g gV) (hx : ∀ σ, PassesAt CX X σ (E σ))
    (hkw : PK X kws tk) (hall : (backToKw pos (keywordEach kws X.env)).all (·.1.isSome) = true := by rfl) (hks : (backToKw pos (keywordEach kws X.env)).filterMap (·.1) = ks := by rfl)
    (hdb : (x == ("__debug__" : Str)) = false := by decide)
    (hpl : ((backTo pos (starEach [] X.env)).any (·.1) || (backToKw pos (keywordEach kws X.env)).any (·.1.isNone)) = false := by rfl) :
    PE X (.Call (.Name x p) [] kws pos) (tCallKS sp gV E tNil tk) := by
  refine ⟨fun pins s σ H Q I h => ?_⟩
  refine wpAny_Call_Name_kw (ld_glob I hg hm ?_ hdb)
  refine PySem.W.callWith_KW0 (h₀ := X.base) I.ok.mod.kin hk hall ?_ hpl
  refine thn (hkw.run pos pins s σ H _ I h) fun ws s2 ⟨zs, H2, I2, rz, q2⟩ => ⟨I2.kIn, ?_⟩
  rw [hks]
  exact run_fnkS (us := []) (vs := []) F hr hb (hx σ) I2 .nil rz q2
def tMethKS (C : Addr) (m : Str) (sp : Sp) (gV : List V → List V → List V) (E : L2.St → XK) (ta : TE) (t tk : TA) : TE := fun σ H Q => ta σ H fun x H1 => ∃ a dx fs, x = .ref a ∧ H1 a = some (.ins C dx fs) ∧ fs.lookup m = none ∧
  t σ H1 fun vs H2 => tk σ H2 fun zs H3 => sp (gV (x :: vs) zs) H3 Q (E σ)
theorem pe_methKS {pl : Sem Bool} (he : PE X o ta) (c : Cls X.K C) (hm : Meth X.K C m f) (F : FnOk X.prog X.w X.K X.mg X.base CX k f fd ps sp) (hr : Room k X.A) (hb : KBinds X.K fd ps ks g gV) (hx : ∀ σ, PassesAt CX X σ (E σ))
    (ha : PA X (e :: es) t) (hkw : PK X kws tk) (hall : (backToKw pos (keywordEach kws X.env)).all (·.1.isSome) = true := by rfl) (hks : (backToKw pos (keywordEach kws X.env)).filterMap (·.1) = ks := by rfl)
    (hst : starEach (e :: es) X.env = (false, eval e X.env) :: starEach es X.env := by rfl)
    (hpl : ((backTo pos (starEach (e :: es) X.env)).any (·.1) || (backToKw pos (keywordEach kws X.env)).any (·.1.isNone)) = false := by rfl)
    (ht : eval (.Call (.Attribute o m apos) (e :: es) kws pos) X.env = (do
      let ov ← eval o X.env
      standAt apos.atName
      let (f, first) ← holding [ov] (getMethod ov m pl)
      callWith pos f first (backTo pos (starEach (e :: es) X.env)) (backToKw pos (keywordEach kws X.env))) := by rfl) :
    PE X (.Call (.Attribute o m apos) (e :: es) kws pos) (tMethKS C m sp gV E ta t tk) := by
  refine ⟨fun pins s σ H Q I h => ?_⟩
  refine PySem.W.methodCall_KW (pl := pl) (thn (he.run pins s σ H _ I h) fun u s1 ⟨x, H1, I1, rx, a, dx, fs, ex, ea, l, q⟩ => ?_) ht
  subst ex
  obtain rfl : u = Value.ref a := rx
  refine getmeth_ok I1 ea c hm l ?_
  refine PySem.W.callWith_KW (first := [.ref a]) (h₀ := X.base) I.ok.mod.kin hm.kp hall (thn (ha.run pos pins s1 σ H1 _ I1 q) fun us s2 ⟨vs, H2, I2, r, q2⟩ => ?_) hpl hst
  refine thn (hkw.run pos pins s2 σ H2 _ I2 q2) fun ws s3 ⟨zs, H3, I3, rz, q3⟩ => ⟨I3.kIn, ?_⟩
  rw [hks]
  exact run_fnkS (us := .ref a :: us) (vs := .ref a :: vs) F hr hb (hx σ) I3 (.cons rfl r) rz q3
theorem pe_methKS0 {pl : Sem Bool} (he : PE X o ta) (c : Cls X.K C) (hm : Meth X.K C m f) (F : FnOk X.prog X.w X.K X.mg X.base CX k f fd ps sp) (hr : Room k X.A) (hb : KBinds X.K fd ps ks g gV) (hx : ∀ σ, PassesAt CX X σ (E σ))
    (hkw : PK X kws tk) (hall : (backToKw pos (keywordEach kws X.env)).all (·.1.isSome) = true := by rfl) (hks : (backToKw pos (keywordEach kws X.env)).filterMap (·.1) = ks := by rfl)
    (hpl : ((backTo pos (starEach [] X.env)).any (·.1) || (backToKw pos (keywordEach kws X.env)).any (·.1.isNone)) = false := by rfl)
    (ht : eval (.Call (.Attribute o m apos) [] kws pos) X.env = (do
      let ov ← eval o X.env
      standAt apos.atName
      let (f, first) ← holding [ov] (getMethod ov m pl)
      callWith pos f first (backTo pos (starEach [] X.env)) (backToKw pos (keywordEach kws X.env))) := by rfl) :
    PE X (.Call (.Attribute o m apos) [] kws pos) (tMethKS C m sp gV E ta tNil tk) := by
  refine ⟨fun pins s σ H Q I h => ?_⟩
  refine PySem.W.methodCall_KW (pl := pl) (thn (he.run pins s σ H _ I h) fun u s1 ⟨x, H1, I1, rx, a, dx, fs, ex, ea, l, q⟩ => ?_) ht
  subst ex
  obtain rfl : u = Value.ref a := rx
  refine getmeth_ok I1 ea c hm l ?_
  refine PySem.W.callWith_KW0 (first := [.ref a]) (h₀ := X.base) I.ok.mod.kin hm.kp hall ?_ hpl
  refine thn (hkw.run pos pins s1 σ H1 _ I1 q) fun ws s3 ⟨zs, H3, I3, rz, q3⟩ => ⟨I3.kIn, ?_⟩
  rw [hks]
  exact run_fnkS (us := [.ref a]) (vs := [.ref a]) F hr hb (hx σ) I3 (.cons rfl .nil) rz q3
def tMakeKS (C : Addr) (sp : Sp) (gV : List V → List V → List V) (E : L2.St → XK) (t tk : TA) : TE := fun σ H Q => t σ H fun vs H1 => tk σ H1 fun zs H2 => ∀ x dx, H2 x = none → H2 dx = none → dx ≠ x →
  sp (gV (.ref x :: vs) zs) (upd (upd H2 dx (.own x)) x (.ins C dx [])) (fun v H3 => v = .non ∧ Q (.ref x) H3) (E σ)
theorem run_makeKS {pins : List (Addr × Obj)} {σ : L2.St} {H : Hp} {s : Shared} {Q : VK} {us ws : List Value} {vs zs : List V} (M : Mk X.K C f) (F : FnOk X.prog X.w X.K X.mg X.base CX k f fd ps sp) (hr : Room (k + 1) X.A) (hb : KBinds X.K fd ps ks g gV) (hx : PassesAt CX X σ (E σ))
    (I : Inv X pins σ H s) (r : Vals vs us) (rz : Vals zs ws)
    (h : ∀ x dx, H x = none → H dx = none → dx ≠ x → sp (gV (.ref x :: vs) zs) (upd (upd H dx (.own x)) x (.ins C dx [])) (fun v H2 => v = .non ∧ Q (.ref x) H2) (E σ)) :
    wpAny (model X.prog X.w) X.A (call (.ref C) us (ks.zip ws)) (EP X pins σ Q) X.xe s := by
  have hq := h (s.heap.objs.size + 1) s.heap.objs.size (I.hok.fresh (Nat.le_succ _)) (I.hok.fresh (Nat.le_refl _)) (Nat.ne_of_lt (Nat.lt_succ_self _))
  have I2 := Inv.made (C := C) I
  have r1 : Vals (V.ref (s.heap.objs.size + 1) :: vs) (Value.ref (s.heap.objs.size + 1) :: us) := .cons rfl r
  have r2 := hb.rel r1 rz
  have hl : (g (Value.ref (s.heap.objs.size + 1) :: us) ws).length = ps.length := by rw [← r2.length]; exact F.len _ _ _ _ hq
  refine wpAny_call (make_map (f := f) I.kIn M.makes M.init (beq_iff_eq.mp M.fn) (codeAny_mono (F.run _ X.stack _ _ ⟨Value.ref (s.heap.objs.size + 1) :: us, ks.zip ws⟩ (g (Value.ref (s.heap.objs.size + 1) :: us) ws) _ _ (E σ) (hr.make C us (ks.zip ws))
    (I2.env0.make C us (ks.zip ws)) (hb.to _ (Value.ref (s.heap.objs.size + 1) :: us) ws I2.kIn hl) r2 hq) fun r s' hq' => ?_))
  cases r with
  | error e => exact hx pins _ _ e s' I2 hq'
  | ok fl =>
    cases fl with
    | ret u =>
      obtain ⟨v, H', I3, rv, ev, q3⟩ := I2.after hq'
      subst ev
      exact ⟨rv, ⟨V.ref (s.heap.objs.size + 1), H', I3, rfl, q3⟩⟩
    | next => exact False.elim hq'
    | brk => exact False.elim hq'
    | cont => exact False.elim hq'
theorem pe_makeKS0 (M : Mk X.K C f) (F : FnOk X.prog X.w X.K X.mg X.base CX k f fd ps sp) (hr : Room (k + 1) X.A) (hg : Gl X x) (hm : X.mg x = some (.ref C)) (hb : KBinds X.K fd ps ks g gV) (hx : ∀ σ, PassesAt CX X σ (E σ)) (hkw : PK X kws tk)
    (hall : (backToKw pos (keywordEach kws X.env)).all (·.1.isSome) = true := by rfl) (hks : (backToKw pos (keywordEach kws X.env)).filterMap (·.1) = ks := by rfl) (hdb : (x == ("__debug__" : Str)) = false := by decide)
    (hpl : ((backTo pos (starEach [] X.env)).any (·.1) || (backToKw pos (keywordEach kws X.env)).any (·.1.isNone)) = false := by rfl) :
    PE X (.Call (.Name x p) [] kws pos) (tMakeKS C sp gV E tNil tk) := by
  refine ⟨fun pins s σ H Q I h => ?_⟩
  refine wpAny_Call_Name_kw (ld_glob I hg hm ?_ hdb)
  refine PySem.W.callWith_KW0 (h₀ := X.base) I.ok.mod.kin M.kp hall ?_ hpl
  refine thn (hkw.run pos pins s σ H _ I h) fun ws s2 ⟨zs, H2, I2, rz, q2⟩ => ⟨I2.kIn, ?_⟩
  rw [hks]
  exact run_makeKS (us := []) (vs := []) M F hr hb (hx σ) I2 .nil rz q2
theorem pe_makeKS (M : Mk X.K C f) (F : FnOk X.prog X.w X.K X.mg X.base CX k f fd ps sp) (hr : Room (k + 1) X.A) (hg : Gl X x) (hm : X.mg x = some (.ref C)) (hb : KBinds X.K fd ps ks g gV) (hx : ∀ σ, PassesAt CX X σ (E σ)) (ha : PA X (e :: es) t) (hkw : PK X kws tk)
    (hall : (backToKw pos (keywordEach kws X.env)).all (·.1.isSome) = true := by rfl) (hks : (backToKw pos (keywordEach kws X.env)).filterMap (·.1) = ks := by rfl) (hdb : (x == ("__debug__" : Str)) = false := by decide)
    (he : starEach (e :: es) X.env = (false, eval e X.env) :: starEach es X.env := by rfl) (hpl : ((backTo pos (starEach (e :: es) X.env)).any (·.1) || (backToKw pos (keywordEach kws X.env)).any (·.1.isNone)) = false := by rfl) :
    PE X (.Call (.Name x p) (e :: es) kws pos) (tMakeKS C sp gV E t tk) := by
  refine ⟨fun pins s σ H Q I h => ?_⟩
  refine wpAny_Call_Name_kw (ld_glob I hg hm ?_ hdb)
  refine PySem.W.callWith_KW (h₀ := X.base) I.ok.mod.kin M.kp hall (thn (ha.run pos pins s σ H _ I h) fun us s1 ⟨vs, H1, I1, r, q⟩ => ?_) hpl he
  refine thn (hkw.run pos pins s1 σ H1 _ I1 q) fun ws s2 ⟨zs, H2, I2, rz, q2⟩ => ⟨I2.kIn, ?_⟩
  rw [hks]
  exact run_makeKS M F hr hb (hx σ) I2 r rz q2
end
/-! ### keywords, within a try too; methods called by keywords -/
section
variable {K : PySem.W.Frag} {cl : Str → Option Addr} {W : WX} {bs O A A1 B : List Addr} {F H H' H1 : Hp} {ρ ρ' ρx ρh : Ro} {σ : St} {te ta tc td : TE} {m ma mb : Res PV} {tr tk : TA} {ml mk : Res (List PV)} {mf : List PV → Res PV}
theorem pu_callKS {gV : List V → List V → List V} {gP : List PV → List PV → List PV} (hg : ∀ {F : Hp} {vs : List V} {ps : List PV} {ws : List V} {qs : List PV}, IsL K cl F vs ps → IsL K cl F ws qs → IsL K cl F (gV vs ws) (gP ps qs))
    (hl : PurL K cl W tr ρ ml) (hk : PurL K cl W tk ρ mk) : Pur K cl W (tCallKS (spP K cl mf) gV (WE W) tr tk) ρ (ml >>= fun ps => mk >>= fun qs => mf (gP ps qs)) := fun O bs σ H Q R q => by
  refine hl O bs σ H _ R (wp_mono (wp_bind.mp q) (fun ps q1 vs H1 s1 i1 => ?_) fun _ z => z)
  refine hk O bs σ H1 _ (R.same s1) (wp_mono (wp_bind.mp q1) (fun qs q2 ws H2 s2 i2 => ?_) fun _ z => z.mono s1)
  have s12 := s1.trans s2
  exact ⟨O ++ adr ρ σ, gP ps qs, fun a h => (R.same s12).got h, hg (i1.mono (frz_same s2)) i2, wp_mono q2 (fun r qr v H' s i => qr v H' (s12.trans s) i) fun c qc C H' e s => qc C H' e (s12.trans s)⟩
theorem pu_methK {C : Str} {c : Addr} {mt : Str} {gV : List V → List V → List V} {gP : List PV → List PV → List PV} (hg : ∀ {F : Hp} {vs : List V} {ps : List PV} {ws : List V} {qs : List PV}, IsL K cl F vs ps → IsL K cl F ws qs → IsL K cl F (gV vs ws) (gP ps qs))
    (hc : cl C = some c) (ha : Pur K cl W ta ρ ma) (hl : PurL K cl W tr ρ ml) (hk : PurL K cl W tk ρ mk) :
    Pur K cl W (tMethKS c mt (spP K cl mf) gV (WE W) ta tr tk) ρ (ma >>= fun x => sel [(C, mf)] mt x >>= fun g => ml >>= fun ps => mk >>= fun qs => g (gP (x :: ps) qs)) := fun O bs σ H Q R q => by
  refine ha O bs σ H _ R (wp_mono (wp_bind.mp q) (fun x qx v1 H1 s1 i1 => ?_) fun _ z => z)
  have R1 := R.same s1
  obtain ⟨fs, rfl, e2, hw⟩ := sel_one (wp_bind.mp qx)
  have main : ∃ a dx vs, v1 = .ref a ∧ H1 a = some (.ins c dx vs) ∧ vs.lookup mt = none := by
    cases i1 with
    | ins h0 h1 h2 =>
      rw [hc] at h0
      cases h0
      exact ⟨_, _, _, rfl, frz_sub _ _ h1, h2.nolook e2⟩
  obtain ⟨a, dx, vs, e3, e4, e5⟩ := main
  refine ⟨a, dx, vs, e3, e4, e5, hl O bs σ H1 _ R1 (wp_mono (wp_bind.mp hw) (fun ps z us H2 s2 i2 => ?_) fun _ z C' H' e s => z C' H' e (s1.trans s))⟩
  have R2 := R1.same s2
  refine hk O bs σ H2 _ R2 (wp_mono (wp_bind.mp z) (fun qs z2 ws H3 s3 i3 => ?_) fun _ z C' H' e s => z C' H' e (s1.trans (s2.trans s)))
  have s13 := s2.trans s3
  exact ⟨O ++ adr ρ σ, gP (.ins C fs :: ps) qs, fun a h => ((R2.same s3).got h), hg (.cons (i1.mono (frz_same s13)) (i2.mono (frz_same s3))) i3, wp_mono z2 (fun r qr v H' s i => qr v H' (s1.trans (s13.trans s)) i) fun e qe C' H' he s => qe C' H' he (s1.trans (s13.trans s))⟩
/-- the arguments behind the thing that is made -/
def tlP : List PV → Res (List PV)
  | _ :: as => .val as
  | [] => .stuck
theorem tl_ok {F : Hp} {vs ws : List V} {ps zs : List PV} {gV : List V → List V → List V} {gP : List PV → List PV → List PV} {Q : List PV → Prop} {E : Str → Prop}
    (hg : ∀ {F : Hp} {vs : List V} {ps : List PV} {ws : List V} {qs : List PV} (x : V), IsL K cl F vs ps → IsL K cl F ws qs → ∀ p as, gP (.non :: ps) qs = p :: as → ∃ us, gV (x :: vs) ws = x :: us ∧ IsL K cl F us as)
    (x : V) (i : IsL K cl F vs ps) (j : IsL K cl F ws zs) (h : wp (tlP (gP (.non :: ps) zs)) Q E) : ∃ as us, gV (x :: vs) ws = x :: us ∧ IsL K cl F us as ∧ Q as := by
  cases e : gP (.non :: ps) zs with
  | nil => rw [e] at h; exact h.elim
  | cons p as =>
    rw [e] at h
    obtain ⟨us, e1, e2⟩ := hg x i j p as e
    exact ⟨as, us, e1, e2, h⟩
theorem pu_makeK {C : Str} {c : Addr} {mf : MO → List PV → Res (PV × MO)} {gV : List V → List V → List V} {gP : List PV → List PV → List PV}
    (hg : ∀ {F : Hp} {vs : List V} {ps : List PV} {ws : List V} {qs : List PV} (x : V), IsL K cl F vs ps → IsL K cl F ws qs → ∀ p as, gP (.non :: ps) qs = p :: as → ∃ us, gV (x :: vs) ws = x :: us ∧ IsL K cl F us as)
    (hc : cl C = some c) (hl : PurL K cl W tr ρ ml) (hk : PurL K cl W tk ρ mk) :
    Pur K cl W (tMakeKS c (spI K cl mf) gV (WE W) tr tk) ρ (ml >>= fun ps => mk >>= fun qs => tlP (gP (.non :: ps) qs) >>= fun as => mf (.ob C []) as >>= frO) := fun O bs σ H Q R q => by
  refine hl O bs σ H _ R (wp_mono (wp_bind.mp q) (fun ps qa vs H0 s0 i0 => ?_) fun _ z => z)
  refine hk O bs σ H0 _ (R.same s0) (wp_mono (wp_bind.mp qa) (fun zs qb ws H1 s01 j1 => ?_) fun _ z C' H' e s => z C' H' e (s0.trans s))
  have s1 := s0.trans s01
  intro x dx hx hdx hne
  have R1 := R.same s1
  obtain ⟨as, us, e1, i1, qs⟩ := tl_ok hg (V.ref x) (i0.mono (frz_same s01)) j1 (wp_bind.mp qb)
  rw [e1]
  have sx : Sub H1 (upd (upd H1 dx (.own x)) x (.ins c dx [])) := fun y o e => by
    have n1 : y ≠ x := fun z => by rw [z, hx] at e; cases e
    have n2 : y ≠ dx := fun z => by rw [z, hdx] at e; cases e
    rw [upd_ne n1, upd_ne n2]; exact e
  have nx : x ∉ O ++ adr ρ σ := fun z => by obtain ⟨o, e⟩ := R1.got z; rw [hx] at e; cases e
  have sF : Sub (frz H1 (O ++ adr ρ σ)) (frz (upd (upd H1 dx (.own x)) x (.ins c dx [])) (x :: (O ++ adr ρ σ))) := fun y o e => by
    obtain ⟨n, e⟩ := frz_some.mp e
    refine frz_some.mpr ⟨fun z => ?_, sx _ _ e⟩
    rcases List.mem_cons.mp z with z | z
    · rw [z, hx] at e; cases e
    · exact n z
  refine ⟨x :: (O ++ adr ρ σ), x, .ob C [], us, as, rfl, List.mem_cons_self, fun a ha => ?_, ⟨c, dx, [], hc, upd_same, .nil⟩, i1.mono sF, wp_mono (wp_bind.mp qs) (fun r qr v H' hk hm iv => ?_) fun e qe C' H' he hk => ?_⟩
  · rcases List.mem_cons.mp ha with z | z
    · exact ⟨_, by rw [z]; exact upd_same⟩
    · obtain ⟨o, e⟩ := R1.got z
      exact ⟨o, sx _ _ e⟩
  · have sH : Sub H1 H' := fun y o e => hk y o (fun z => by rw [z, hx] at e; cases e) (sx _ _ e)
    unfold frO at qr
    split at qr
    · next C2 fs2 =>
      cases iv
      obtain ⟨c2, dx2, vs2, h0, h1, h2⟩ := hm
      refine ⟨rfl, qr _ H' (s1.trans sH) (.ins h0 (frz_some.mpr ⟨nx, h1⟩) (h2.mono (frz_less fun a ha => List.mem_cons_of_mem _ ha)))⟩
    · exact qr.elim
  · exact qe C' H' he (s1.trans fun y o e => hk y o (fun z => by rw [z, hx] at e; cases e) (sx _ _ e))
end
/-! ### range of two with effects, isinstance of an own class -/
section
variable {K : PySem.W.Frag} {cl : Str → Option Addr} {W : WX} {S : Type} {ρs : S → Ro} {ta tc : TE} {ma mb : S → Res (PV × S)}
theorem ei_rng2 (ha : Eff K cl ta ρs ma) (hb' : Eff K cl tc ρs mb) : EffI K cl (iRng2 (tCons ta (tCons tc tNil))) ρs (fun s => ma s >>= fun x => mb x.2 >>= fun y => rng2 x.1 y.1 >>= fun z => .val (z, y.2)) := fun s O bs σ H Rr R hb q => by
  refine ha s O bs σ H _ R hb (wp_mono (wp_bind.mp q) (fun x qx v1 H1 g1 R1 e1 i1 => ?_) fun _ z => z)
  refine hb' x.2 O bs σ H1 _ R1 hb (wp_mono (wp_bind.mp qx) (fun y w v2 H2 g2 R2 e2 i2 => ?_) fun _ z => z)
  rw [e1] at g2 i2
  have w := wp_bind.mp w
  unfold rng2 at w
  split at w
  · next i j ei ej =>
    rw [ei] at i1
    rw [ej] at i2
    cases i1
    cases i2
    split at w
    · next c => exact ⟨i, j, rfl, c, w _ H2 (g1.trans g2) R2 (e2.trans e1) (itOk_rng rng_len fun i p h => rng_get h)⟩
    · exact w.elim
  · exact w.elim
end
/-- the classes whose things are told: with the answer for one class -/
def isiC (tab : List (Str × Bool)) : PV → Res PV
  | .ins C _ => match tab.lookup C with
    | some b => .val (.bl b)
    | none => .stuck
  | _ => .stuck
theorem kit_ownC {K : PySem.W.Frag} {C D : Addr} (hdct : PySem.W.hasDictIn K D = true) (ht : PySem.W.typeIn K (.ref D) = some (.type "type")) (h4 : PySem.W.subIn K (.ref C) (.ref D) = some true) : PySem.W.kitOne K (.ref C) (.ref D) = some true := by
  obtain ⟨cd, hc, _⟩ := PySem.W.any_some hdct
  have e2 : ((PySem.W.clsIn K D).isSome && PySem.W.typeIn K (.ref D) == some (.type "type")) = true := by rw [hc, ht] <;> rfl
  show (if (Value.ref C == .ref D) = true then some true else (if ((PySem.W.clsIn K D).isSome && PySem.W.typeIn K (.ref D) == some (.type "type")) = true then PySem.W.subIn K (.ref C) (.ref D) else none)) = some true
  rw [if_pos e2, h4]
  split <;> rfl
theorem kit_notC {K : PySem.W.Frag} {C D : Addr} (hne : (Value.ref C == Value.ref D) = false) (hdct : PySem.W.hasDictIn K D = true) (ht : PySem.W.typeIn K (.ref D) = some (.type "type")) (h4 : PySem.W.subIn K (.ref C) (.ref D) = some false) : PySem.W.kitOne K (.ref C) (.ref D) = some false := by
  obtain ⟨cd, hc, _⟩ := PySem.W.any_some hdct
  have e2 : ((PySem.W.clsIn K D).isSome && PySem.W.typeIn K (.ref D) == some (.type "type")) = true := by rw [hc, ht] <;> rfl
  show (if (Value.ref C == .ref D) = true then some true else (if ((PySem.W.clsIn K D).isSome && PySem.W.typeIn K (.ref D) == some (.type "type")) = true then PySem.W.subIn K (.ref C) (.ref D) else none)) = some false
  rw [hne, if_neg (by decide), if_pos e2, h4]
/-- what isinstance asks of a thing's class -/
structure InsK (K : PySem.W.Frag) (C : Addr) : Prop where
  cl : Cls K C
  ha : PySem.W.findIn K (.ref C) "__class__" = some (some (.builtin "object.__class__"))
  hn : PySem.W.specialIn K (.builtin "object.__class__") "__get__" = some (some (.builtin "getset_descriptor.__get__"))
  htk : PySem.W.takesIn K (.builtin "object.__class__") = some true
  hm : PySem.W.mroIn K C (.type "object") = some true
section
variable {K : PySem.W.Frag} {cl : Str → Option Addr} {W : WX} {ρ : Ro} {ta : TE} {m : Res PV}
theorem pu_isiC {D : Addr} {tab : List (Str × Bool)} (hT : ∀ C b, tab.lookup C = some b → ∀ c, cl C = some c → InsK K c ∧ PySem.W.kitOne K (.ref c) (.ref D) = some b) (ha : Pur K cl W ta ρ m) :
    Pur K cl W (tCB (rIsi K) (tCons ta (tCons (tC (.ref D)) tNil))) ρ (m >>= isiC tab) := fun O bs σ H Q R q => by
  refine ha O bs σ H _ R (wp_mono (wp_bind.mp q) (fun x qx v1 H1 s1 i1 => ?_) fun _ z => z)
  unfold isiC at qx
  split at qx
  · next C fs =>
    split at qx
    · next b e =>
      cases i1 with
      | ins h0 h1 h2 =>
        obtain ⟨k, kk⟩ := hT C b e _ h0
        exact ⟨_, _, _, _, b, rfl, .own D, .base (TyOf.ins (frz_sub _ _ h1) k.cl k.ha k.hn k.htk k.hm), kk, qx _ H1 s1 (.bl b)⟩
    · exact qx.elim
  · exact qx.elim
end
open PySem.Spec PyProof.Rows in
theorem pi_enTV (K : PySem.W.Frag) {X : Cx} (eK : X.K = K) {e : Expr} {ta : TA} {p pos tpos : Pos} {elts : List Expr} {kk : Nat} (hg : Gl X "enumerate") (hm : X.mg "enumerate" = none) (ha : PA X [e] ta) (hs : starEach [e] X.env = [(false, eval e X.env)] := by rfl) :
    PI X (.Tuple elts kk tpos) (.Call (.Name "enumerate" p) [e] [] pos) (iEnT K ta) := by
  subst eK
  exact pi_enT hg hm ha hs
/-! ### len(set(tuple of ints)) -/
def dedupI : List Int → List Int
  | [] => []
  | x :: r => if x ∈ r then dedupI r else x :: dedupI r
theorem mem_dedupI {x : Int} : ∀ {l : List Int}, x ∈ dedupI l ↔ x ∈ l
  | [] => Iff.rfl
  | y :: r => by
    unfold dedupI
    by_cases c : y ∈ r
    · rw [if_pos c, mem_dedupI, List.mem_cons]
      exact ⟨.inr, fun h => h.elim (fun e => e ▸ c) id⟩
    · rw [if_neg c, List.mem_cons, List.mem_cons, mem_dedupI]
theorem nodup_dedupI : ∀ {l : List Int}, (dedupI l).Nodup
  | [] => List.nodup_nil
  | y :: r => by
    unfold dedupI
    by_cases c : y ∈ r
    · rw [if_pos c]
      exact nodup_dedupI
    · rw [if_neg c]
      exact List.nodup_cons.mpr ⟨fun z => c (mem_dedupI.mp z), nodup_dedupI⟩
theorem dedupI_nodup : ∀ {l : List Int}, l.Nodup → dedupI l = l
  | [], _ => rfl
  | y :: r, h => by
    obtain ⟨h1, h2⟩ := List.nodup_cons.mp h
    unfold dedupI
    rw [if_neg h1, dedupI_nodup h2]
theorem dedupI_le : ∀ {l : List Int}, (dedupI l).length ≤ l.length
  | [] => Nat.le_refl _
  | y :: r => by
    unfold dedupI
    have := dedupI_le (l := r)
    split
    · exact Nat.le_trans this (Nat.le_succ _)
    · exact Nat.succ_le_succ this
section
open PySem.Spec PyProof.Rows
variable {X : Cx}
def tLenSetT (K : PySem.W.Frag) (ta : TE) : TE := fun σ H Q => ta σ H fun x H1 => ∃ (l : Addr) (ns : List Int), x = V.ref l ∧ SqT K H1 l (ns.map V.int) ∧ ns.length < 1000 ∧ Q (.int ((dedupI ns).length : Nat)) H1
theorem pe_lenSetT (K : PySem.W.Frag) (eK : X.K = K) {a : Expr} {ta : TE} {p p2 q pos : Pos} (hc : X.calm = true) (hg : Gl X "len") (hm : X.mg "len" = none) (hg2 : Gl X "set") (hm2 : X.mg "set" = none) (ha : PE X a ta)
    (na : starEach [a] X.env = (false, eval a X.env) :: starEach [] X.env := by rfl) : PE X (.Call (.Name "len" p) [.Call (.Name "set" p2) [a] [] q] [] pos) (tLenSetT K ta) := by
  subst eK
  refine ⟨fun pins s σ H Q I h => ?_⟩
  refine Call_ (ld_blt I hg hm PySem.boot_len ?_)
  refine PyProof.Rows.callWith_builtin1 (PyProof.Rows.args_cons ?_ rfl) rfl rfl
  refine Call_ (ld_blt I hg2 hm2 PyProof.Rows.boot_set ?_)
  refine PyProof.Rows.callWith_type1 (PyProof.Rows.args_cons (thn (ha.run pins s σ H _ I h) fun v s1 ⟨x, H1, I1, r1, q1⟩ => PyProof.Rows.args_nil ?_) na) na rfl
  obtain ⟨l, ns, rfl, hq, h1, q1⟩ := q1
  cases r1
  obtain ⟨its, rv, pt, hz⟩ := I1.tuple hq
  refine call_set_tupI ns (I1.ok.hd hc) (show s1.heap.IsTuple l its.toArray from pt) (ints_of_vals rv) (by unfold scanBound; omega) fun h' tk c hS hcn hk => ?_
  refine PyProof.Rows.args_nil ?_
  obtain ⟨o, es, ep, t, ho, hex, hd, hg1, hnd, hmem, hb, hf, hn, _, _⟩ := hS
  have I2 : Inv X pins σ H1 { s1 with heap := h', toks := tk } := I1.kept fun b o e => hk b o e
  have hpm : (es.toList.map keyOf).Perm (dedupI ns) := (List.perm_ext_iff_of_nodup hnd nodup_dedupI).mpr fun k => by
    rw [← hmem k, mem_dedupI, decide_eq_true_eq]
  have hsz : es.size = (dedupI ns).length := by
    have := hpm.length_eq
    rwa [List.length_map, Array.length_toList] at this
  have hle := dedupI_le (l := ns)
  refine call_len_set ho hex hd hf (by rw [hsz]; omega) ⟨.int ((dedupI ns).length : Nat), H1, I2.tok _, ⟨_, by rw [hsz]⟩, q1⟩
end
section
variable {K : PySem.W.Frag} {cl : Str → Option Addr} {W : WX} {ρ : Ro} {ta : TE} {m : Res PV}
def lenSetP : PV → Res PV
  | .tup ps => match allI ps with
    | some is => if is.length < 1000 then .val (.int ((dedupI is).length : Nat)) else .stuck
    | none => .stuck
  | _ => .stuck
theorem pu_lenSet (ha : Pur K cl W ta ρ m) : Pur K cl W (tLenSetT K ta) ρ (m >>= lenSetP) := fun O bs σ H Q R q => by
  refine ha O bs σ H _ R (wp_mono (wp_bind.mp q) (fun x qx v1 H1 s1 i1 => ?_) fun _ z => z)
  unfold lenSetP at qx
  split at qx
  · next ps =>
    split at qx
    · next is e =>
      split at qx
      · next c =>
        cases i1 with
        | tup h l =>
          cases allI_eq e
          cases l.ints
          exact ⟨_, is, rfl, frz_sub.sqT h, c, qx _ H1 s1 (.int _)⟩
      · exact qx.elim
    · exact qx.elim
  · exact qx.elim
end
/-! ### a test that is a value's truth -/
def tTru (K : PySem.W.Frag) (ta : TE) : TT := fun σ H Q => ta σ H fun x H' => ∃ k, TruV K x H' k ∧ Q k H'
theorem pt_truthV (K : PySem.W.Frag) {X : Cx} (eK : X.K = K) {a : Expr} {ta : TE} (ha : PE X a ta) (he : ∀ whole, isTrue a X.env whole = (do let v ← whole; standAt a.pos; holding [v] (truthy v)) := by intro _; rfl) : PT X a (tTru K ta) := by
  subst eK
  exact pt_truth ha he
def truP : PV → Res Bool
  | .bl b => .val b
  | .int i => .val (i != 0)
  | .non => .val false
  | .lst l => .val (!l.isEmpty)
  | .tup l => .val (!l.isEmpty)
  | _ => .stuck
theorem isL_empty {K : PySem.W.Frag} {cl : Str → Option Addr} {F : Hp} {vs : List V} {ps : List PV} (h : IsL K cl F vs ps) : vs.isEmpty = ps.isEmpty := by cases h <;> rfl
section
variable {K : PySem.W.Frag} {cl : Str → Option Addr} {W : WX} {ρ : Ro} {ta : TE} {ma : Res PV}
theorem ts_tru (ha : Vw K cl W ta ρ ma) : Tst K cl W (tTru K ta) ρ (ma >>= truP) := fun O bs σ H Q R q => by
  refine ha O bs σ H _ R (wp_mono (wp_bind.mp q) (fun x qx v1 H1 s1 i1 => ?_) fun _ z => z)
  cases x with
  | bl b => cases isV_bl i1; exact ⟨b, rfl, qx H1 s1⟩
  | int i => cases isV_int i1; exact ⟨_, rfl, qx H1 s1⟩
  | non => cases i1; exact ⟨false, rfl, qx H1 s1⟩
  | lst l =>
    obtain ⟨a, vs, rfl, h1, r⟩ := i1
    refine ⟨!vs.isEmpty, .inl ⟨vs, .inl (.inl h1), rfl⟩, ?_⟩
    rw [isL_empty r]
    exact qx H1 s1
  | tup l =>
    cases i1 with
    | tup h r =>
      refine ⟨_, .inr (.inl ⟨_, frz_sub.sqT h, rfl⟩), ?_⟩
      rw [isL_empty r]
      exact qx H1 s1
  | _ => exact qx.elim
end
/-! ### sorted(list of ints); values that are tested with effects -/
def sortI (l : List Int) : List Int := l.mergeSort fun a b => decide (a ≤ b)
theorem sortI_perm (l : List Int) : (sortI l).Perm l := List.mergeSort_perm _ _
theorem sortI_sorted (l : List Int) : (sortI l).Pairwise (· ≤ ·) := by
  have := List.pairwise_mergeSort (le := fun a b : Int => decide (a ≤ b)) (fun a b c h1 h2 => decide_eq_true (Int.le_trans (of_decide_eq_true h1) (of_decide_eq_true h2)))
    (fun a b => by rcases Int.le_total a b with h | h <;> simp [h]) l
  exact this.imp fun h => of_decide_eq_true h
theorem sortI_unique {l m : List Int} (h1 : m.Perm l) (h2 : m.Pairwise (· ≤ ·)) : m = sortI l :=
  List.Perm.eq_of_pairwise (fun a b _ _ x y => Int.le_antisymm x y) h2 (sortI_sorted l) (h1.trans (sortI_perm l).symm)
section
variable {K : PySem.W.Frag} {cl : Str → Option Addr}
theorem cr_sortedIV (K : PySem.W.Frag) {X : Cx} (e : X.K = K) : CallR X (.builtin "sorted") (rSortedI K) := by subst e; exact cr_sortedI
def sortP (p : PV) : Res PV := asLi p >>= fun ps => match allI ps with
  | some is => .val (.lst ((sortI is).map PV.int))
  | none => .stuck
theorem isL_of_ints {F : Hp} : ∀ (is : List Int), IsL K cl F (is.map V.int) (is.map PV.int)
  | [] => .nil
  | i :: is => .cons (.int i) (isL_of_ints is)
theorem b1_sort : Bi1 K cl (rSortedI K) sortP := fun A H x p Q E hA ix w => by
  obtain ⟨a, vs, ps, rfl, hs, hl, w⟩ := wp_asLi (wp_bind.mp w) ix
  split at w
  · next is e =>
    cases allI_eq e
    cases hl.ints
    refine ⟨a, is, rfl, hs, fun ns' l h1 h2 hl' => ?_⟩
    cases sortI_unique h1 h2
    exact w _ _ (sub_new hl' _) (new_lst hA hl' (isL_of_ints _))
  · exact w.elim
end
section
variable {K : PySem.W.Frag} {cl : Str → Option Addr} {W : WX} {S : Type} {ρs : S → Ro} {ta tc : TE} {ma mb : S → Res (PV × S)}
theorem ef_andV (ha : Eff K cl ta ρs ma) (hb' : Eff K cl tc ρs mb) : Eff K cl (tAndV ta tc) ρs (fun s => ma s >>= fun x => asB x.1 >>= fun b => if b = true then mb x.2 else .val (.bl false, x.2)) := fun s O bs σ H Q R hb q => by
  refine ha s O bs σ H _ R hb (wp_mono (wp_bind.mp q) (fun x qx v1 H1 g1 R1 e1 i1 => ?_) fun _ z => z)
  obtain ⟨b, eb, qb⟩ := wp_asB (wp_bind.mp qx)
  obtain ⟨x1, s1⟩ := x
  have eb' : x1 = .bl b := eb
  subst eb'
  cases i1
  refine ⟨b, rfl, ?_⟩
  cases b with
  | true => exact hb' s1 O bs σ H1 _ R1 hb (wp_mono qb (fun c qc v H2 g2 R2 e2 i => qc v H2 (g1.trans (by rw [e1] at g2; exact g2)) R2 (e2.trans e1) (by rw [e1] at i; exact i)) fun _ z => z)
  | false => exact qb _ H1 g1 R1 e1 (.bl false)
theorem ef_orV (ha : Eff K cl ta ρs ma) (hb' : Eff K cl tc ρs mb) : Eff K cl (tOrV ta tc) ρs (fun s => ma s >>= fun x => asB x.1 >>= fun b => if b = true then .val (.bl true, x.2) else mb x.2) := fun s O bs σ H Q R hb q => by
  refine ha s O bs σ H _ R hb (wp_mono (wp_bind.mp q) (fun x qx v1 H1 g1 R1 e1 i1 => ?_) fun _ z => z)
  obtain ⟨b, eb, qb⟩ := wp_asB (wp_bind.mp qx)
  obtain ⟨x1, s1⟩ := x
  have eb' : x1 = .bl b := eb
  subst eb'
  cases i1
  refine ⟨b, rfl, ?_⟩
  cases b with
  | false => exact hb' s1 O bs σ H1 _ R1 hb (wp_mono qb (fun c qc v H2 g2 R2 e2 i => qc v H2 (g1.trans (by rw [e1] at g2; exact g2)) R2 (e2.trans e1) (by rw [e1] at i; exact i)) fun _ z => z)
  | true => exact qb _ H1 g1 R1 e1 (.bl true)
end
/-! ### list.index -/
section
variable {K : PySem.W.Frag} {cl : Str → Option Addr} {W : WX} {ρ : Ro} {ta te : TE} {ma m : Res PV}
def idxQ (ps : List PV) (k : PV) : Res PV := match flatP k, flatsP ps with
  | some y, some ys => match ys.findIdx? (fun z => eqV z y) with
    | some j => .val (.int (j : Nat))
    | none => .stuck
  | _, _ => .stuck
theorem mt_indexV (K : PySem.W.Frag) {X : Cx} (e : X.K = K) : MtR X "list.index" (rIndex K) := by subst e; exact mt_index
theorem pu_index (ha : Vw K cl W ta ρ ma) (hk : Pur K cl W te ρ m) : Pur K cl W (tBM K "list" (rIndex K) ta (tCons te tNil)) ρ (ma >>= asLi >>= fun ps => m >>= fun k => idxQ ps k) := fun O bs σ H Q R q => by
  rw [wp_bind, wp_bind] at q
  refine ha O bs σ H _ R (wp_mono q (fun x qx v1 H1 s1 i1 => ?_) fun _ z => z)
  obtain ⟨a, vs, ps, rfl, hs, hl, w⟩ := wp_asLi qx i1
  refine ⟨.inl ⟨rfl, vs, hs⟩, ?_⟩
  refine hk O bs σ H1 _ (R.same s1) (wp_mono (wp_bind.mp w) (fun k qk v2 H2 s2 i2 => ?_) fun _ z => z.mono s1)
  unfold idxQ at qk
  split at qk
  · next y ys ey eys =>
    split at qk
    · next j ej =>
      obtain ⟨rfl, fy⟩ := flatP_is i2 ey
      obtain ⟨rfl, fys⟩ := flatsP_is hl eys
      obtain ⟨h1, h2, h3⟩ := List.findIdx?_eq_some_iff_getElem.mp ej
      exact ⟨a, vs, v2, j, _, rfl, rfl, s2.sqL hs, fy, fys, List.getElem?_eq_getElem h1, h2, fun n z hn hz => by
        have hn' : n < vs.length := Nat.lt_trans hn h1
        rw [List.getElem?_eq_getElem hn'] at hz
        cases hz
        exact Bool.eq_false_iff.mpr (h3 n hn), qk _ H2 (s1.trans s2) (.int _)⟩
    · exact qk.elim
  · exact qk.elim
end
/-! ### max of three -/
def mx3 (i j k : Int) : Int := if j > i then (if k > j then k else j) else (if k > i then k else i)
def rMax3 : List V → Hp → VK → Prop := fun xs H Q => ∃ i j k, xs = [.int i, .int j, .int k] ∧ Q (.int (mx3 i j k)) H
open PySem.Spec PyProof.Rows in
theorem call_max3 {X : Cx} (hc : X.calm = true) : CallR X (.builtin "max") rMax3 := by
  intro pins s σ H xs us Q I r h
  obtain ⟨i, j, k, rfl, q⟩ := h
  cases r with
  | cons r1 r2 =>
    obtain ⟨u2, w2, rfl, ⟨t2, rfl⟩, ⟨t3, rfl⟩⟩ := vals2 r2
    obtain ⟨t1, rfl⟩ := r1
    refine max_three_ints (I.ok.hd hc) fun h' tk kp => ⟨_, H, I.kept kp, ?_, q⟩
    unfold mx3
    by_cases c1 : j > i
    · rw [if_pos c1, if_pos c1]
      by_cases c2 : k > j
      · rw [if_pos c2, if_pos c2]; exact ⟨_, rfl⟩
      · rw [if_neg c2, if_neg c2]; exact ⟨_, rfl⟩
    · rw [if_neg c1, if_neg c1]
      by_cases c2 : k > i
      · rw [if_pos c2, if_pos c2]; exact ⟨_, rfl⟩
      · rw [if_neg c2, if_neg c2]; exact ⟨_, rfl⟩
def max3P : PV → PV → PV → Res PV
  | .int i, .int j, .int k => .val (.int (mx3 i j k))
  | _, _, _ => .stuck
section
variable {K : PySem.W.Frag} {cl : Str → Option Addr} {W : WX} {ρ : Ro} {ta tb tc : TE} {ma mb mc : Res PV}
theorem pu_max3 (ha : Vw K cl W ta ρ ma) (hb : Vw K cl W tb ρ mb) (hc : Vw K cl W tc ρ mc) : Pur K cl W (tCB rMax3 (tCons ta (tCons tb (tCons tc tNil)))) ρ (ma >>= fun x => mb >>= fun y => mc >>= fun z => max3P x y z) := fun O bs σ H Q R q => by
  refine ha O bs σ H _ R (wp_mono (wp_bind.mp q) (fun x qx v1 H1 s1 i1 => ?_) fun _ z => z)
  refine hb O bs σ H1 _ (R.same s1) (wp_mono (wp_bind.mp qx) (fun y qy v2 H2 s2 i2 => ?_) fun _ z => z.mono s1)
  refine hc O bs σ H2 _ ((R.same s1).same s2) (wp_mono (wp_bind.mp qy) (fun z qz v3 H3 s3 i3 => ?_) fun _ z => z.mono (s1.trans s2))
  unfold max3P at qz
  split at qz
  · cases isV_int i1
    cases isV_int i2
    cases isV_int i3
    exact ⟨_, _, _, rfl, qz _ H3 (s1.trans (s2.trans s3)) (.int _)⟩
  · exact qz.elim
end
/-! ### tuple(reversed(list)) -/
section
variable {K : PySem.W.Frag} {cl : Str → Option Addr} {W : WX} {ρ : Ro} {ta : TE} {m : Res PV}
theorem isL_snoc {F : Hp} {v : V} {p : PV} (h : Is K cl F v p) : ∀ {vs : List V} {ps : List PV}, IsL K cl F vs ps → IsL K cl F (vs ++ [v]) (ps ++ [p])
  | _, _, .nil => .cons h .nil
  | _, _, .cons a r => .cons a (isL_snoc h r)
theorem isL_rev {F : Hp} : ∀ {vs : List V} {ps : List PV}, IsL K cl F vs ps → IsL K cl F vs.reverse ps.reverse
  | _, _, .nil => .nil
  | _, _, .cons a r => by
    rw [List.reverse_cons, List.reverse_cons]
    exact isL_snoc a (isL_rev r)
theorem pe_tupRevK (K : PySem.W.Frag) {X : Cx} (eK : X.K = K) {e : Expr} {te : TE} {p p2 pos pos2 : Pos} (hc : X.calm = true) (hg : Gl X "tuple") (hm : X.mg "tuple" = none) (hg2 : Gl X "reversed") (hm2 : X.mg "reversed" = none) (he : PE X e te)
    (hs : starEach [e] X.env = (false, eval e X.env) :: starEach [] X.env := by rfl)
    (hs2 : starEach [.Call (.Name "reversed" p2) [e] [] pos2] X.env = (false, eval (.Call (.Name "reversed" p2) [e] [] pos2) X.env) :: starEach [] X.env := by rfl) :
    PE X (.Call (.Name "tuple" p) [.Call (.Name "reversed" p2) [e] [] pos2] [] pos) (RT.tTupRev K te) := by
  subst eK
  exact RT.pe_tupRev hc hg hm hg2 hm2 he hs hs2
theorem pu_tupRev (ha : Pur K cl W ta ρ m) : Pur K cl W (RT.tTupRev K ta) ρ (m >>= asLi >>= fun ps => .val (.tup ps.reverse)) := fun O bs σ H Q R q => by
  rw [wp_bind, wp_bind] at q
  refine ha O bs σ H _ R (wp_mono q (fun x qx v1 H1 s1 i1 => ?_) fun _ z => z)
  have hA : ∀ a, a ∈ O ++ adr ρ σ → ∃ o, H1 a = some o := fun a h => (R.same s1).got h
  cases x with
  | lst ps =>
    cases i1 with
    | lst h l => exact ⟨_, _, rfl, .inl (.inl (frz_sub _ _ h)), fun p hp => qx _ _ (s1.trans (sub_new hp _)) (new_tup hA hp (isL_rev l))⟩
  | fls ps =>
    cases i1 with
    | fls h l => exact ⟨_, _, rfl, frz_sub.sqL h, fun p hp => qx _ _ (s1.trans (sub_new hp _)) (new_tup hA hp (isL_rev l))⟩
  | _ => exact qx.elim
end
/-! ### defs that are lent several things; new things with effects; dicts written out -/
section
variable (K : PySem.W.Frag) (cl : Str → Option Addr)
/-- arguments: at `true` a thing that is lent -/
inductive ArgG (F : Hp) : List Bool → List V → List Addr → List PV → Prop
  | nil : ArgG F [] [] [] []
  | pv {sg : List Bool} {vs : List V} {cs : List Addr} {ps : List PV} {v : V} {p : PV} : Is K cl F v p → ArgG F sg vs cs ps → ArgG F (false :: sg) (v :: vs) cs (p :: ps)
  | bx {sg : List Bool} {vs : List V} {cs : List Addr} {ps : List PV} {a : Addr} : ArgG F sg vs cs ps → ArgG F (true :: sg) (.ref a :: vs) (a :: cs) ps
inductive MosIs (F H : Hp) : List Addr → List MO → Prop
  | nil : MosIs F H [] []
  | cons {a : Addr} {m : MO} {as : List Addr} {ms : List MO} : MoIs K cl F H a m → MosIs F H as ms → MosIs F H (a :: as) (m :: ms)
def spM (sg : List Bool) (mf : List MO → List PV → Res (PV × List MO)) : Sp := fun vs H Q _ => ∃ O cs mos ps, ArgG K cl (frz H O) sg vs cs ps ∧ cs.Nodup ∧ (∀ c, c ∈ cs → c ∈ O) ∧ (∀ a, a ∈ O → ∃ o, H a = some o) ∧ MosIs K cl (frz H O) H cs mos ∧
  wp (mf mos ps) (fun r => ∀ v H', (∀ x o, x ∉ cs → H x = some o → H' x = some o) → MosIs K cl (frz H' O) H' cs r.2 → Is K cl (frz H' O) v r.1 → Q v H') (fun _ => False)
/-- the same, and it gives a new thing -/
def spMN (sg : List Bool) (mf : List MO → List PV → Res (MO × List MO)) : Sp := fun vs H Q _ => ∃ O cs mos ps, ArgG K cl (frz H O) sg vs cs ps ∧ cs.Nodup ∧ (∀ c, c ∈ cs → c ∈ O) ∧ (∀ a, a ∈ O → ∃ o, H a = some o) ∧ MosIs K cl (frz H O) H cs mos ∧
  wp (mf mos ps) (fun r => ∀ p H', (∀ x o, x ∉ cs → H x = some o → H' x = some o) → H p = none → MosIs K cl (frz H' (p :: O)) H' cs r.2 → MoIs K cl (frz H' (p :: O)) H' p r.1 → Q (.ref p) H') (fun _ => False)
end
def nT : List Bool → Nat
  | [] => 0
  | true :: s => nT s + 1
  | false :: s => nT s
def nF : List Bool → Nat
  | [] => 0
  | true :: s => nF s
  | false :: s => nF s + 1
inductive AtL (σ : St) : List Nat → List Addr → Prop
  | nil : AtL σ [] []
  | cons {i : Nat} {a : Addr} {is : List Nat} {as : List Addr} : σ[i]? = some (some (.ref a)) → AtL σ is as → AtL σ (i :: is) (a :: as)
inductive BoxL (ρ : Ro) : List Nat → List MO → Prop
  | nil : BoxL ρ [] []
  | cons {i : Nat} {s : Slot} {m : MO} {is : List Nat} {ms : List MO} : ρ[i]? = some s → (s = .ow m ∨ ∃ k, s = .rf k m) → BoxL ρ is ms → BoxL ρ (i :: is) (m :: ms)
def set1 (ρ : Ro) (i : Nat) (m : MO) : Ro := match ρ[i]? with
  | some s => ρ.set i (reSl s m)
  | none => ρ
def setsRo (ρ : Ro) : List Nat → List MO → Ro
  | i :: is, m :: ms => setsRo (set1 ρ i m) is ms
  | _, _ => ρ
section
variable {K : PySem.W.Frag} {cl : Str → Option Addr} {W : WX} {bs O A A1 B : List Addr} {F F' H H' H1 H2 : Hp} {ρ ρ' ρx ρh : Ro} {σ : St}
theorem ArgG.mono (s : Sub F F') : ∀ {sg : List Bool} {vs : List V} {cs : List Addr} {ps : List PV}, ArgG K cl F sg vs cs ps → ArgG K cl F' sg vs cs ps
  | _, _, _, _, .nil => .nil
  | _, _, _, _, .pv a r => .pv (a.mono s) (r.mono s)
  | _, _, _, _, .bx r => .bx (r.mono s)
theorem ArgG.len : ∀ {sg : List Bool} {vs : List V} {cs : List Addr} {ps : List PV}, ArgG K cl F sg vs cs ps → vs.length = sg.length
  | _, _, _, _, .nil => rfl
  | _, _, _, _, .pv _ r => congrArg (· + 1) r.len
  | _, _, _, _, .bx r => congrArg (· + 1) r.len
theorem ArgG.lens : ∀ {sg : List Bool} {vs : List V} {cs : List Addr} {ps : List PV}, ArgG K cl F sg vs cs ps → cs.length = nT sg ∧ ps.length = nF sg
  | _, _, _, _, .nil => ⟨rfl, rfl⟩
  | _, _, _, _, .pv _ r => ⟨r.lens.1, congrArg (· + 1) r.lens.2⟩
  | _, _, _, _, .bx r => ⟨congrArg (· + 1) r.lens.1, r.lens.2⟩
theorem MosIs.len : ∀ {cs : List Addr} {ms : List MO}, MosIs K cl F H cs ms → cs.length = ms.length
  | _, _, .nil => rfl
  | _, _, .cons _ r => congrArg (· + 1) r.len
theorem MosIs.mono (s : Sub F F') : ∀ {cs : List Addr} {ms : List MO}, MosIs K cl F H cs ms → (∀ c, c ∈ cs → ∀ o, H c = some o → H' c = some o) → MosIs K cl F' H' cs ms
  | _, _, .nil, _ => .nil
  | _, _, .cons a r, e => .cons (a.mono s fun o => e _ List.mem_cons_self o) (r.mono s fun c h => e c (List.mem_cons_of_mem _ h))
theorem MosIs.of : ∀ {cs : List Addr} {ms : List MO}, cs.length = ms.length → (∀ (k : Nat) (b : Addr) (m : MO), cs[k]? = some b → ms[k]? = some m → MoIs K cl F H b m) → MosIs K cl F H cs ms
  | [], [], _, _ => .nil
  | _ :: _, [], e, _ => by cases e
  | [], _ :: _, e, _ => by cases e
  | c :: cs, m :: ms, e, h => .cons (h 0 c m rfl rfl) (MosIs.of (Nat.succ.inj e) fun k b x h1 h2 => h (k + 1) b x (by simpa using h1) (by simpa using h2))
theorem AtL.mem : ∀ {is : List Nat} {cs : List Addr} {c : Addr}, AtL σ is cs → c ∈ cs → ∃ i, i ∈ is ∧ σ[i]? = some (some (.ref c))
  | _, _, _, .nil, h => nomatch h
  | _, _, c, .cons a r, h => by
    rcases List.mem_cons.mp h with e | e
    · subst e; exact ⟨_, List.mem_cons_self, a⟩
    · obtain ⟨i, h1, h2⟩ := r.mem e
      exact ⟨i, List.mem_cons_of_mem _ h1, h2⟩
theorem BoxL.at_ : ∀ {is : List Nat} {ms : List MO} {i : Nat}, BoxL ρ is ms → i ∈ is → ∃ s, ρ[i]? = some s ∧ ((∃ mo, s = .ow mo) ∨ ∃ k mo, s = .rf k mo)
  | _, _, _, .nil, h => nomatch h
  | _, _, i, .cons a z r, h => by
    rcases List.mem_cons.mp h with e | e
    · subst e; exact ⟨_, a, z.imp (fun e => ⟨_, e⟩) fun ⟨k, e⟩ => ⟨k, _, e⟩⟩
    · exact r.at_ e
theorem BoxL.set1 {i : Nat} {m : MO} : ∀ {is : List Nat} {ms : List MO}, i ∉ is → BoxL ρ is ms → BoxL (set1 ρ i m) is ms
  | _, _, _, .nil => .nil
  | j :: is, _, n, .cons a z r => by
    have ne : i ≠ j := fun e => n (by rw [e]; exact List.mem_cons_self)
    refine .cons ?_ z (r.set1 fun h => n (List.mem_cons_of_mem _ h))
    unfold Toy.set1
    split
    · rw [List.getElem?_set_ne ne]; exact a
    · exact a
theorem adr_set1 {i : Nat} {m : MO} : adr (set1 ρ i m) σ = adr ρ σ ∧ owa (set1 ρ i m) σ = owa ρ σ := by
  unfold set1
  split
  · next s h => exact adr_re h
  · exact ⟨rfl, rfl⟩
theorem AtL.addrs {ms : List MO} : ∀ {is : List Nat} {cs : List Addr}, (∀ i, i ∈ is → ∃ s, ρ[i]? = some s ∧ ((∃ mo, s = .ow mo) ∨ ∃ k mo, s = .rf k mo)) → AtL σ is cs → ∀ c, c ∈ cs → c ∈ adr ρ σ
  | is, cs, hb, h, c, hc => by
    obtain ⟨i, h1, h2⟩ := h.mem hc
    obtain ⟨s, h3, z⟩ := hb i h1
    exact adr_at h3 h2 z
theorem AtL.nodup : ∀ {is : List Nat} {cs : List Addr}, (adr ρ σ).Nodup → (∀ i, i ∈ is → ∃ s, ρ[i]? = some s ∧ ((∃ mo, s = .ow mo) ∨ ∃ k mo, s = .rf k mo)) → is.Nodup → AtL σ is cs → cs.Nodup
  | _, _, _, _, _, .nil => List.nodup_nil
  | i :: is, a :: cs, nd, hb, n, .cons e r => by
    obtain ⟨n1, n2⟩ := List.nodup_cons.mp n
    refine List.nodup_cons.mpr ⟨fun h => ?_, r.nodup nd (fun j hj => hb j (List.mem_cons_of_mem _ hj)) n2⟩
    obtain ⟨j, h1, h2⟩ := r.mem h
    obtain ⟨s, h3, z3⟩ := hb i List.mem_cons_self
    obtain ⟨t, h4, z4⟩ := hb j (List.mem_cons_of_mem _ h1)
    have := nodup_at nd h3 h4 e h2 z3 z4
    subst this
    exact n1 h1
/-- several objects at slots get other contents -/
theorem Rel.puts : ∀ {is : List Nat} {cs : List Addr} {mos ms' : List MO} {ρ : Ro} {H : Hp}, Rel K cl O bs ρ σ H → BoxL ρ is mos → is.Nodup → AtL σ is cs → (∀ x o, x ∉ cs → H x = some o → H2 x = some o) → MosIs K cl (frz H2 (O ++ adr ρ σ)) H2 cs ms' →
    Rel K cl O bs (setsRo ρ is ms') σ H2 ∧ adr (setsRo ρ is ms') σ = adr ρ σ
  | _, _, _, _, ρ, H, R, .nil, _, .nil, hk, .nil => ⟨R.same fun x o e => hk x o (fun z => nomatch z) e, rfl⟩
  | i :: is, a :: cs, m :: mos, m' :: ms', ρ, H, R, .cons hi z hb, nd, .cons ha hat, hk, .cons hm hms => by
    obtain ⟨n1, n2⟩ := List.nodup_cons.mp nd
    have hz : (∃ mo, _ = Slot.ow mo) ∨ (∃ k mo, _ = Slot.rf k mo) := z.imp (fun e => ⟨_, e⟩) fun ⟨k, e⟩ => ⟨k, _, e⟩
    have sub : ∀ c, c ∈ cs → c ∈ adr ρ σ := fun c hc => by
      obtain ⟨j, h1, h2⟩ := hat.mem hc
      obtain ⟨s, h3, z3⟩ := hb.at_ h1
      exact adr_at h3 h2 z3
    have na : a ∉ cs := fun hc => by
      obtain ⟨j, h1, h2⟩ := hat.mem hc
      obtain ⟨s, h3, z3⟩ := hb.at_ h1
      have := nodup_at R.nd hi h3 ha h2 hz z3
      subst this
      exact n1 h1
    let H1 : Hp := fun x => if x ∈ cs then H x else H2 x
    have e1 : ∀ x, x ∈ cs → H1 x = H x := fun x h => if_pos h
    have e2 : ∀ x, x ∉ cs → H1 x = H2 x := fun x h => if_neg h
    have hk1 : ∀ x o, x ≠ a → H x = some o → H1 x = some o := fun x o n e => by
      by_cases h : x ∈ cs
      · rw [e1 x h]; exact e
      · rw [e2 x h]; exact hk x o (fun q => by rcases List.mem_cons.mp q with q | q; exact n q; exact h q) e
    have s21 : Sub (frz H2 (O ++ adr ρ σ)) (frz H1 (O ++ adr ρ σ)) := fun x o e => by
      obtain ⟨n, e⟩ := frz_some.mp e
      refine frz_some.mpr ⟨n, ?_⟩
      rw [e2 x fun h => n (List.mem_append_right _ (sub x h))]
      exact e
    have hm1 : MoIs K cl (frz H1 (O ++ adr ρ σ)) H1 a m' := hm.mono s21 fun o e => by rw [e2 a na]; exact e
    obtain ⟨R1, _⟩ := R.putH (m' := m') hk1 hm1.got hi z ha hm1
    have es : ∀ s, ρ[i]? = some s → Toy.set1 ρ i m' = ρ.set i (reSl s m') := fun s h => by unfold Toy.set1; rw [h]
    rw [← es _ hi] at R1
    have ea : adr (Toy.set1 ρ i m') σ = adr ρ σ := (adr_set1).1
    obtain ⟨R2, e3⟩ := Rel.puts R1 (hb.set1 n1) n2 hat (fun x o n e => by rw [e2 x n] at e; exact e) (by rw [ea]; exact hms)
    exact ⟨R2, e3.trans ea⟩
theorem Rel.add {p : Addr} (R : Rel K cl O bs ρ σ H) (hp : H p = none) (o : HO) : Rel K cl (p :: O) bs ρ σ (upd H p o) := by
  refine ⟨R.sl.mono (fun x u e => ?_) fun x u _ e => sub_new hp o x u e, R.nd, fun x hx => ?_, fun x hx z => ?_⟩
  · obtain ⟨n, e⟩ := frz_some.mp e
    refine frz_some.mpr ⟨fun z => ?_, sub_new hp o x u e⟩
    rcases List.mem_cons.mp z with c | c
    · rw [c, hp] at e; cases e
    · exact n c
  · rcases List.mem_cons.mp hx with c | c
    · subst c; exact ⟨o, upd_same⟩
    · obtain ⟨u, e⟩ := R.al x c; exact ⟨u, sub_new hp o x u e⟩
  · rcases List.mem_cons.mp z with c | c
    · subst c
      obtain ⟨u, e⟩ := R.got (List.mem_append_right _ (owa_sub hx))
      rw [hp] at e; cases e
    · exact R.ow x hx c
/-- what stands apart becomes owned -/
theorem Rel.setowP {i : Nat} {mo : MO} {p : Addr} (R : Rel K cl (p :: O) bs ρ σ H) (hn : nad ρ i = true) (np : p ∉ O ++ adr ρ σ) (h : MoIs K cl (frz H (p :: (O ++ adr ρ σ))) H p mo) : Rel K cl O bs (ρ.set i (.ow mo)) (σ.set i (some (.ref p))) H := by
  obtain ⟨e1, e2⟩ := adr_seto (ρ := ρ) (σ := σ) (i := i) (m := mo) (p := p) R.sl.len hn
  have s2 : Sub (frz H (p :: (O ++ adr ρ σ))) (frz H (O ++ adr (ρ.set i (.ow mo)) (σ.set i (some (.ref p))))) := frz_less fun a ha => by
    rcases List.mem_append.mp ha with c | c
    · exact List.mem_cons_of_mem _ (List.mem_append_left _ c)
    · rcases List.mem_cons.mp (e1.mem_iff.mp c) with c | c
      · rw [c]; exact List.mem_cons_self
      · exact List.mem_cons_of_mem _ (List.mem_append_right _ c)
  refine ⟨(R.sl.mono s2 fun _ _ _ e => e).set ⟨p, rfl, h.mono s2 fun _ e => e⟩, e1.nodup_iff.mpr (List.nodup_cons.mpr ⟨fun z => np (List.mem_append_right _ z), R.nd⟩), fun a ha => R.al a (List.mem_cons_of_mem _ ha), fun a ha z => ?_⟩
  rcases List.mem_cons.mp (e2.mem_iff.mp ha) with c | c
  · subst c; exact np (List.mem_append_left _ z)
  · exact R.ow a c (List.mem_cons_of_mem _ z)
end
/-! ### calls of such defs -/
section
variable (K : PySem.W.Frag) (cl : Str → Option Addr)
def EffA {S : Type} (t : TA) (sg : List Bool) (is : List Nat) (ρs : S → Ro) (m : S → Res (List PV × S)) : Prop := ∀ (s : S) (O bs : List Addr) (σ : St) (H : Hp) (Q : List V → Hp → Prop), Rel K cl O bs (ρs s) σ H → (∀ b, b ∈ bs → b ∈ O) →
  wp (m s) (fun r => ∀ vs cs H', Gr (adr (ρs s) σ) H (adr (ρs s) σ) H' → Rel K cl O bs (ρs r.2) σ H' → adr (ρs r.2) σ = adr (ρs s) σ → ArgG K cl (frz H' (O ++ adr (ρs s) σ)) sg vs cs r.1 → AtL σ is cs → Q vs H') (fun _ => False) → t σ H Q
/-- a new thing, made with effects: it stands apart -/
def EffN {S : Type} (t : TE) (ρs : S → Ro) (m : S → Res (MO × S)) : Prop := ∀ (s : S) (O bs : List Addr) (σ : St) (H : Hp) (Q : VK), Rel K cl O bs (ρs s) σ H → (∀ b, b ∈ bs → b ∈ O) →
  wp (m s) (fun r => ∀ p H', Gr (adr (ρs s) σ) H (adr (ρs s) σ) H' → p ∉ O ++ adr (ρs s) σ → H p = none → Rel K cl (p :: O) bs (ρs r.2) σ H' → adr (ρs r.2) σ = adr (ρs s) σ → MoIs K cl (frz H' (p :: (O ++ adr (ρs s) σ))) H' p r.1 → Q (.ref p) H') (fun _ => False) → t σ H Q
end
section
variable {K : PySem.W.Frag} {cl : Str → Option Addr} {W : WX} {bs O A A1 B : List Addr} {F H H' H1 : Hp} {ρ ρ' ρx ρh : Ro} {σ : St} {S S1 S2 L : Type} {ρs : S → Ro} {ρn : S1 → Ro} {ρj : S2 → Ro} {ρl : L → Ro} {D : Ends} {t u v tb : TS} {te ta tc td : TE} {m : S → Res PV} {ma mb mc md : S → Res (PV × S)} {tr : TA} {ml mk : S → Res (List PV × S)} {sg : List Bool} {is : List Nat}
theorem ea_nil : EffA K cl tNil [] [] ρs (fun s => .val ([], s)) := fun s O bs σ H Q R hb q => q [] [] H .refl R rfl .nil .nil
theorem ea_cons (ha : Eff K cl ta ρs ma) (hl : EffA K cl tr sg is ρs ml) : EffA K cl (tCons ta tr) (false :: sg) is ρs (fun s => ma s >>= fun x => ml x.2 >>= fun xs => .val (x.1 :: xs.1, xs.2)) := fun s O bs σ H Q R hb q => by
  refine ha s O bs σ H _ R hb (wp_mono (wp_bind.mp q) (fun x qx v1 H1 g1 R1 e1 i1 => ?_) fun _ z => z)
  refine hl x.2 O bs σ H1 _ R1 hb (wp_mono (wp_bind.mp qx) (fun xs qs vs cs H2 g2 R2 e2 i2 a2 => ?_) fun _ z => z)
  rw [e1] at g2 i2
  exact qs _ cs H2 (g1.trans g2) R2 (e2.trans e1) (.pv (i1.mono (g2.sub R1.al)) i2) a2
theorem ea_box {i : Nat} {sl : S → Slot} (hi : ∀ s, (ρs s)[i]? = some (sl s)) (hs : ∀ s, (∃ mo, sl s = .ow mo) ∨ ∃ k mo, sl s = .rf k mo) (hl : EffA K cl tr sg is ρs ml) : EffA K cl (tCons (tVar i) tr) (true :: sg) (i :: is) ρs ml := fun s O bs σ H Q R hb q => by
  have ha : ∃ a, σ[i]? = some (some (.ref a)) := by
    obtain ⟨x, e, q⟩ := R.sl.get (hi s)
    rcases hs s with ⟨mo, h⟩ | ⟨k, mo, h⟩
    · rw [h] at q; obtain ⟨a, rfl, _⟩ := q; exact ⟨a, e⟩
    · rw [h] at q; obtain ⟨a, rfl, _⟩ := q; exact ⟨a, e⟩
  obtain ⟨a, ha⟩ := ha
  exact ⟨_, ha, hl s O bs σ H _ R hb (wp_mono q (fun xs qs vs cs H2 g2 R2 e2 i2 a2 => qs (.ref a :: vs) (a :: cs) H2 g2 R2 e2 (.bx i2) (.cons ha a2)) fun _ z => z)⟩
theorem BoxL.all (h : BoxL ρ is ms) : ∀ i, i ∈ is → ∃ s, ρ[i]? = some s ∧ ((∃ mo, s = .ow mo) ∨ ∃ k mo, s = .rf k mo) := fun _ hi => h.at_ hi
theorem Rel.mos {cs : List Addr} {ms : List MO} (R : Rel K cl O bs ρ σ H) : BoxL ρ is ms → AtL σ is cs → MosIs K cl (frz H (O ++ adr ρ σ)) H cs ms := by
  intro hb
  induction hb generalizing cs with
  | nil => intro h; cases h; exact .nil
  | @cons i s m is ms hi z hb ih =>
    intro h
    cases h with
    | @cons _ a _ as e r =>
      refine .cons ?_ (ih r)
      obtain ⟨x, e2, q⟩ := R.sl.get hi
      rw [e] at e2
      cases e2
      rcases z with rfl | ⟨k, rfl⟩
      · obtain ⟨b, e, q⟩ := q; cases e; exact q
      · obtain ⟨b, e, _, q⟩ := q; cases e; exact q
theorem ef_callM {mf : List MO → List PV → Res (PV × List MO)} {get : S → List MO} {put : S → List MO → Res S} (nd : is.Nodup) (hi : ∀ s, BoxL (ρs s) is (get s)) (hp : ∀ s mos s', put s mos = .val s' → setsRo (ρs s) is mos = ρs s') (hl : EffA K cl tr sg is ρs ml) :
    Eff K cl (tCallS (spM K cl sg mf) (WE W) tr) ρs (fun s => ml s >>= fun xs => mf (get xs.2) xs.1 >>= fun r => put xs.2 r.2 >>= fun s' => .val (r.1, s')) := fun s O bs σ H Q R hb q => by
  refine hl s O bs σ H _ R hb (wp_mono (wp_bind.mp q) (fun ps qs vs cs H1 g1 R1 e1 i1 a1 => ?_) fun _ z => z)
  have sub := AtL.addrs (ms := get ps.2) (hi ps.2).all a1
  have hA : ∀ a, a ∈ O ++ adr (ρs s) σ → ∃ o, H1 a = some o := fun a h => R1.got (by rw [e1]; exact h)
  have hm := R1.mos (hi ps.2) a1
  rw [e1] at hm sub
  refine ⟨O ++ adr (ρs s) σ, cs, get ps.2, ps.1, i1, a1.nodup R1.nd (hi ps.2).all nd, fun c h => List.mem_append_right _ (sub c h), hA, hm, wp_mono (wp_bind.mp qs) (fun r qr v H' hk hmo iv => ?_) fun _ z => z⟩
  obtain ⟨R2, e2⟩ := R1.puts (hi ps.2) nd a1 hk (by rw [e1]; exact hmo)
  have g2 : Gr (adr (ρs s) σ) H1 (adr (ρs s) σ) H' := ⟨fun x o n e => hk x o (fun z => n (sub x z)) e, fun _ h => .inl h⟩
  cases hpu : put ps.2 r.2 with
  | val s' =>
    rw [hp _ _ _ hpu] at R2 e2
    have qr := wp_bind.mp qr
    rw [hpu] at qr
    have qr' : ∀ v H', Gr (adr (ρs s) σ) H (adr (ρs s) σ) H' → Rel K cl O bs (ρs s') σ H' → adr (ρs s') σ = adr (ρs s) σ → Is K cl (frz H' (O ++ adr (ρs s) σ)) v r.1 → Q v H' := qr
    exact qr' v H' (g1.trans g2) R2 (e2.trans e1) iv
  | exc c =>
    have qr := wp_bind.mp qr
    rw [hpu] at qr
    exact qr.elim
  | stuck =>
    have qr := wp_bind.mp qr
    rw [hpu] at qr
    exact qr.elim
theorem ef_callMN {mf : List MO → List PV → Res (MO × List MO)} {get : S → List MO} {put : S → List MO → Res S} (nd : is.Nodup) (hi : ∀ s, BoxL (ρs s) is (get s)) (hp : ∀ s mos s', put s mos = .val s' → setsRo (ρs s) is mos = ρs s') (hl : EffA K cl tr sg is ρs ml) :
    EffN K cl (tCallS (spMN K cl sg mf) (WE W) tr) ρs (fun s => ml s >>= fun xs => mf (get xs.2) xs.1 >>= fun r => put xs.2 r.2 >>= fun s' => .val (r.1, s')) := fun s O bs σ H Q R hb q => by
  refine hl s O bs σ H _ R hb (wp_mono (wp_bind.mp q) (fun ps qs vs cs H1 g1 R1 e1 i1 a1 => ?_) fun _ z => z)
  have sub := AtL.addrs (ms := get ps.2) (hi ps.2).all a1
  have hA : ∀ a, a ∈ O ++ adr (ρs s) σ → ∃ o, H1 a = some o := fun a h => R1.got (by rw [e1]; exact h)
  have hm := R1.mos (hi ps.2) a1
  rw [e1] at hm sub
  refine ⟨O ++ adr (ρs s) σ, cs, get ps.2, ps.1, i1, a1.nodup R1.nd (hi ps.2).all nd, fun c h => List.mem_append_right _ (sub c h), hA, hm, wp_mono (wp_bind.mp qs) (fun r qr p H' hk hpn hmo iv => ?_) fun _ z => z⟩
  have np : p ∉ O ++ adr (ρs s) σ := fun h => by obtain ⟨o, e⟩ := hA p h; rw [hpn] at e; cases e
  obtain ⟨o, ho⟩ := iv.got
  have R1' := R1.add hpn o
  obtain ⟨R2, e2⟩ := R1'.puts (H2 := H') (hi ps.2) nd a1 (fun x u n e => by
    by_cases c : x = p
    · subst c; rw [upd_same] at e; cases e; exact ho
    · rw [upd_ne c] at e; exact hk x u n e) (by rw [e1]; exact hmo)
  have g2 : Gr (adr (ρs s) σ) H1 (adr (ρs s) σ) H' := ⟨fun x o n e => hk x o (fun z => n (sub x z)) e, fun _ h => .inl h⟩
  have hpH : H p = none := by
    cases e : H p with
    | none => rfl
    | some u => rw [g1.1 p u (fun z => np (List.mem_append_right _ z)) e] at hpn; cases hpn
  cases hpu : put ps.2 r.2 with
  | val s' =>
    rw [hp _ _ _ hpu] at R2 e2
    have qr := wp_bind.mp qr
    rw [hpu] at qr
    have qr' : ∀ p H', Gr (adr (ρs s) σ) H (adr (ρs s) σ) H' → p ∉ O ++ adr (ρs s) σ → H p = none → Rel K cl (p :: O) bs (ρs s') σ H' → adr (ρs s') σ = adr (ρs s) σ → MoIs K cl (frz H' (p :: (O ++ adr (ρs s) σ))) H' p r.1 → Q (.ref p) H' := qr
    exact qr' p H' (g1.trans g2) np hpH R2 (e2.trans e1) iv
  | exc c =>
    have qr := wp_bind.mp qr
    rw [hpu] at qr
    exact qr.elim
  | stuck =>
    have qr := wp_bind.mp qr
    rw [hpu] at qr
    exact qr.elim
theorem run_setoE {i : Nat} {s0 : S} {mn : S → Res (MO × S)} {n : MO → S → Res (Fl S1 L)} (he : EffN K cl te ρs mn) (e0 : ρs s0 = ρ) (hn : ∀ s, nad (ρs s) i = true) (h : ∀ x s, Runs K cl W u ((ρs s).set i (.ow x)) (n x s) ρn ρl ρx) :
    Runs K cl W (tSeq (tAsg te (gName i)) u) ρ (noX (mn s0) >>= fun r => n r.1 r.2) ρn ρl ρx := fun O bs σ H D R hb q => by
  subst e0
  refine he s0 O bs σ H _ R hb (wp_mono (wp_noX (E' := fun _ => False) (wp_bind.mp q)) (fun x qx p H' g1 np hpn R1 e1 hm => ?_) fun _ z => z)
  have np1 : p ∉ O ++ adr (ρs x.2) σ := by rw [e1]; exact np
  obtain ⟨ep, _⟩ := adr_seto (ρ := ρs x.2) (σ := σ) (i := i) (m := x.1) (p := p) R1.sl.len (hn _)
  have R2 := R1.setowP (hn _) np1 (by rw [e1]; exact hm)
  have g : Gr (adr (ρs s0) σ) H (adr ((ρs x.2).set i (.ow x.1)) (σ.set i (some (.ref p)))) H' := ⟨g1.1, fun y hy => by
    rcases List.mem_cons.mp (ep.mem_iff.mp hy) with c | c
    · rw [c]; exact .inr hpn
    · rw [e1] at c; exact .inl c⟩
  exact h x.1 x.2 O bs _ H' D R2 hb (wp_mono qx (fun _ z => z.step g) fun _ z => z.step g)
end
/-! ### such defs -/
def sgRo : List Bool → Nat → List MO → List PV → Ro
  | false :: sg, k, mos, q :: qs => .fz q :: sgRo sg k mos qs
  | true :: sg, k, m :: mos, qs => .rf k m :: sgRo sg (k + 1) mos qs
  | _, _, _, _ => []
def retM (n : Nat) (M : Res (Fl Unit Empty)) : Res (PV × List MO) := M >>= fun f => match f with
  | .rt v r => if r.length = n then .val (v, r) else .stuck
  | .ro _ _ => .stuck
  | .nx _ => .stuck
def retMN (n : Nat) (M : Res (Fl Unit Empty)) : Res (MO × List MO) := M >>= fun f => match f with
  | .ro mo r => if r.length = n then .val (mo, r) else .stuck
  | .rt _ _ => .stuck
  | .nx _ => .stuck
section
variable {P : Program} {w : World} {K : PySem.W.Frag} {mg : Str → Option Value} {base : Heap} {cl : Str → Option Addr}
theorem sg_adr : ∀ {sg : List Bool} {vs : List V} {cs : List Addr} {ps : List PV} {F : Hp} {mos : List MO} (k n : Nat), ArgG K cl F sg vs cs ps → cs.length = mos.length → adr (sgRo sg k mos ps ++ uns n) (vs.map some ++ List.replicate n none) = cs ∧ owa (sgRo sg k mos ps ++ uns n) (vs.map some ++ List.replicate n none) = []
  | _, _, _, _, _, [], k, n, .nil, _ => ⟨uns_adr n _, fz_owa [] n _⟩
  | _, _, _, _, _, mos, k, n, .pv _ r, e => by
    have h := sg_adr (mos := mos) k n r e
    exact h
  | _, _, _, _, _, m :: mos, k, n, .bx r, e => by
    obtain ⟨h1, h2⟩ := sg_adr (k + 1) n r (Nat.succ.inj e)
    exact ⟨congrArg (_ :: ·) h1, h2⟩
theorem uns_rel {bs : List Addr} {F H : Hp} : ∀ n : Nat, RelS K cl bs F H (uns n) (List.replicate n none)
  | 0 => .nil
  | n + 1 => .cons trivial (uns_rel n)
theorem sg_rel {bs : List Addr} {H : Hp} : ∀ {sg : List Bool} {vs : List V} {cs : List Addr} {ps : List PV} {F : Hp} {mos : List MO} (k n : Nat), ArgG K cl F sg vs cs ps → MosIs K cl F H cs mos → (∀ j, bs[k + j]? = cs[j]? ∨ cs[j]? = none) → RelS K cl bs F H (sgRo sg k mos ps ++ uns n) (vs.map some ++ List.replicate n none)
  | _, _, _, _, _, _, k, n, .nil, .nil, _ => uns_rel n
  | _, _, _, _, _, _, k, n, .pv a r, h, e => .cons ⟨_, rfl, a⟩ (sg_rel k n r h e)
  | _, _, _, _, _, _, k, n, .bx (a := a) r, .cons h hs, e => .cons ⟨_, rfl, (by
      rcases e 0 with e | e
      · exact e
      · exact nomatch e), h⟩ (sg_rel (k + 1) n r hs fun j => by
      have := e (j + 1)
      rw [show k + 1 + j = k + (j + 1) by omega]
      simpa using this)
open PySem.Spec PyProof.Rows in
theorem fnM {x qual : Str} {st : Stmt} {f : Addr} {fd : FuncData} {N ps : List Str} {k : Nat} {sg : List Bool} {mf : List MO → List PV → Res (PV × List MO)} (F : Fun K x qual st f fd) (S : FnScope N ps (defScope st)) (hn : ps.length = sg.length)
    (h : ∀ (cdv : Value) (A : Around) (outer : List Env) (s : Shared) (H : Hp) (E : XK), Room k (A.deeper (envOfC qual (defScope st) s.heap.objs.size f cdv)) → ∀ (mos : List MO) (qs : List PV), mos.length = nT sg → qs.length = nF sg → mf mos qs = .stuck ∨
      ∃ t, PSs (cxOf (L2.CX P w) P w K mg base N qual (defScope st) f cdv A outer s H E) (defBody st) t ∧ ∃ M, Runs K cl (fun c d _ H' => E c d H') t (sgRo sg 0 mos qs ++ uns (N.length - sg.length)) M (fun _ : Unit => uns N.length) (fun l : Empty => nomatch l) (uns N.length) ∧ mf mos qs = retM (nT sg) M) :
    FnOk P w K mg base (L2.CX P w) (k + 1) f fd ps (spM K cl sg mf) := by
  have len : ∀ vs H Q E, spM K cl sg mf vs H Q E → vs.length = sg.length := fun vs H Q E ⟨O, cs, mos, qs, ha, _⟩ => ha.len
  refine F.okX S (fun vs H Q E h => (len vs H Q E h).trans hn.symm) (fun cdv A outer s H vs Q E hr hsp => ?_)
  have hvn := len vs H Q E hsp
  obtain ⟨O, cs, mos, qs, ha, nd, hc, hO, hm, hw⟩ := hsp
  rcases h cdv A outer s H E hr mos qs (hm.len.symm.trans ha.lens.1) ha.lens.2 with e | ⟨t, ht, M, hM, e⟩
  · rw [e] at hw; exact hw.elim
  refine ⟨t, ht, ?_⟩
  rw [e] at hw
  have st0 : L2.start N vs = vs.map some ++ List.replicate (N.length - sg.length) none := by unfold L2.start; rw [hvn]
  rw [st0]
  obtain ⟨ea, eo⟩ := sg_adr (mos := mos) 0 (N.length - sg.length) ha hm.len
  have sO : Sub (frz H O) (frz H (O ++ cs)) := frz_less fun a ha => by
    rcases List.mem_append.mp ha with c | c
    · exact c
    · exact hc a c
  have R : Rel K cl O cs (sgRo sg 0 mos qs ++ uns (N.length - sg.length)) (vs.map some ++ List.replicate (N.length - sg.length) none) H := by
    refine ⟨?_, by rw [ea]; exact nd, hO, by rw [eo]; exact fun _ z => nomatch z⟩
    rw [ea]
    exact sg_rel 0 _ (ha.mono sO) (hm.mono sO fun _ _ _ e => e) fun j => by rw [Nat.zero_add]; exact .inl rfl
  refine hM O cs _ H _ R hc (wp_mono (wp_bind.mp hw) (fun fl q => ?_) fun c q => q.elim)
  rw [ea]
  cases fl with
  | nx u => exact q.elim
  | rt v r =>
    have q2 : wp (if r.length = nT sg then (.val (v, r) : Res (PV × List MO)) else .stuck) (fun r => ∀ v H', (∀ x o, x ∉ cs → H x = some o → H' x = some o) → MosIs K cl (frz H' O) H' cs r.2 → Is K cl (frz H' O) v r.1 → Q v H') (fun _ => False) := q
    split at q2
    · next el => exact fun w' H' g i hbm => q2 w' H' (fun x o n e => g.1 x o n e) (MosIs.of (ha.lens.1.trans el.symm) hbm) i
    · exact q2.elim
  | ro mo r => exact q.elim
  | bk l => exact nomatch l
  | ct l => exact nomatch l
open PySem.Spec PyProof.Rows in
theorem fnMN {x qual : Str} {st : Stmt} {f : Addr} {fd : FuncData} {N ps : List Str} {k : Nat} {sg : List Bool} {mf : List MO → List PV → Res (MO × List MO)} (F : Fun K x qual st f fd) (S : FnScope N ps (defScope st)) (hn : ps.length = sg.length)
    (h : ∀ (cdv : Value) (A : Around) (outer : List Env) (s : Shared) (H : Hp) (E : XK), Room k (A.deeper (envOfC qual (defScope st) s.heap.objs.size f cdv)) → ∀ (mos : List MO) (qs : List PV), mos.length = nT sg → qs.length = nF sg → mf mos qs = .stuck ∨
      ∃ t, PSs (cxOf (L2.CX P w) P w K mg base N qual (defScope st) f cdv A outer s H E) (defBody st) t ∧ ∃ M, Runs K cl (fun c d _ H' => E c d H') t (sgRo sg 0 mos qs ++ uns (N.length - sg.length)) M (fun _ : Unit => uns N.length) (fun l : Empty => nomatch l) (uns N.length) ∧ mf mos qs = retMN (nT sg) M) :
    FnOk P w K mg base (L2.CX P w) (k + 1) f fd ps (spMN K cl sg mf) := by
  have len : ∀ vs H Q E, spMN K cl sg mf vs H Q E → vs.length = sg.length := fun vs H Q E ⟨O, cs, mos, qs, ha, _⟩ => ha.len
  refine F.okX S (fun vs H Q E h => (len vs H Q E h).trans hn.symm) (fun cdv A outer s H vs Q E hr hsp => ?_)
  have hvn := len vs H Q E hsp
  obtain ⟨O, cs, mos, qs, ha, nd, hc, hO, hm, hw⟩ := hsp
  rcases h cdv A outer s H E hr mos qs (hm.len.symm.trans ha.lens.1) ha.lens.2 with e | ⟨t, ht, M, hM, e⟩
  · rw [e] at hw; exact hw.elim
  refine ⟨t, ht, ?_⟩
  rw [e] at hw
  have st0 : L2.start N vs = vs.map some ++ List.replicate (N.length - sg.length) none := by unfold L2.start; rw [hvn]
  rw [st0]
  obtain ⟨ea, eo⟩ := sg_adr (mos := mos) 0 (N.length - sg.length) ha hm.len
  have sO : Sub (frz H O) (frz H (O ++ cs)) := frz_less fun a ha => by
    rcases List.mem_append.mp ha with c | c
    · exact c
    · exact hc a c
  have R : Rel K cl O cs (sgRo sg 0 mos qs ++ uns (N.length - sg.length)) (vs.map some ++ List.replicate (N.length - sg.length) none) H := by
    refine ⟨?_, by rw [ea]; exact nd, hO, by rw [eo]; exact fun _ z => nomatch z⟩
    rw [ea]
    exact sg_rel 0 _ (ha.mono sO) (hm.mono sO fun _ _ _ e => e) fun j => by rw [Nat.zero_add]; exact .inl rfl
  refine hM O cs _ H _ R hc (wp_mono (wp_bind.mp hw) (fun fl q => ?_) fun c q => q.elim)
  rw [ea]
  cases fl with
  | nx u => exact q.elim
  | rt v r => exact q.elim
  | ro mo r =>
    have q2 : wp (if r.length = nT sg then (.val (mo, r) : Res (MO × List MO)) else .stuck) (fun r => ∀ p H', (∀ x o, x ∉ cs → H x = some o → H' x = some o) → H p = none → MosIs K cl (frz H' (p :: O)) H' cs r.2 → MoIs K cl (frz H' (p :: O)) H' p r.1 → Q (.ref p) H') (fun _ => False) := q
    split at q2
    · next el =>
      intro p H' g n hm' hbm
      refine q2 p H' (fun x o n e => g.1 x o n e) ?_ (MosIs.of (ha.lens.1.trans el.symm) hbm) hm'
      rcases g.2 p (by simp) with c | c
      · exact absurd (hc p c) n
      · exact c
    · exact q2.elim
  | bk l => exact nomatch l
  | ct l => exact nomatch l
end
/-! ### dicts written out; defs that look at what is owned; properties -/
section
variable (K : PySem.W.Frag) (cl : Str → Option Addr) (W : WX)
inductive VsV (F H : Hp) : List V → List PV → Prop
  | nil : VsV F H [] []
  | cons {v : V} {p : PV} {vs : List V} {ps : List PV} : IsV K cl F H v p → VsV F H vs ps → VsV F H (v :: vs) (p :: ps)
def VwL (t : TA) (ρ : Ro) (m : Res (List PV)) : Prop := ∀ (O bs : List Addr) (σ : St) (H : Hp) (Q : List V → Hp → Prop), Rel K cl O bs ρ σ H →
  wp m (fun r => ∀ vs H', Sub H H' → VsV K cl (frz H' (O ++ adr ρ σ)) H' vs r → Q vs H') (XW cl W σ H) → t σ H Q
def PurP (t : List (TE × TE)) (ρ : Ro) (m : Res (List (Key × PV))) : Prop := ∀ (O bs : List Addr) (σ : St) (H : Hp) (Q : List (V × V) → Hp → Prop), Rel K cl O bs ρ σ H →
  wp m (fun r => ∀ kvs H', Sub H H' → IsK K cl (frz H' (O ++ adr ρ σ)) kvs r → Q (kvs.map fun kv => (kV kv.1, kv.2)) H') (XW cl W σ H) → tPairs t σ H Q
end
def flS : PV → Res PV
  | .int i => .val (.int i)
  | .bl b => .val (.bl b)
  | .non => .val .non
  | .str x => .val (.str x)
  | _ => .stuck
def mergeP (kvs more : List (Key × PV)) : List (Key × PV) := more.foldl (fun acc kv => putP acc kv.1 kv.2) kvs
def upto15 (n : Nat) : Res Unit := if n ≤ 15 then .val () else .stuck
section
variable {K : PySem.W.Frag} {cl : Str → Option Addr} {W : WX} {bs O A A1 B : List Addr} {F F' G H H' H1 : Hp} {ρ ρ' ρx ρh : Ro} {σ : St} {S S1 L : Type} {ρn : S → Ro} {ρl : L → Ro} {D : Ends} {t u v tb tk tv : TS} {te ta tc td : TE} {m ma mb : Res PV} {tr : TA} {ml : Res (List PV)} {md : Res (List (Key × PV))}
theorem flS_move {v : V} {r : PV} {Q : PV → Prop} {E : Str → Prop} (q : wp (flS r) Q E) (h : Is K cl F v r) : Q r ∧ Is K cl G v r := by
  cases r with
  | int i => cases h; exact ⟨q, .int i⟩
  | bl i => cases h; exact ⟨q, .bl i⟩
  | non => cases h; exact ⟨q, .non⟩
  | str x => cases h; exact ⟨q, .str x⟩
  | _ => exact q.elim
theorem VsV.mono (s : Sub F F') (s2 : Sub H H') : ∀ {vs : List V} {ps : List PV}, VsV K cl F H vs ps → VsV K cl F' H' vs ps
  | _, _, .nil => .nil
  | _, _, .cons a r => .cons (a.mono s s2) (r.mono s s2)
theorem vl_nil : VwL K cl W tNil ρ (.val []) := fun O bs σ H Q R q => q [] H .refl .nil
theorem vl_cons (ha : Vw K cl W ta ρ ma) (hl : VwL K cl W tr ρ ml) : VwL K cl W (tCons ta tr) ρ (ma >>= fun x => ml >>= fun xs => .val (x :: xs)) := fun O bs σ H Q R q => by
  refine ha O bs σ H _ R (wp_mono (wp_bind.mp q) (fun x qx v1 H1 s1 i1 => ?_) fun _ z => z)
  refine hl O bs σ H1 _ (R.same s1) (wp_mono (wp_bind.mp qx) (fun xs qs vs H2 s2 i2 => ?_) fun _ z => z.mono s1)
  exact qs _ H2 (s1.trans s2) (.cons (i1.mono (frz_same s2) s2) i2)
open Classical in
theorem VsV.strict {vs0 vs : List V} {ps : List PV} (r : VsV K cl (frz H A) H vs ps) : (∀ v, v ∈ vs → v ∈ vs0) → IsL K cl (frz H (A.filter fun x => decide (V.ref x ∉ vs0))) vs ps := by
  induction r with
  | nil => exact fun _ => .nil
  | @cons v p vs ps a r ih =>
    intro h
    have less : Sub (frz H A) (frz H (A.filter fun x => decide (V.ref x ∉ vs0))) := frz_less fun x hx => (List.mem_filter.mp hx).1
    have hv := h v List.mem_cons_self
    refine .cons ?_ (ih fun v hv => h v (List.mem_cons_of_mem _ hv))
    cases p with
    | lst ps =>
      obtain ⟨a, vs', rfl, h1, r1⟩ := a
      exact .lst (frz_some.mpr ⟨fun z => by have := (List.mem_filter.mp z).2; simp at this; exact this hv, h1⟩) (r1.mono less)
    | dct ps =>
      obtain ⟨a, vs', rfl, h1, r1⟩ := a
      exact .dct (frz_some.mpr ⟨fun z => by have := (List.mem_filter.mp z).2; simp at this; exact this hv, h1⟩) (r1.mono less)
    | non => exact Is.mono less a
    | bl b => exact Is.mono less a
    | int i => exact Is.mono less a
    | str x => exact Is.mono less a
    | tup ps => exact Is.mono less a
    | fls ps => exact Is.mono less a
    | ins C fs => exact Is.mono less a
    | ty n => exact Is.mono less a
    | er n => exact Is.mono less a
open Classical in
/-- a def that looks at owned things and gives a plain value -/
theorem pu_callF {mf : List PV → Res PV} (hl : VwL K cl W tr ρ ml) : Pur K cl W (tCallS (spP K cl mf) (WE W) tr) ρ (ml >>= fun ps => mf ps >>= flS) := fun O bs σ H Q R q => by
  refine hl O bs σ H _ R (wp_mono (wp_bind.mp q) (fun ps qs vs H1 s1 i1 => ?_) fun _ z => z)
  refine ⟨(O ++ adr ρ σ).filter fun x => decide (V.ref x ∉ vs), ps, fun a h => (R.same s1).got (List.mem_filter.mp h).1, i1.strict (fun _ h => h), wp_mono (wp_bind.mp qs) (fun r qr v H' s i => ?_) fun c qc C H' e s => qc C H' e (s1.trans s)⟩
  obtain ⟨q1, i'⟩ := flS_move (G := frz H' (O ++ adr ρ σ)) qr i
  exact q1 v H' (s1.trans s) i'
/-! dicts written out -/
theorem pp_nil : PurP K cl W [] ρ (.val []) := fun O bs σ H Q R q => q [] H .refl .nil
theorem pp_cons {trs : List (TE × TE)} (hk : Pur K cl W ta ρ ma) (hv : Pur K cl W te ρ m) (hr : PurP K cl W trs ρ md) : PurP K cl W ((ta, te) :: trs) ρ (ma >>= fun k => m >>= fun v => keyP k >>= fun k => md >>= fun r => .val ((k, v) :: r)) := fun O bs σ H Q R q => by
  refine hk O bs σ H _ R (wp_mono (wp_bind.mp q) (fun x qx v1 H1 s1 i1 => ?_) fun _ z => z)
  refine hv O bs σ H1 _ (R.same s1) (wp_mono (wp_bind.mp qx) (fun y qy v2 H2 s2 i2 => ?_) fun _ z => z.mono s1)
  obtain ⟨k, rfl, qk⟩ := wp_key (H := H1) (wp_bind.mp qy) (i1.view frz_sub)
  refine hr O bs σ H2 _ ((R.same s1).same s2) (wp_mono (wp_bind.mp qk) (fun r qr kvs H3 s3 i3 => ?_) fun _ z => (z.mono s1).mono s2)
  exact qr ((k, v2) :: kvs) H3 ((s1.trans s2).trans s3) (.cons (i2.mono (frz_same s3)) i3)
theorem IsK.merge : ∀ {ws : List (Key × V)} {qs : List (Key × PV)} {vs : List (Key × V)} {ps : List (Key × PV)}, IsK K cl F ws qs → IsK K cl F vs ps → IsK K cl F (mergeK vs ws) (mergeP ps qs)
  | _, _, _, _, .nil, h => h
  | _, _, _, _, .cons (f := g) a r, h => by
    have q := IsK.merge r (IsK.put (k := g) a h)
    exact q
theorem nd_disp {trs : List (TE × TE)} (h : PurP K cl W trs ρ md) : NewD K cl W (tDisp trs) ρ (md >>= fun kvs => upto15 kvs.length >>= fun _ => .val (mergeP [] kvs)) := fun O bs σ H Q R q p hp => by
  have s0 := sub_new hp (.dK [])
  refine h (p :: O) bs σ _ _ (R.add hp (.dK [])) (wp_mono (wp_bind.mp q) (fun r qr kvs H2 s2 i2 => ?_) fun _ z => z.mono s0)
  have e2 : H2 p = some (.dK []) := s2 _ _ upd_same
  unfold upto15 at qr
  by_cases c : r.length ≤ 15
  · rw [if_pos c] at qr
    have qr' : ∀ p vs H', Sub H H' → H p = none → H' p = some (.dK vs) → IsK K cl (frz H' (p :: (O ++ adr ρ σ))) vs (mergeP [] r) → Q (.ref p) H' := qr
    refine ⟨e2, kvs, rfl, by rw [i2.len]; exact c, qr' p _ _ (fun x o e => ?_) hp upd_same ?_⟩
    · have ne : x ≠ p := fun z => by rw [z, hp] at e; cases e
      rw [upd_ne ne]
      exact s2 _ _ (s0 _ _ e)
    · refine (IsK.merge i2 .nil).mono fun x o e => ?_
      obtain ⟨n, e⟩ := frz_some.mp e
      exact frz_some.mpr ⟨n, by rw [upd_ne fun z => n (by rw [z]; exact List.mem_cons_self)]; exact e⟩
  · rw [if_neg c] at qr; exact qr.elim
theorem run_retNewD {r : List MO} (he : NewD K cl W te ρ md) (hr : rfB 0 ρ = true) (e : brs ρ = r) (w : Wk ρ ρx) : Runs (S := S) K cl W (tSeq (tRet te) u) ρ (md >>= fun l => .val (.ro (.dct l) r)) ρn ρl ρx := fun O bs σ H D R hb q => by
  subst e
  refine he O bs σ H _ R (wp_mono (wp_bind.mp q) (fun l ql p vs H' s hp hv hl => ?_) fun _ z => z.xw R w)
  refine ql p H' ⟨fun x o _ h => s _ _ h, fun x hx => ?_⟩ (fun z => ?_) ⟨vs, hv, hl.mono (frz_less fun b hb => ?_)⟩ fun k b m h1 h2 => (R.byref0 hr h1 h2).mono (frz_gone s hp) fun o e => s _ _ e
  · have : x = p := by simpa using hx
    rw [this]; exact .inr hp
  · obtain ⟨o, e⟩ := R.al p z
    rw [hp] at e; cases e
  · rcases List.mem_cons.mp hb with c | c
    · rw [c]; exact List.mem_cons_self
    · exact List.mem_cons_of_mem _ (List.mem_append_left _ c)
end
/-! properties: their getters raise nothing -/
section
variable {K : PySem.W.Frag} {cl : Str → Option Addr} {W : WX} {ρ : Ro} {ta : TE} {ma : Res PV}
theorem passes_no {X : Cx} : Passes (L2.CX X.prog X.w) X.nox (fun _ _ _ => False) := passes_call (X := X.nox) (W := fun _ _ _ _ => False) takes0 (fun _ _ _ _ h => h)
theorem pu_prop {C : Str} {c : Addr} {mt : Str} {mf : List PV → Res PV} (hc : cl C = some c) (ha : Pur K cl W ta ρ ma) :
    Pur K cl W (tProp c (spP K cl mf) [] (fun _ _ _ => False) ta) ρ (ma >>= fun x => sel [(C, mf)] mt x >>= fun g => noX (g [x])) := fun O bs σ H Q R q => by
  refine ha O bs σ H _ R (wp_mono (wp_bind.mp q) (fun x qx v1 H1 s1 i1 => ?_) fun _ z => z)
  have R1 := R.same s1
  obtain ⟨fs, rfl, e2, hw⟩ := sel_one (wp_bind.mp qx)
  have main : ∃ a dx vs, v1 = .ref a ∧ H1 a = some (.ins c dx vs) := by
    cases i1 with
    | ins h0 h1 h2 =>
      rw [hc] at h0
      cases h0
      exact ⟨_, _, _, rfl, frz_sub _ _ h1⟩
  obtain ⟨a, dx, vs, e3, e4⟩ := main
  subst e3
  refine ⟨a, dx, vs, rfl, e4, ?_⟩
  exact ⟨O ++ adr ρ σ, [.ins C fs], fun a h => (R1.got h), .cons i1 .nil, wp_mono (wp_noX (E' := fun _ => False) hw) (fun r qr v H' s i => qr v H' (s1.trans s) i) fun e qe => qe.elim⟩
end
/-! ### stores in dicts with effects; new things with effects under a name -/
def mos1 {α : Type} (f : MO → Res α) : List MO → Res α
  | [a] => f a
  | _ => .stuck
def mos2 {α β : Type} (f : MO → Res α) (g : MO → Res β) : List MO → Res (α × β)
  | [a, b] => f a >>= fun x => g b >>= fun y => .val (x, y)
  | _ => .stuck
section
variable {K : PySem.W.Frag} {cl : Str → Option Addr} {W : WX} {bs O A A1 B : List Addr} {F H H' H1 : Hp} {ρ ρ' ρx ρh : Ro} {σ : St} {S S1 S2 L : Type} {ρs : S → Ro} {ρn : S1 → Ro} {ρl : L → Ro} {D : Ends} {t u v tb : TS} {te ta tc td : TE} {m : S → Res PV} {ma mb mc md : S → Res (PV × S)} {s0 : S} {mn : S → Res (MO × S)}
theorem run_stuck {M : Res (Fl S1 L)} (h : M = .stuck) : Runs K cl W t ρ M ρn ρl ρx := fun O bs σ H D R hb q => by rw [h] at q; exact q.elim
theorem run_setoEd {i : Nat} {n : List (Key × PV) → S → Res (Fl S1 L)} (he : EffN K cl te ρs mn) (e0 : ρs s0 = ρ) (hn : ∀ s, nad (ρs s) i = true) (h : ∀ x s, Runs K cl W u ((ρs s).set i (.ow (.dct x))) (n x s) ρn ρl ρx) :
    Runs K cl W (tSeq (tAsg te (gName i)) u) ρ (noX (mn s0) >>= fun r => moD r.1 >>= fun d => n d r.2) ρn ρl ρx :=
  run_setoE (n := fun mo s => moD mo >>= fun d => n d s) he e0 hn fun x s => match x with
    | .dct d => h d s
    | .lst _ => run_stuck rfl
    | .ob _ _ => run_stuck rfl
theorem run_setoEl {i : Nat} {n : List PV → S → Res (Fl S1 L)} (he : EffN K cl te ρs mn) (e0 : ρs s0 = ρ) (hn : ∀ s, nad (ρs s) i = true) (h : ∀ x s, Runs K cl W u ((ρs s).set i (.ow (.lst x))) (n x s) ρn ρl ρx) :
    Runs K cl W (tSeq (tAsg te (gName i)) u) ρ (noX (mn s0) >>= fun r => moL r.1 >>= fun d => n d r.2) ρn ρl ρx :=
  run_setoE (n := fun mo s => moL mo >>= fun d => n d s) he e0 hn fun x s => match x with
    | .lst d => h d s
    | .dct _ => run_stuck rfl
    | .ob _ _ => run_stuck rfl
theorem run_dputE {i : Nat} {sl : S → Slot} {get : S → List (Key × PV)} {n : S → List (Key × PV) → Res (Fl S1 L)} (hi : ∀ s, (ρs s)[i]? = some (sl s)) (hs : ∀ s, sl s = .ow (.dct (get s)) ∨ ∃ k, sl s = .rf k (.dct (get s))) (he : Eff K cl te ρs ma) (hk : Eff K cl ta ρs mb) (e0 : ρs s0 = ρ) (h : ∀ s qs, Runs K cl W u ((ρs s).set i (reSl (sl s) (.dct qs))) (n s qs) ρn ρl ρx) :
    Runs K cl W (tSeq (sDPut (tVar i) ta te) u) ρ (noX (ma s0) >>= fun r => noX (mb r.2) >>= fun k => keyP k.1 >>= fun kk => sized ((get k.2).length + 1) >>= fun _ => n k.2 (putP (get k.2) kk r.1)) ρn ρl ρx := fun O bs σ H D R hb q => by
  subst e0
  have got : ∀ s' H', Rel K cl O bs (ρs s') σ H' → ∃ a vs, σ[i]? = some (some (.ref a)) ∧ H' a = some (.dK vs) ∧ IsK K cl (frz H' (O ++ adr (ρs s') σ)) vs (get s') := fun s' H' R => by
    obtain ⟨x, e, q⟩ := R.sl.get (hi s')
    rcases hs s' with h | ⟨k, h⟩
    · rw [h] at q; obtain ⟨a, rfl, vs, h1, h2⟩ := q; exact ⟨a, vs, e, h1, h2⟩
    · rw [h] at q; obtain ⟨a, rfl, _, vs, h1, h2⟩ := q; exact ⟨a, vs, e, h1, h2⟩
  obtain ⟨a, _, ha, _⟩ := got _ _ R
  refine he s0 O bs σ H _ R hb (wp_mono (wp_noX (E' := fun _ => False) (wp_bind.mp q)) (fun x qx v H1 g1 R1 e1 i1 => ?_) fun _ z => z)
  refine ⟨_, ha, hk x.2 O bs σ H1 _ R1 hb (wp_mono (wp_noX (E' := fun _ => False) (wp_bind.mp qx)) (fun k qk v2 H2 g2 R2 e2 i2 => ?_) fun _ z => z)⟩
  obtain ⟨a', vs, ha', hv, hl⟩ := got _ _ R2
  rw [ha] at ha'
  cases ha'
  have g1' : Gr (adr (ρs s0) σ) H (adr (ρs x.2) σ) H1 := by rw [e1]; exact g1
  have g2' : Gr (adr (ρs x.2) σ) H1 (adr (ρs k.2) σ) H2 := by rw [e2]; exact g2
  have ix : Is K cl (frz H2 (O ++ adr (ρs k.2) σ)) v x.1 := by
    rw [e2, e1]
    rw [e1] at g2
    exact i1.mono (g2.sub R1.al)
  obtain ⟨kk, rfl, qk⟩ := wp_key (H := H2) (wp_bind.mp qk) (i2.view frz_sub)
  obtain ⟨hz, qk⟩ := wp_sized (wp_bind.mp qk)
  obtain ⟨R3, g3⟩ := R2.put (m' := .dct (putP (get k.2) kk x.1)) (o := .dK (putK vs kk v)) (hi k.2) (hs k.2) ha ⟨_, upd_same, IsK.put ix hl⟩
  have g := (g1'.trans g2').trans g3
  exact ⟨a, _, rfl, .inl ⟨vs, kk, hv, rfl, by rw [hl.len]; omega, rfl⟩, h k.2 _ O bs σ _ D R3 hb (wp_mono qk (fun _ z => z.step g) fun _ z => z.step g)⟩
end
/-! is True, is not False -/
def isBP : PV → PV → Res PV
  | .bl a, .bl b => .val (.bl (decide (a = b)))
  | _, _ => .stuck
def isnBP : PV → PV → Res PV
  | .bl a, .bl b => .val (.bl (!decide (a = b)))
  | _, _ => .stuck
section
variable {K : PySem.W.Frag} {cl : Str → Option Addr}
theorem o2_isB : Op2 K cl rIsB isBP := fun A H x y p q Q E hA ix iy w => by
  unfold isBP at w
  split at w
  · next a b =>
    cases (show Is K cl (frz H A) x (.bl a) from ix)
    cases (show Is K cl (frz H A) y (.bl b) from iy)
    exact ⟨a, b, rfl, rfl, w _ H .refl (.bl _)⟩
  · exact w.elim
theorem o2_isnB : Op2 K cl rNotB isnBP := fun A H x y p q Q E hA ix iy w => by
  unfold isnBP at w
  split at w
  · next a b =>
    cases (show Is K cl (frz H A) x (.bl a) from ix)
    cases (show Is K cl (frz H A) y (.bl b) from iy)
    exact ⟨a, b, rfl, rfl, w _ H .refl (.bl _)⟩
  · exact w.elim
end
/-! ### for x in reversed(list or tuple) -/
section
variable {K : PySem.W.Frag} {cl : Str → Option Addr} {W : WX} {F : Hp} {ρ : Ro} {te : TE} {m : Res PV}
theorem rev_get {ps : List PV} {i : Nat} {p : PV} (h : ps.reverse[i]? = some p) : i < ps.length ∧ ps[ps.length - 1 - i]? = some p := by
  have hl : i < ps.reverse.length := (List.getElem?_eq_some_iff.mp h).1
  rw [List.length_reverse] at hl
  rw [List.getElem?_reverse hl] at h
  exact ⟨hl, h⟩
theorem itOk_listR {a : Addr} {vs : List V} {ps : List PV} (hP : ∀ H, Sub F H → SqL K H a vs) (hl : IsL K cl F vs ps) : ItOk K cl (fun H => Sub F H) F (Itv K a vs.length) ps.reverse := fun H B hp sF hB => by
  have hs := hP H hp
  refine ⟨?_, fun i p hi => ?_⟩
  · rw [List.length_reverse, ← hl.len]
    exact Nat.le_refl _
  obtain ⟨il, hi⟩ := rev_get hi
  obtain ⟨v, hv, iv⟩ := hl.get hi
  rw [← hl.len] at hv il
  refine ⟨⟨il, vs, v, hs, hv⟩, fun x H' hy => ?_⟩
  obtain ⟨rfl, hx⟩ := hy
  have := hx vs hs
  rw [hv] at this
  cases this
  exact ⟨.refl, iv.mono sF⟩
theorem itOk_tupR {a : Addr} {vs : List V} {ps : List PV} (hP : ∀ H, Sub F H → SqT K H a vs) (hl : IsL K cl F vs ps) : ItOk K cl (fun H => Sub F H) F (RT.ItvT K a vs.length) ps.reverse := fun H B hp sF hB => by
  have hs := hP H hp
  refine ⟨?_, fun i p hi => ?_⟩
  · rw [List.length_reverse, ← hl.len]
    exact Nat.le_refl _
  obtain ⟨il, hi⟩ := rev_get hi
  obtain ⟨v, hv, iv⟩ := hl.get hi
  rw [← hl.len] at hv il
  refine ⟨⟨il, vs, v, hs, hv⟩, fun x H' hy => ?_⟩
  obtain ⟨rfl, hx⟩ := hy
  have := hx vs hs
  rw [hv] at this
  cases this
  exact ⟨.refl, iv.mono sF⟩
theorem it_rev (he : Pur K cl W te ρ m) : Iter K cl W (RT.iRevA K te) ρ (m >>= asSq >>= fun ps => .val ps.reverse) := fun O bs σ H R r q => by
  rw [wp_bind, wp_bind] at q
  refine he O bs σ H _ r (wp_mono q (fun x w v H' s i => ?_) fun _ z => z)
  cases x with
  | tup ps =>
    cases i with
    | tup h l => exact ⟨_, _, rfl, .inr ⟨frz_sub.sqT h, w _ H' s ((itOk_tupR (fun H sF => sF.sqT h) l).of fun H B _ sF => sF.trans frz_sub)⟩⟩
  | lst ps =>
    cases i with
    | lst h l => exact ⟨_, _, rfl, .inl ⟨.inl (.inl (frz_sub _ _ h)), w _ H' s ((itOk_listR (fun H sF => .inl (.inl (sF _ _ h))) l).of fun H B _ sF => sF.trans frz_sub)⟩⟩
  | fls ps =>
    cases i with
    | fls h l => exact ⟨_, _, rfl, .inl ⟨frz_sub.sqL h, w _ H' s ((itOk_listR (fun H sF => sF.sqL h) l).of fun H B _ sF => sF.trans frz_sub)⟩⟩
  | _ => exact w.elim
theorem pi_revK (K : PySem.W.Frag) {X : Cx} (eK : X.K = K) {tg e : Expr} {te : TE} {p pos : Pos} (hg : Gl X "reversed") (hm : X.mg "reversed" = none) (he : PE X e te) (hs : starEach [e] X.env = (false, eval e X.env) :: starEach [] X.env := by rfl) : PI X tg (.Call (.Name "reversed" p) [e] [] pos) (RT.iRevA K te) := by
  subst eK
  exact RT.pi_revA hg hm he hs
end
/-! a list by a comprehension with effects, apart -/
section
variable {K : PySem.W.Frag} {cl : Str → Option Addr} {W : WX} {bs O A A1 B : List Addr} {F H H' H1 : Hp} {ρ ρ' ρx ρh : Ro} {σ : St} {S S1 S2 L : Type} {ρs : S → Ro} {ρn : S1 → Ro} {ρj : S2 → Ro} {ρl : L → Ro} {D : Ends} {t u v tb : TS} {te ta tc td : TE} {m : S → Res PV} {ma mb mc md : S → Res (PV × S)} {tr : TA} {ml mk : S → Res (List PV × S)}
theorem ef_lcN {wi : TI} {g : TG} {tt : TT} {vs : List Nat} {mi : S → Res (List PV × S)} {α : Type} {d : PV → Res α} {ρe : α → S → Ro} {mc : α → S → Res (Bool × S)} {me : α → S → Res (PV × S)} (hi : EffI K cl wi ρs mi) (hv : ∀ s, unsB (ρs s) vs = true) (hne : vs ≠ [])
    (hg : ∀ s, TgtE K cl g vs (ρs s) d (fun a => ρe a s)) (hw : ∀ a s, wipeR (ρe a s) vs = ρs s) (hv2 : ∀ a s, nads (ρe a s) vs = true) (ht : ∀ a, EffT K cl tt (ρe a) (mc a)) (he : ∀ a, Eff K cl te (ρe a) (me a)) :
    EffN K cl (tLc wi g tt te vs) ρs (fun s => mi s >>= fun ps => sized ps.1.length >>= fun _ => lcE d mc me ps.1 ps.2 >>= fun r => .val (MO.lst r.1, r.2)) := fun s O bs σ H Q R hb q => by
  refine hi s O bs σ H _ R hb (wp_mono (wp_bind.mp q) (fun r qp J H1 g1 R1 e1 hJ => ?_) fun _ z => z)
  obtain ⟨ps, s1⟩ := r
  obtain ⟨hz, qp⟩ := wp_sized (wp_bind.mp qp)
  replace hz : ps.length ≤ sizeLine := hz
  intro Da hD
  have qp := wp_bind.mp qp
  have Rw1 := (Rel.uns (σ := σ) (hv s1)).1.mpr R1
  have ew1 := (Rel.uns (K := K) (cl := cl) (O := O) (bs := bs) (H := H1) (σ := σ) (hv s1)).2
  have Rw0 := Rw1.wider (o := .lst []) hD
  have nDA : Da ∉ O ++ adr (ρs s) σ := fun z => by
    obtain ⟨u, e⟩ := R1.got (by rw [e1]; exact z)
    rw [hD] at e; cases e
  have hbD : ∀ b, b ∈ bs → b ∈ Da :: O := fun b h => List.mem_cons_of_mem _ (hb b h)
  have hD0 : H Da = none := by
    cases e : H Da with
    | none => rfl
    | some u => rw [g1.1 Da u (fun z => nDA (List.mem_append_right _ z)) e] at hD; cases hD
  refine ⟨fun i mm H2 => mm = ps.length - i ∧ i ≤ ps.length ∧ ∃ s2, (∀ x o, x ∉ adr (ρs s) σ → H1 x = some o → H2 x = some o) ∧ Rel K cl (Da :: O) bs (ρs s2) (wipe σ vs) H2 ∧ adr (ρs s2) (wipe σ vs) = adr (ρs s) σ ∧
      ∃ acc qs, H2 Da = some (.lst acc) ∧ acc.length ≤ i ∧ IsL K cl (frz H2 (Da :: (O ++ adr (ρs s) σ))) acc qs ∧
      wp (lcE d mc me (ps.drop i) s2) (fun r => ∀ p H', Gr (adr (ρs s) σ) H (adr (ρs s) σ) H' → p ∉ O ++ adr (ρs s) σ → H p = none → Rel K cl (p :: O) bs (ρs r.2) σ H' → adr (ρs r.2) σ = adr (ρs s) σ → MoIs K cl (frz H' (p :: (O ++ adr (ρs s) σ))) H' p (.lst (qs ++ r.1)) → Q (.ref p) H') (fun _ => False),
    ⟨_, rfl, Nat.zero_le _, s1, fun x o _ e => sub_new hD _ x o e, Rw0, ew1.trans e1, [], [], upd_same, Nat.le_refl _, .nil, by rw [List.drop_zero]; exact wp_mono qp (fun r z => z) fun _ z => z⟩, ?_⟩
  rintro i mm H2 ⟨rfl, hle, s2, k2, R2, ew, acc, qs, ha, hal, hl, qw⟩
  have sF : Sub (frz H1 (O ++ adr (ρs s) σ)) (frz H2 (Da :: (O ++ adr (ρs s) σ))) := fun x u e => by
    obtain ⟨n, e⟩ := frz_some.mp e
    refine frz_some.mpr ⟨fun z => ?_, k2 _ _ (fun z => n (List.mem_append_right _ z)) e⟩
    rcases List.mem_cons.mp z with c | c
    · rw [c, hD] at e; cases e
    · exact n c
  have gotB : ∀ a, a ∈ Da :: (O ++ adr (ρs s) σ) → ∃ o, H2 a = some o := fun a z => R2.got (by rw [ew]; exact z)
  obtain ⟨hs, hgo⟩ := hJ H2 _ trivial sF gotB
  by_cases c : i = ps.length
  · subst c
    rw [List.drop_length] at qw
    obtain ⟨u1, u2⟩ := Rel.uns (K := K) (cl := cl) (O := Da :: O) (bs := bs) (H := H2) (σ := σ) (hv s2)
    refine .inl ⟨hs, qw Da H2 ⟨fun x o n e => k2 x o n (g1.1 x o n e), fun x hx => .inl hx⟩ nDA hD0 (u1.mp R2) (u2.symm.trans ew) ?_⟩
    rw [List.append_nil]
    exact ⟨acc, ha, hl⟩
  · have hlt : i < ps.length := by omega
    obtain ⟨hgi, hy⟩ := hgo i _ (List.getElem?_eq_getElem hlt)
    rw [List.drop_eq_getElem_cons hlt] at qw
    refine .inr ⟨hgi, fun H3 => ∃ s2, (∀ x o, x ∉ adr (ρs s) σ → H1 x = some o → H3 x = some o) ∧ Rel K cl (Da :: O) bs (ρs s2) (wipe σ vs) H3 ∧ adr (ρs s2) (wipe σ vs) = adr (ρs s) σ ∧
      ∃ acc qs, H3 Da = some (.lst acc) ∧ acc.length ≤ i + 1 ∧ IsL K cl (frz H3 (Da :: (O ++ adr (ρs s) σ))) acc qs ∧
      wp (lcE d mc me (ps.drop (i + 1)) s2) (fun r => ∀ p H', Gr (adr (ρs s) σ) H (adr (ρs s) σ) H' → p ∉ O ++ adr (ρs s) σ → H p = none → Rel K cl (p :: O) bs (ρs r.2) σ H' → adr (ρs r.2) σ = adr (ρs s) σ → MoIs K cl (frz H' (p :: (O ++ adr (ρs s) σ))) H' p (.lst (qs ++ r.1)) → Q (.ref p) H') (fun _ => False),
      fun H3 z => ⟨_, by omega, rfl, by omega, z⟩, fun x H3 hyx => ?_⟩
    obtain ⟨s3, ix⟩ := hy x H3 hyx
    have R3 := R2.same s3
    have qw := wp_bind.mp qw
    refine hg s2 ps[i] (Da :: O) bs σ H3 x _ _ R3 (by rw [ew]; exact ix) (wp_mono (wp_noX (E' := fun _ => False) qw) (fun a qa σ4 R4 e4 w4 => ?_) fun _ z => z)
    have e4s : adr (ρe a s2) σ4 = adr (ρs s) σ := e4.trans ew
    refine ⟨w4 hne, ht a s2 (Da :: O) bs σ4 H3 _ R4 hbD (wp_mono (wp_bind.mp qa) (fun b qb H5 g5 R5 e5 => ?_) fun _ z => z.elim)⟩
    obtain ⟨b, s5⟩ := b
    rw [e4s] at g5
    have e5s : adr (ρe a s5) σ4 = adr (ρs s) σ := e5.trans e4s
    have nD : Da ∉ adr (ρs s) σ := fun z => nDA (List.mem_append_right _ z)
    -- back to the comprehension's own frame
    have back : ∀ (s6 : S) (H6 : Hp), Rel K cl (Da :: O) bs (ρe a s6) σ4 H6 → adr (ρe a s6) σ4 = adr (ρs s) σ → Rel K cl (Da :: O) bs (ρs s6) (wipe σ vs) H6 ∧ adr (ρs s6) (wipe σ vs) = adr (ρs s) σ := fun s6 H6 R6 e6 => by
      obtain ⟨q1, q2⟩ := R6.wipe (hv2 a s6)
      rw [hw, w4 hne] at q1 q2
      exact ⟨q1, q2.trans e6⟩
    have k5 : ∀ x o, x ∉ adr (ρs s) σ → H1 x = some o → H5 x = some o := fun x o n e => g5.1 x o n (s3 _ _ (k2 x o n e))
    have ha5 : H5 Da = some (.lst acc) := g5.1 _ _ nD (s3 _ _ ha)
    have hA : ∀ a, a ∈ Da :: O → ∃ o, H3 a = some o := R3.al
    have fs5 : Sub (frz H2 (Da :: (O ++ adr (ρs s) σ))) (frz H5 (Da :: (O ++ adr (ρs s) σ))) := (frz_same s3).trans (Gr.sub (O := Da :: O) g5 hA)
    cases b with
    | false =>
      obtain ⟨b1, b2⟩ := back s5 H5 R5 e5s
      exact ⟨s5, k5, b1, b2, acc, qs, ha5, by omega, hl.mono fs5, qb⟩
    | true =>
      refine he a s5 (Da :: O) bs σ4 H5 _ R5 hbD (wp_mono (wp_bind.mp qb) (fun y qy vy H6 g6 R6 e6 iy => ?_) fun _ z => z.elim)
      rw [e5s] at g6 iy
      have e6s : adr (ρe a y.2) σ4 = adr (ρs s) σ := e6.trans e5s
      have ha6 : H6 Da = some (.lst acc) := g6.1 _ _ nD ha5
      have k6 : ∀ x o, x ∉ adr (ρs s) σ → H1 x = some o → H6 x = some o := fun x o n e => g6.1 x o n (k5 x o n e)
      have fs6 : Sub (frz H2 (Da :: (O ++ adr (ρs s) σ))) (frz H6 (Da :: (O ++ adr (ρs s) σ))) := fs5.trans (Gr.sub (O := Da :: O) g6 R5.al)
      obtain ⟨b1, b2⟩ := back y.2 H6 R6 e6s
      have keepD : ∀ x u, x ≠ Da → H6 x = some u → upd H6 Da (.lst (acc ++ [vy])) x = some u := fun x u n e => by rw [upd_ne n]; exact e
      have sD : Sub (frz H6 (Da :: (O ++ adr (ρs s) σ))) (frz (upd H6 Da (.lst (acc ++ [vy]))) (Da :: (O ++ adr (ρs s) σ))) := fun x u e => by
        obtain ⟨n, e⟩ := frz_some.mp e
        exact frz_some.mpr ⟨n, keepD x u (fun z => n (by rw [z]; exact List.mem_cons_self)) e⟩
      refine ⟨acc, ha6, by omega, y.2, fun x u n e => keepD x u (ne_of_none e hD) (k6 x u n e), b1.putO List.mem_cons_self (by rw [b2]; exact nD), b2, acc ++ [vy], qs ++ [y.1], upd_same, by rw [List.length_append, List.length_singleton]; omega, ((hl.mono fs6).append (.one iy)).mono sD, ?_⟩
      refine wp_mono (wp_bind.mp qy) (fun ys qys => ?_) fun _ z => z
      intro p H' h1 h2 h3 h4 h5 h6
      exact qys p H' h1 h2 h3 h4 h5 (by rw [List.append_assoc] at h6; exact h6)
end
/-! ### xs.insert(i, y) -/
def rIns : V → List V → Hp → VK → Prop := fun x vs H Q => ∃ (l : Addr) (xs : List V) (i : Int) (y : V), x = .ref l ∧ vs = [.int i, y] ∧ H l = some (.lst xs) ∧ xs.length < sizeLine ∧ 0 ≤ i ∧ i < 2 ^ 63 ∧
    Q .non (upd H l (.lst (xs.take i.toNat ++ [y] ++ xs.drop i.toNat)))
theorem mt_ins {X : Cx} : MtR X "list.insert" rIns := mt_insert
def insL (l : List PV) : List PV → Res (List PV)
  | [.int k, y] => if 0 ≤ k ∧ k < 2 ^ 63 then sized (l.length + 1) >>= fun _ => .val (l.take k.toNat ++ [y] ++ l.drop k.toNat) else .stuck
  | _ => .stuck
section
variable {K : PySem.W.Frag} {cl : Str → Option Addr} {W : WX} {bs O A A1 B : List Addr} {F H H' H1 : Hp} {ρ ρ' ρx ρh : Ro} {σ : St} {S S1 S2 L : Type} {ρs : S → Ro} {ρn : S1 → Ro} {ρl : L → Ro} {D : Ends} {t u v tb : TS} {tr : TA} {ml : S → Res (List PV × S)} {s0 : S}
theorem run_insertE {i : Nat} {sl : S → Slot} {get : S → List PV} {n : S → List PV → Res (Fl S1 L)} (hi : ∀ s, (ρs s)[i]? = some (sl s)) (hs : ∀ s, sl s = .ow (.lst (get s)) ∨ ∃ k, sl s = .rf k (.lst (get s))) (hl : EffL K cl tr ρs ml) (e0 : ρs s0 = ρ) (h : ∀ s qs, Runs K cl W u ((ρs s).set i (reSl (sl s) (.lst qs))) (n s qs) ρn ρl ρx) :
    Runs K cl W (tSeq (tDrop (tBM K "list" rIns (tVar i) tr)) u) ρ (noX (ml s0) >>= fun r => insL (get r.2) r.1 >>= n r.2) ρn ρl ρx := fun O bs σ H D R hb q => by
  subst e0
  have got : ∀ s' H', Rel K cl O bs (ρs s') σ H' → ∃ a vs, σ[i]? = some (some (.ref a)) ∧ H' a = some (.lst vs) ∧ IsL K cl (frz H' (O ++ adr (ρs s') σ)) vs (get s') := fun s' H' R => by
    obtain ⟨x, e, q⟩ := R.sl.get (hi s')
    rcases hs s' with h | ⟨k, h⟩
    · rw [h] at q; obtain ⟨a, rfl, vs, h1, h2⟩ := q; exact ⟨a, vs, e, h1, h2⟩
    · rw [h] at q; obtain ⟨a, rfl, _, vs, h1, h2⟩ := q; exact ⟨a, vs, e, h1, h2⟩
  obtain ⟨a, vs, ha, hv, hl0⟩ := got _ _ R
  refine ⟨_, ha, .inl ⟨rfl, _, .inl (.inl hv)⟩, hl s0 O bs σ H _ R hb (wp_mono (wp_noX (E' := fun _ => False) (wp_bind.mp q)) (fun x qx us H' g1 R1 e1 i1 => ?_) fun _ z => z)⟩
  obtain ⟨a', vs', ha', hv', hl'⟩ := got _ _ R1
  rw [ha] at ha'
  cases ha'
  obtain ⟨xs, s1⟩ := x
  have qx := wp_bind.mp qx
  unfold insL at qx
  split at qx
  · next k y he =>
    have he : xs = [.int k, y] := he
    subst he
    split at qx
    · next c =>
      obtain ⟨hz, qx⟩ := wp_sized (wp_bind.mp qx)
      match us, i1 with
      | _, .cons (.int _) (.cons iy .nil) =>
        rename_i vy
        have iy' : Is K cl (frz H' (O ++ adr (ρs s1) σ)) vy y := by
          have e1' : adr (ρs s1) σ = adr (ρs s0) σ := e1
          rw [e1']; exact iy
        obtain ⟨R2, g2⟩ := R1.put (m' := .lst ((get s1).take k.toNat ++ [y] ++ (get s1).drop k.toNat)) (o := .lst (vs'.take k.toNat ++ [vy] ++ vs'.drop k.toNat)) (hi s1) (hs s1) ha ⟨_, upd_same, (((hl'.take _).append (.one iy')).append (hl'.drop _))⟩
        have g : Gr (adr (ρs s0) σ) H _ _ := (show Gr (adr (ρs s0) σ) H (adr (ρs s1) σ) H' by
          have e1' : adr (ρs s1) σ = adr (ρs s0) σ := e1
          rw [e1']; exact g1).trans g2
        refine ⟨a, vs', k, vy, rfl, rfl, hv', by rw [hl'.len]; exact hz, c.1, c.2, ?_⟩
        exact h s1 _ O bs σ _ D R2 hb (wp_mono qx (fun _ z => z.step g) fun _ z => z.step g)
    · exact qx.elim
  · exact qx.elim
theorem ef_ixO {tb : TE} {mb : S → Res (PV × S)} {i : Nat} {sl : S → Slot} {get : S → List PV} (hi : ∀ s, (ρs s)[i]? = some (sl s)) (hs : ∀ s, sl s = .ow (.lst (get s)) ∨ ∃ k, sl s = .rf k (.lst (get s))) (hb' : Eff K cl tb ρs mb) :
    Eff K cl (tOp (rIxV K) (tVar i) tb) ρs (fun s => mb s >>= fun k => noX (ixP (.lst (get k.2)) k.1) >>= fun z => .val (z, k.2)) := fun s O bs σ H Q R hb q => by
  have got : ∀ s' H', Rel K cl O bs (ρs s') σ H' → ∃ a vs, σ[i]? = some (some (.ref a)) ∧ H' a = some (.lst vs) ∧ IsL K cl (frz H' (O ++ adr (ρs s') σ)) vs (get s') := fun s' H' R => by
    obtain ⟨x, e, q⟩ := R.sl.get (hi s')
    rcases hs s' with h | ⟨k, h⟩
    · rw [h] at q; obtain ⟨a, rfl, vs, h1, h2⟩ := q; exact ⟨a, vs, e, h1, h2⟩
    · rw [h] at q; obtain ⟨a, rfl, _, vs, h1, h2⟩ := q; exact ⟨a, vs, e, h1, h2⟩
  obtain ⟨a, vs, ha, _, _⟩ := got _ _ R
  refine ⟨_, ha, hb' s O bs σ H _ R hb (wp_mono (wp_bind.mp q) (fun k qk v H1 g1 R1 e1 i1 => ?_) fun _ z => z)⟩
  obtain ⟨a', vs', ha', hv', hl'⟩ := got _ _ R1
  rw [ha] at ha'
  cases ha'
  rw [e1] at hl'
  have hA : ∀ a, a ∈ O ++ adr (ρs s) σ → ∃ o, H1 a = some o := fun a h => R1.got (by rw [e1]; exact h)
  have ix : IsV K cl (frz H1 (O ++ adr (ρs s) σ)) H1 (.ref a) (.lst (get k.2)) := ⟨a, vs', rfl, hv', hl'⟩
  exact o2_ix _ H1 _ v _ k.1 _ (fun _ => False) hA ix (i1.view frz_sub) (wp_mono (wp_noX (E' := fun _ => False) (wp_bind.mp qk)) (fun z qz v' H' s' iz => qz v' H' (g1.trans (Gr.of s')) (R1.same s') e1 iz) fun _ z => z)
end
/-! ### try .. except X as e; isinstance of what is caught -/
/-- isinstance(e, c) in the suite; cls, d of the caught thing -/
def rIsX (K : PySem.W.Frag) (cls : Value) (d : Option Addr) (a : Addr) : List V → Hp → VK → Prop := fun xs H Q => ∃ D, cls = .ref D ∧ d = none ∧ ExcC K D ∧ rIsE K D a xs H Q
theorem call_isX {X : Cx} {K : PySem.W.Frag} {a : Addr} {cls : Value} {d : Option Addr} {oe : Obj} {pn : List (Addr × Obj)} (eK : X.K = K) (hz : Zc cls d oe) (hf : ∃ vs, oe.data = .fields vs) : CallR (X.suite a ((a, oe) :: pn)) (.builtin "isinstance") (rIsX K cls d a) := by
  subst eK
  intro pins s σ H xs us Q I r h
  obtain ⟨D, rfl, rfl, C, h⟩ := h
  exact call_isE C hz hf pins s σ H xs us Q I r h
/-- the answer, by the caught thing's class -/
def isX (tab : List (Str × Bool)) (c : Str) : Res PV := match tab.lookup c with
  | some b => .val (.bl b)
  | none => .stuck
section
variable {K : PySem.W.Frag} {cl : Str → Option Addr} {W : WX} {ρ ρh ρx : Ro} {ta : TE} {S L : Type} {ρn : S → Ro} {ρl : L → Ro}
theorem pu_isX {a : Addr} {c' : Str} {C : Addr} {v : V} {cv : Value} {tab : List (Str × Bool)} (ht : ∀ c b, tab.lookup c = some b → ∀ D, cl c = some D → ExcC K D ∧ PySem.W.kitOne K (.ref D) cv = some b) (hcl : cl c' = some C) (hv : ∀ u, RelV v u → u = cv)
    (ha : Pur K cl W ta ρ (.val (.er a))) : Pur K cl W (tCB (rIsX K (.ref C) none a) (tCons ta (tCons (tC v) tNil))) ρ (isX tab c') := fun O bs σ H Q R q => by
  refine ha O bs σ H _ R (fun v1 H1 s1 i1 => ?_)
  cases i1
  unfold isX at q
  split at q
  · next b e =>
    obtain ⟨k1, k2⟩ := ht _ _ e _ hcl
    exact ⟨C, rfl, rfl, k1, v, cv, b, rfl, hv, k2, q _ H1 s1 (.bl b)⟩
  · exact q.elim
def tryAsF {α : Type} (M : Res α) (hit : Str → Option Bool) (h : Str → Res α) : Res α := match M with
  | .exc c => match hit c with
    | some true => noX (h c)
    | some false => .exc c
    | none => .stuck
  | x => x
theorem FlOk.unset {i : Nat} {O bs A : List Addr} {H : Hp} {D : Ends} {f : Fl S L} (hn : ∀ s, unB (ρn s) i = true) (hl : ∀ s, unB (ρl s) i = true) (h : FlOk K cl O bs ρn ρl D A H f) :
    FlOk K cl O bs ρn ρl { nx := fun σ' H' => D.nx (σ'.set i none) H', rt := D.rt, bk := fun σ' H' => D.bk (σ'.set i none) H', ct := fun σ' H' => D.ct (σ'.set i none) H' } A H f := by
  cases f with
  | nx s => exact fun σ' H' g R => h _ H' (by rw [(adr_un (hn s)).1]; exact g) ((Rel.un1 (hn s)).mpr R)
  | bk s => exact fun σ' H' g R => h _ H' (by rw [(adr_un (hl s)).1]; exact g) ((Rel.un1 (hl s)).mpr R)
  | ct s => exact fun σ' H' g R => h _ H' (by rw [(adr_un (hl s)).1]; exact g) ((Rel.un1 (hl s)).mpr R)
  | rt v r => exact h
  | ro mo r => exact h
theorem run_tryAs {c : Value} {i : Nat} {ts : Addr → Value → Option Addr → TS} {tb : WX → TS} {M : Res (Fl S L)} {Mh : Str → Res (Fl S L)} {hit : Str → Option Bool} (hm : ∀ c' C b, cl c' = some C → hit c' = some b → PySem.W.exmOne K (.ref C) c = some b) (w : Wk ρh ρx) (hi : nad ρh i = true)
    (hn : ∀ s, unB (ρn s) i = true) (hl : ∀ s, unB (ρl s) i = true) (hb : ∀ W', Runs K cl W' (tb W') ρ M ρn ρl ρh)
    (hh : ∀ a c' C, cl c' = some C → Runs K cl (fun _ _ _ _ => False) (ts a (.ref C) none) (ρh.set i (.fz (.er a))) (Mh c') ρn ρl ρx) : Runs K cl W (fun D σ H => tb (wAs K c i ts W D) D σ H) ρ (tryAsF M hit Mh) ρn ρl ρx := fun O bs σ H D R hbs q => by
  refine hb _ O bs σ H D R hbs ?_
  cases M with
  | val f => exact q
  | stuck => exact q
  | exc c' =>
    intro C σ' H' e g R'
    replace q : wp (match hit c' with | some true => noX (Mh c') | some false => Res.exc c' | none => .stuck) (FlOk K cl O bs ρn ρl D (adr ρ σ) H) (ExOk K cl W O bs ρx (adr ρ σ) H) := q
    cases hc : hit c' with
    | none => rw [hc] at q; exact q.elim
    | some b =>
      rw [hc] at q
      refine ⟨b, hm c' C b e hc, fun hy a na => ?_, fun hn => ?_⟩
      · subst hy
        refine hh a c' C e O bs _ H' _ (R'.setfz hi (.er a)) hbs (wp_mono (wp_noX (E' := fun _ => False) q) (fun f z => ?_) fun _ z => z.elim)
        refine FlOk.unset hn hl (z.step ?_)
        rw [adr_setn hi]
        exact g
      · subst hn
        have q' : ExOk K cl W O bs ρx (adr ρ σ) H c' := q
        exact q' C σ' H' e (g.trans (Gr.wk w)) (R'.wk w)
end
/-! ### ranges with a step; max and min of lists; gcd, comb -/
theorem readsAll_ints {h : Heap} {its : List Value} {ns : List Int} (hi : PyProof.Rows.IntsAre its ns) : ReadsAll h its (ns.map PyData.int) [] := by
  induction hi with
  | nil => exact .nil
  | cons n t _ ih => exact .cons (as := []) (.int n t) ih
section
variable {K : PySem.W.Frag} {cl : Str → Option Addr} {W : WX} {ρ : Ro} {ta tb tc : TE} {ma mb mc : Res PV}
instance (i j c : Int) : Decidable (c ≠ 0 ∧ c.natAbs < 1073741824 ∧ Builtin.Range.small i j c = true) := by infer_instance
def stepP (i j c : Int) : List PV := (List.range (Builtin.Range.rangeSize i j c).toNat).map fun k => .int (i + (k : Nat) * c)
def rng3 : PV → PV → PV → Res (List PV)
  | .int i, .int j, .int c => if c ≠ 0 ∧ c.natAbs < 1073741824 ∧ Builtin.Range.small i j c = true then .val (stepP i j c) else .stuck
  | _, _, _ => .stuck
theorem rangeSize_nn (i j c : Int) : ((Builtin.Range.rangeSize i j c).toNat : Int) = Builtin.Range.rangeSize i j c := by
  have : 0 ≤ Builtin.Range.rangeSize i j c := by
    unfold Builtin.Range.rangeSize
    split
    · split
      · have := Int.ediv_nonneg (a := j - i - 1) (b := c) (by omega) (by omega); omega
      · decide
    · split
      · have := Int.ediv_nonneg (a := i - j - 1) (b := -c) (by omega) (by omega); omega
      · decide
  omega
theorem itOk_stepP {P : Hp → Prop} {F : Hp} {i j c : Int} : ItOk K cl P F (Itc i c (Builtin.Range.rangeSize i j c).toNat) (stepP i j c) := fun H B _ _ hB => by
  have hl : (stepP i j c).length = (Builtin.Range.rangeSize i j c).toNat := by unfold stepP; rw [List.length_map, List.length_range]
  refine ⟨by rw [hl]; exact Nat.le_refl _, fun k p hk => ?_⟩
  unfold stepP at hk
  rw [List.getElem?_map] at hk
  obtain ⟨k', e, rfl⟩ := Option.map_eq_some_iff.mp hk
  obtain ⟨h1, h2⟩ := List.getElem?_eq_some_iff.mp e
  rw [List.length_range] at h1
  rw [List.getElem_range] at h2
  subst h2
  refine ⟨h1, fun x H' hy => ?_⟩
  obtain ⟨rfl, rfl⟩ := hy
  exact ⟨.refl, .int _⟩
theorem it_rng3 (ha : Vw K cl W ta ρ ma) (hb : Vw K cl W tb ρ mb) (hc : Vw K cl W tc ρ mc) : Iter K cl W (iRng3 (tCons ta (tCons tb (tCons tc tNil)))) ρ (ma >>= fun x => mb >>= fun y => mc >>= fun z => rng3 x y z) := fun O bs σ H R r q => by
  refine ha O bs σ H _ r (wp_mono (wp_bind.mp q) (fun x qx v1 H1 s1 i1 => ?_) fun _ z => z)
  refine hb O bs σ H1 _ (r.same s1) (wp_mono (wp_bind.mp qx) (fun y qy v2 H2 s2 i2 => ?_) fun _ z => z.mono s1)
  have s12 := s1.trans s2
  refine hc O bs σ H2 _ (r.same s12) (wp_mono (wp_bind.mp qy) (fun z w v3 H3 s3 i3 => ?_) fun _ z => z.mono s12)
  unfold rng3 at w
  split at w
  · next i j c =>
    cases isV_int i1
    cases isV_int i2
    cases isV_int i3
    split at w
    · next cc => exact ⟨i, j, c, _, rfl, ⟨cc.1, cc.2.1, cc.2.2, (rangeSize_nn i j c).symm⟩, w _ H3 (s12.trans s3) itOk_stepP⟩
    · exact w.elim
  · exact w.elim
/-! max, min -/
def maxI (x : Int) (xs : List Int) : Int := xs.foldl (fun a b => if b > a then b else a) x
def minI (x : Int) (xs : List Int) : Int := xs.foldl (fun a b => if b < a then b else a) x
theorem maxI_spec : ∀ (xs : List Int) (x : Int), maxI x xs ∈ x :: xs ∧ ∀ y, y ∈ x :: xs → y ≤ maxI x xs
  | [], x => ⟨List.mem_cons_self, fun y h => by rcases List.mem_cons.mp h with rfl | h; exact Int.le_refl _; cases h⟩
  | a :: xs, x => by
    obtain ⟨h1, h2⟩ := maxI_spec xs (if a > x then a else x)
    have e : maxI x (a :: xs) = maxI (if a > x then a else x) xs := rfl
    rw [e]
    have h3 := h2 _ List.mem_cons_self
    refine ⟨?_, fun y hy => ?_⟩
    · rcases List.mem_cons.mp h1 with c | c
      · rw [c]; split
        · exact List.mem_cons_of_mem _ List.mem_cons_self
        · exact List.mem_cons_self
      · exact List.mem_cons_of_mem _ (List.mem_cons_of_mem _ c)
    · rcases List.mem_cons.mp hy with rfl | hy
      · split at h3 <;> split <;> omega
      · rcases List.mem_cons.mp hy with rfl | hy
        · split at h3 <;> split <;> omega
        · exact h2 y (List.mem_cons_of_mem _ hy)
theorem minI_spec : ∀ (xs : List Int) (x : Int), minI x xs ∈ x :: xs ∧ ∀ y, y ∈ x :: xs → minI x xs ≤ y
  | [], x => ⟨List.mem_cons_self, fun y h => by rcases List.mem_cons.mp h with rfl | h; exact Int.le_refl _; cases h⟩
  | a :: xs, x => by
    obtain ⟨h1, h2⟩ := minI_spec xs (if a < x then a else x)
    have e : minI x (a :: xs) = minI (if a < x then a else x) xs := rfl
    rw [e]
    have h3 := h2 _ List.mem_cons_self
    refine ⟨?_, fun y hy => ?_⟩
    · rcases List.mem_cons.mp h1 with c | c
      · rw [c]; split
        · exact List.mem_cons_of_mem _ List.mem_cons_self
        · exact List.mem_cons_self
      · exact List.mem_cons_of_mem _ (List.mem_cons_of_mem _ c)
    · rcases List.mem_cons.mp hy with rfl | hy
      · split at h3 <;> split <;> omega
      · rcases List.mem_cons.mp hy with rfl | hy
        · split at h3 <;> split <;> omega
        · exact h2 y (List.mem_cons_of_mem _ hy)
def maxLP (p : PV) : Res PV := asLi p >>= fun ps => match allI ps with
  | some (x :: xs) => .val (.int (maxI x xs))
  | _ => .stuck
def minLP (p : PV) : Res PV := asLi p >>= fun ps => match allI ps with
  | some (x :: xs) => .val (.int (minI x xs))
  | _ => .stuck
theorem b1_maxL : Bi1 K cl (rMax K) maxLP := fun A H x p Q E hA ix w => by
  obtain ⟨a, vs, ps, rfl, hs, hl, w⟩ := wp_asLi (wp_bind.mp w) ix
  split at w
  · next y ys e =>
    cases allI_eq e
    cases hl.ints
    refine ⟨a, y :: ys, rfl, hs, Nat.succ_pos _, fun m h1 h2 => ?_⟩
    obtain ⟨k1, k2⟩ := maxI_spec ys y
    have : m = maxI y ys := Int.le_antisymm (k2 m h1) (h2 _ k1)
    subst this
    exact w _ H .refl (.int _)
  · exact w.elim
theorem b1_minL : Bi1 K cl (rMin K) minLP := fun A H x p Q E hA ix w => by
  obtain ⟨a, vs, ps, rfl, hs, hl, w⟩ := wp_asLi (wp_bind.mp w) ix
  split at w
  · next y ys e =>
    cases allI_eq e
    cases hl.ints
    refine ⟨a, y :: ys, rfl, hs, Nat.succ_pos _, fun m h1 h2 => ?_⟩
    obtain ⟨k1, k2⟩ := minI_spec ys y
    have : m = minI y ys := Int.le_antisymm (h2 _ k1) (k2 m h1)
    subst this
    exact w _ H .refl (.int _)
  · exact w.elim
theorem cr_maxK (K : PySem.W.Frag) {X : Cx} (e : X.K = K) (hc : X.calm = true) : CallR X (.builtin "max") (rMax K) := by subst e; exact cr_max hc
theorem cr_minK' (K : PySem.W.Frag) {X : Cx} (e : X.K = K) (hc : X.calm = true) : CallR X (.builtin "min") (rMin K) := by subst e; exact cr_min hc
/-- max(xs, default = d) -/
def rMaxDf (K : PySem.W.Frag) : List V → List V → Hp → VK → Prop := fun xs ws H Q => ∃ (a : Addr) (ns : List Int) (d : V), xs = [.ref a] ∧ ws = [d] ∧ SqL K H a (ns.map V.int) ∧ (ns = [] → Q d H) ∧ ∀ y ys, ns = y :: ys → Q (.int (maxI y ys)) H
theorem maxOf_int (x : Int) (xs : List Int) : PySem.W.maxOf x xs = maxI x xs := by
  unfold PySem.W.maxOf maxI
  induction xs generalizing x with
  | nil => rfl
  | cons y ys ih =>
    rw [List.foldl_cons, List.foldl_cons]
    have e : (if PySem.W.DatumOrd.lt x y = true then y else x) = if y > x then y else x := by
      show (if decide (x < y) = true then y else x) = _
      by_cases c : x < y
      · rw [decide_eq_true c, if_pos rfl, if_pos c]
      · rw [decide_eq_false c, if_neg (by decide), if_neg c]
    rw [e]
    exact ih _
theorem cr_maxDf (K : PySem.W.Frag) {X : Cx} (e : X.K = K) (hc : X.calm = true) (hu : X.A.units + 64 < cLine) : CallRK X (.builtin "max") ["default"] (rMaxDf K) := by
  subst e
  intro pins s σ H xs zs us ws Q I r1 r2 h
  obtain ⟨a, ns, d, rfl, rfl, hs, h0, hm⟩ := h
  obtain ⟨its, rv, hl, _⟩ := I.list hs
  rw [Vals.ref1 r1]
  cases r2 with
  | cons rd rr =>
    cases rr
    refine PySem.W.max_list_datum_default (I.ok.hd hc) hl.isList ⟨[], readsAll_ints rv.ints⟩ (by show X.A.units + 1 + 0 < cLine; omega) (fun e h' tk hk => ⟨d, H, I.kept hk, rd, h0 e⟩) fun y ys i v h' tk e hi hh hk => ?_
    obtain ⟨as, hr⟩ := hh
    rw [maxOf_int] at hr
    cases hr with
    | int n t => exact ⟨.int _, H, I.kept hk, ⟨_, rfl⟩, hm y ys e⟩
def maxDfP (p d : PV) : Res PV := asLi p >>= fun ps => match allI ps with
  | some [] => .val d
  | some (x :: xs) => .val (.int (maxI x xs))
  | none => .stuck
theorem pu_maxDf {ta tb : TE} {ma mb : Res PV} (ha : Vw K cl W ta ρ ma) (hb : Pur K cl W tb ρ mb) : Pur K cl W (tCKw (rMaxDf K) (tCons ta tNil) (tCons tb tNil)) ρ (ma >>= fun x => mb >>= fun y => maxDfP x y) := fun O bs σ H Q R q => by
  refine ha O bs σ H _ R (wp_mono (wp_bind.mp q) (fun x qx v1 H1 s1 i1 => ?_) fun _ z => z)
  refine hb O bs σ H1 _ (R.same s1) (wp_mono (wp_bind.mp qx) (fun y w v2 H2 s2 i2 => ?_) fun _ z => z.mono s1)
  have s12 := s1.trans s2
  obtain ⟨a, vs, ps, rfl, hs, hl, w⟩ := wp_asLi (wp_bind.mp w) (i1.mono (frz_same (A := O ++ adr ρ σ) s2) s2)
  split at w
  · next e =>
    cases allI_eq e
    cases hl.ints
    exact ⟨a, [], v2, rfl, rfl, hs, fun _ => w _ H2 s12 i2, fun _ _ e => nomatch e⟩
  · next y ys e =>
    cases allI_eq e
    cases hl.ints
    exact ⟨a, y :: ys, v2, rfl, rfl, hs, (fun e => nomatch e), fun y' ys' e => by cases e; exact w _ H2 s12 (.int _)⟩
  · exact w.elim
def gcdP : PV → PV → Res PV := ints2 fun i j => .val (.int ((Nat.gcd i.natAbs j.natAbs : Nat) : Int))
def rComb : List V → Hp → VK → Prop := fun vs H Q => ∃ a b : Int, vs = [.int a, .int b] ∧ 0 ≤ a ∧ 0 ≤ b ∧ a ≤ 18000 ∧ Q (.int (PySem.W.mcComb a b)) H
theorem cr_comb {X : Cx} : CallR X (.builtin "math.comb") rComb := by
  intro pins s σ H vs us Q I r h
  obtain ⟨a, b, rfl, h1, h2, h3, q⟩ := h
  obtain ⟨t, u, rfl⟩ := Vals.int2 r
  exact PySem.W.mc_comb h1 h2 (by omega) (.inr h3) fun _ => ⟨.int _, H, I.tok _, ⟨_, rfl⟩, q⟩
def combP : PV → PV → Res PV
  | .int i, .int j => if 0 ≤ i ∧ 0 ≤ j ∧ i ≤ 18000 then .val (.int (PySem.W.mcComb i j)) else .stuck
  | _, _ => .stuck
theorem b2_comb : Bi2 K cl rComb combP := fun A H x y p q Q E hA ix iy w => by
  unfold combP at w
  split at w
  · cases isV_int ix
    cases isV_int iy
    split at w
    · next c => exact ⟨_, _, rfl, c.1, c.2.1, c.2.2, w _ H .refl (.int _)⟩
    · exact w.elim
  · exact w.elim
theorem b2_gcd : Bi2 K cl rGcd gcdP := fun A H x y p q Q E hA ix iy w => by
  unfold gcdP ints2 at w
  split at w
  · cases isV_int ix
    cases isV_int iy
    exact ⟨_, _, rfl, w _ H .refl (.int _)⟩
  · exact w.elim
/-! tuple(range(a, b, c)) -/
def tTupRg3 (ta tb tc : TE) : TE := fun σ H Q => ta σ H fun x H1 => tb σ H1 fun y H2 => tc σ H2 fun z H3 => ∃ (i j c : Int) (n : Nat), x = .int i ∧ y = .int j ∧ z = .int c ∧ RgC i j c n ∧ n ≤ 10000000 ∧ ∀ q, H3 q = none → Q (.ref q) (upd H3 q (.tup ((List.range n).map fun k => .int (i + (k : Nat) * c))))
end
section
open PySem.Spec PyProof.Rows
variable {X : Cx} {a b c : Expr} {ta tb tc : TE}
theorem vals_of {f : Nat → Int} {acc : Array Value} {n : Nat} (h : ItemsOf (fun i v => ∃ t, v = .int (f i) t) acc n) : Vals ((List.range n).map fun k => V.int (f k)) acc.toList := by
  have e : acc.toList.length = n := by rw [Array.length_toList]; exact h.1
  rw [← e]
  refine vals_of_get acc.toList _ fun j u hj => ?_
  obtain ⟨t, rfl⟩ := h.2 j u (by rw [← hj, Array.getElem?_toList])
  exact ⟨t, rfl⟩
theorem prg_3 {p2 pos2 : Pos} {pins : List (Addr × Obj)} {s : Shared} {σ : L2.St} {H : Hp} {Q : Int → Int → Int → Nat → Hp → Prop} (hg2 : Gl X "range") (hm2 : X.mg "range" = none) (ha : PE X a ta) (hb : PE X b tb) (hcc : PE X c tc)
    (na : starEach [a, b, c] X.env = (false, eval a X.env) :: starEach [b, c] X.env) (nb : starEach [b, c] X.env = (false, eval b X.env) :: starEach [c] X.env) (nc : starEach [c] X.env = (false, eval c X.env) :: starEach [] X.env)
    (hp : (backTo pos2 (starEach [b, c] X.env)).any (·.1) = false) (I : L2.Inv X pins σ H s)
    (h : ta σ H fun x H1 => tb σ H1 fun y H2 => tc σ H2 fun z H3 => ∃ (i j c : Int) (n : Nat), x = .int i ∧ y = .int j ∧ z = .int c ∧ RgC i j c n ∧ Q i j c n H3) :
    wpAny (model X.prog X.w) X.A (eval (.Call (.Name "range" p2) [a, b, c] [] pos2) X.env) (fun x s' => ∃ r i j c n t u v H', x = .ref r ∧ IsRange s'.heap r i j c t u v ∧ Inv X pins σ H' s' ∧ RgC i j c n ∧ Q i j c n H') X.xe s := by
  refine Call_ (ld_blt I hg2 hm2 boot_range (PyProof.Rows.callWith_type1 (args_cons (thn (ha.run pins s σ H _ I h) fun v1 s1 ⟨x, H1, I1, r1, q1⟩ => args_cons (thn (hb.run pins s1 σ H1 _ I1 q1) fun v2 s2 ⟨y, H2, I2, r2, q2⟩ => one_arg hcc I2 q2 (fun v3 s3 z H3 I3 r3 q => ?_) nc) nb) na) na hp))
  obtain ⟨i, j, k, n, rfl, rfl, rfl, rc, q⟩ := q
  obtain ⟨t, rfl⟩ := r1
  obtain ⟨u, rfl⟩ := r2
  obtain ⟨v, rfl⟩ := r3
  exact call_range_3 rc.1 ⟨_, i, j, k, n, _, _, _, H3, rfl, IsRange.new _ _ _ _ _ _ _, I3.kept fun b u e => Heap.get?_push_of_some _ e, rc, q⟩ (.inl (PyProof.noPylong_small rc.2.1))
theorem pe_tupRg3 {p p2 pos pos2 : Pos} (hc : X.calm = true) (hg : Gl X "tuple") (hm : X.mg "tuple" = none) (hg2 : Gl X "range") (hm2 : X.mg "range" = none) (ha : PE X a ta) (hb : PE X b tb) (hcc : PE X c tc)
    (na : starEach [a, b, c] X.env = (false, eval a X.env) :: starEach [b, c] X.env := by rfl) (nb : starEach [b, c] X.env = (false, eval b X.env) :: starEach [c] X.env := by rfl) (nc : starEach [c] X.env = (false, eval c X.env) :: starEach [] X.env := by rfl)
    (hp : (backTo pos2 (starEach [b, c] X.env)).any (·.1) = false := by rfl)
    (nr : starEach [Expr.Call (.Name "range" p2) [a, b, c] [] pos2] X.env = (false, eval (.Call (.Name "range" p2) [a, b, c] [] pos2) X.env) :: starEach [] X.env := by rfl) :
    PE X (.Call (.Name "tuple" p) [.Call (.Name "range" p2) [a, b, c] [] pos2] [] pos) (tTupRg3 ta tb tc) := by
  refine ⟨fun pins s σ H Q I h => ?_⟩
  refine Call_ (ld_blt I hg hm boot_tuple (PyProof.Rows.callWith_type1 (args_cons (thn (prg_3 hg2 hm2 ha hb hcc na nb nc hp I (Q := fun i j c n H3 => n ≤ 10000000 ∧ ∀ q, H3 q = none → Q (.ref q) (upd H3 q (.tup ((List.range n).map fun k => .int (i + (k : Nat) * c)))) ) h) fun x s1 ⟨r, i, j, k, n, t, u, v, H1, ex, hr, I1, rc, hn, q⟩ => args_nil ?_) nr) nr))
  subst ex
  refine call_tuple_range (n := n) (I1.ok.hd hc) hr rc.2.2.1 rc.2.2.2 (Nat.le_trans hn (by decide)) fun h' tk acc hk hi => ?_
  have I2 : Inv X pins σ H1 { s1 with heap := h', toks := tk } := I1.kept hk
  refine ⟨.ref h'.objs.size, upd H1 h'.objs.size (.tup _), I2.laid (t' := tk) (fun c o e => Heap.get?_push_of_some _ e) (Nat.le_refl _) (show ObjOk X.prog X.w _ _ _ (.tup ((List.range n).map fun k' => .int (i + (k' : Nat) * k))) from ⟨?_, acc.toList, vals_of (f := fun k' => i + (k' : Nat) * k) hi, ?_⟩), rfl, q _ (I2.hok.fresh (Nat.le_refl _))⟩
  · rw [List.length_map, List.length_range, sizeLine_eq]; omega
  · rw [Array.toArray_toList]; exact IsTup.new _ _
end
section
variable {K : PySem.W.Frag} {cl : Str → Option Addr} {W : WX} {ρ : Ro} {ta tb tc : TE} {ma mb mc : Res PV}
def tupRg3 : PV → PV → PV → Res PV
  | .int i, .int j, .int c => if (c ≠ 0 ∧ c.natAbs < 1073741824 ∧ Builtin.Range.small i j c = true) ∧ (stepP i j c).length ≤ 10000000 then .val (.tup (stepP i j c)) else .stuck
  | _, _, _ => .stuck
theorem pu_tupRg3 (ha : Pur K cl W ta ρ ma) (hb : Pur K cl W tb ρ mb) (hc : Pur K cl W tc ρ mc) : Pur K cl W (tTupRg3 ta tb tc) ρ (ma >>= fun x => mb >>= fun y => mc >>= fun z => tupRg3 x y z) := fun O bs σ H Q R q => by
  refine ha O bs σ H _ R (wp_mono (wp_bind.mp q) (fun x qx v1 H1 s1 i1 => ?_) fun _ z => z)
  refine hb O bs σ H1 _ (R.same s1) (wp_mono (wp_bind.mp qx) (fun y qy v2 H2 s2 i2 => ?_) fun _ z => z.mono s1)
  have s12 := s1.trans s2
  refine hc O bs σ H2 _ (R.same s12) (wp_mono (wp_bind.mp qy) (fun z w v3 H3 s3 i3 => ?_) fun _ z => z.mono s12)
  have s13 := s12.trans s3
  unfold tupRg3 at w
  split at w
  · next i j c =>
    cases i1
    cases i2
    cases i3
    split at w
    · next cc =>
      refine ⟨i, j, c, _, rfl, rfl, rfl, ⟨cc.1.1, cc.1.2.1, cc.1.2.2, (rangeSize_nn i j c).symm⟩, ?_, fun p hp => w _ _ (s13.trans (sub_new hp _)) (new_tup (fun a h => (R.same s13).got h) hp ?_)⟩
      · have := cc.2
        unfold stepP at this
        rwa [List.length_map, List.length_range] at this
      · have := IsL.of_ints (K := K) (cl := cl) (F := frz (fun a => H3 a) (O ++ adr ρ σ)) ((List.range (Builtin.Range.rangeSize i j c).toNat).map fun k => i + (k : Nat) * c)
        rw [List.map_map, List.map_map] at this
        exact this
    · exact w.elim
  · exact w.elim
end
/-! ### len(set(list of ints)) -/
theorem step_dd {l : List Int} {x : Int} : PyProof.Rows.step_dedup l x = if x ∈ l then l else l ++ [x] := by
  unfold PyProof.Rows.step_dedup
  have e : (l.any fun y => y == x) = decide (x ∈ l) := by
    rw [Bool.eq_iff_iff, List.any_eq_true, decide_eq_true_eq]
    constructor
    · rintro ⟨y, hy, e⟩
      exact eq_of_beq e ▸ hy
    · exact fun h => ⟨x, h, beq_self_eq_true x⟩
  rw [e]
  by_cases c : x ∈ l
  · rw [decide_eq_true c, if_pos rfl, if_pos c]
  · rw [decide_eq_false c, if_neg (by decide), if_neg c]
theorem fold_dd : ∀ (ns acc : List Int), acc.Nodup → (ns.foldl PyProof.Rows.step_dedup acc).Nodup ∧ ∀ x, x ∈ ns.foldl PyProof.Rows.step_dedup acc ↔ x ∈ acc ∨ x ∈ ns
  | [], acc, h => ⟨h, fun x => by simp⟩
  | n :: ns, acc, h => by
    rw [List.foldl_cons, step_dd]
    by_cases c : n ∈ acc
    · rw [if_pos c]
      obtain ⟨h1, h2⟩ := fold_dd ns acc h
      refine ⟨h1, fun x => ?_⟩
      rw [h2, List.mem_cons]
      constructor
      · rintro (z | z)
        · exact .inl z
        · exact .inr (.inr z)
      · rintro (z | rfl | z)
        · exact .inl z
        · exact .inl c
        · exact .inr z
    · rw [if_neg c]
      obtain ⟨h1, h2⟩ := fold_dd ns (acc ++ [n]) (by
        rw [List.nodup_append]
        refine ⟨h, List.nodup_cons.mpr ⟨(fun z => nomatch z), List.nodup_nil⟩, fun a ha b hb => ?_⟩
        rcases List.mem_cons.mp hb with rfl | hb
        · exact fun z => c (z ▸ ha)
        · cases hb)
      refine ⟨h1, fun x => ?_⟩
      rw [h2, List.mem_append, List.mem_cons, List.mem_cons]
      constructor
      · rintro ((z | z | z) | z)
        · exact .inl z
        · exact .inr (.inl z)
        · cases z
        · exact .inr (.inr z)
      · rintro (z | z | z)
        · exact .inl (.inl z)
        · exact .inl (.inr (.inl z))
        · exact .inr z
theorem firstMet_len (ns : List Int) : (PyProof.Rows.firstMet (fun i => ns.getD i 0) ns.length).length = (dedupI ns).length := by
  have e : (List.range ns.length).map (fun i => ns.getD i 0) = ns := List.ext_getElem (by rw [List.length_map, List.length_range]) fun i h1 h2 => by
    rw [List.getElem_map, List.getElem_range, List.getD_eq_getElem?_getD, List.getElem?_eq_getElem h2]
    rfl
  unfold PyProof.Rows.firstMet
  rw [e]
  obtain ⟨h1, h2⟩ := fold_dd ns [] List.nodup_nil
  refine List.Perm.length_eq ((List.perm_ext_iff_of_nodup h1 nodup_dedupI).mpr fun x => ?_)
  rw [h2, mem_dedupI]
  simp
section
open PySem.Spec PyProof.Rows
variable {X : Cx}
def tLenSetV (K : PySem.W.Frag) (ta : TE) : TE := fun σ H Q => ta σ H fun x H1 => ∃ (l : Addr) (ns : List Int), x = V.ref l ∧ (SqT K H1 l (ns.map V.int) ∨ SqL K H1 l (ns.map V.int)) ∧ ns.length < 1000 ∧ Q (.int ((dedupI ns).length : Nat)) H1
theorem pe_lenSetV (K : PySem.W.Frag) (eK : X.K = K) {a : Expr} {ta : TE} {p p2 q pos : Pos} (hc : X.calm = true) (hg : Gl X "len") (hm : X.mg "len" = none) (hg2 : Gl X "set") (hm2 : X.mg "set" = none) (ha : PE X a ta)
    (na : starEach [a] X.env = (false, eval a X.env) :: starEach [] X.env := by rfl) : PE X (.Call (.Name "len" p) [.Call (.Name "set" p2) [a] [] q] [] pos) (tLenSetV K ta) := by
  subst eK
  refine ⟨fun pins s σ H Q I h => ?_⟩
  refine Call_ (ld_blt I hg hm PySem.boot_len ?_)
  refine PyProof.Rows.callWith_builtin1 (PyProof.Rows.args_cons ?_ rfl) rfl rfl
  refine Call_ (ld_blt I hg2 hm2 PyProof.Rows.boot_set ?_)
  refine PyProof.Rows.callWith_type1 (PyProof.Rows.args_cons (thn (ha.run pins s σ H _ I h) fun v s1 ⟨x, H1, I1, r1, q1⟩ => PyProof.Rows.args_nil ?_) na) na rfl
  obtain ⟨l, ns, rfl, hq, h1, q1⟩ := q1
  cases r1
  have hle := dedupI_le (l := ns)
  rcases hq with hq | hq
  · obtain ⟨its, rv, pt, hz⟩ := I1.tuple hq
    refine call_set_tupI ns (I1.ok.hd hc) (show s1.heap.IsTuple l its.toArray from pt) (ints_of_vals rv) (by unfold scanBound; omega) fun h' tk c hS hcn hk => ?_
    refine PyProof.Rows.args_nil ?_
    obtain ⟨o, es, ep, t, ho, hex, hd, hg1, hnd, hmem, hb, hf, hn, _, _⟩ := hS
    have I2 : Inv X pins σ H1 { s1 with heap := h', toks := tk } := I1.kept fun b o e => hk b o e
    have hpm : (es.toList.map keyOf).Perm (dedupI ns) := (List.perm_ext_iff_of_nodup hnd nodup_dedupI).mpr fun k => by
      rw [← hmem k, mem_dedupI, decide_eq_true_eq]
    have hsz : es.size = (dedupI ns).length := by
      have := hpm.length_eq
      rwa [List.length_map, Array.length_toList] at this
    refine call_len_set ho hex hd hf (by rw [hsz]; omega) ⟨.int ((dedupI ns).length : Nat), H1, I2.tok _, ⟨_, by rw [hsz]⟩, q1⟩
  · obtain ⟨its, r, pl, hz⟩ := I1.list hq
    have hl : its.toArray.size = ns.length := by rw [List.size_toArray, ← r.length, List.length_map]
    refine call_set_list (I1.ok.hd hc) pl.isList (ns := ns) (by simpa using r.ints) (by unfold scanBound; omega) fun h' tk hS hk => ?_
    rw [hl, firstMet_len] at hS
    refine PyProof.Rows.args_nil ?_
    obtain ⟨o, es, ep, t, ho, hex, hd, _, _, _, hf, hn⟩ := hS
    have I2 : Inv X pins σ H1 { s1 with heap := h', toks := tk } := I1.kept fun b o e => hk b o (Heap.lt_size e) e
    refine call_len_set ho hex hd hf (by rw [hn] <;> omega) ⟨.int ((dedupI ns).length : Nat), H1, I2.tok _, ⟨_, by rw [hn]⟩, q1⟩
end
section
variable {K : PySem.W.Frag} {cl : Str → Option Addr} {W : WX} {ρ : Ro} {ta : TE} {m : Res PV}
def lenSetV : PV → Res PV
  | .tup ps => match allI ps with
    | some is => if is.length < 1000 then .val (.int ((dedupI is).length : Nat)) else .stuck
    | none => .stuck
  | .lst ps => match allI ps with
    | some is => if is.length < 1000 then .val (.int ((dedupI is).length : Nat)) else .stuck
    | none => .stuck
  | _ => .stuck
theorem pu_lenSetV (ha : Pur K cl W ta ρ m) : Pur K cl W (tLenSetV K ta) ρ (m >>= lenSetV) := fun O bs σ H Q R q => by
  refine ha O bs σ H _ R (wp_mono (wp_bind.mp q) (fun x qx v1 H1 s1 i1 => ?_) fun _ z => z)
  unfold lenSetV at qx
  split at qx
  · next ps =>
    split at qx
    · next is e =>
      split at qx
      · next c =>
        cases i1 with
        | tup hs hl =>
          cases allI_eq e
          cases hl.ints
          exact ⟨_, is, rfl, .inl (frz_sub.sqT hs), c, qx _ H1 s1 (.int _)⟩
      · exact qx.elim
    · exact qx.elim
  · next ps =>
    split at qx
    · next is e =>
      split at qx
      · next c =>
        cases i1 with
        | lst hs hl =>
          cases allI_eq e
          cases hl.ints
          exact ⟨_, is, rfl, .inr (.inl (.inl (frz_sub _ _ hs))), c, qx _ H1 s1 (.int _)⟩
      · exact qx.elim
    · exact qx.elim
  · exact qx.elim
end
/-! ### zip of two or three sequences, lists or tuples in any mixture: the machine -/
section
open PySem.Spec PyProof.Rows
structure Cp where
  b : Bool
  i : Addr
  l : Addr
  xs : Array Value
def Cp.it (c : Cp) (h : Heap) (k : Nat) : Prop := if c.b = true then h.IsListIter c.i c.l k else h.IsTupleIter c.i c.l k
def Cp.sq (c : Cp) (h : Heap) : Prop := if c.b = true then h.IsList c.l c.xs else h.IsTuple c.l c.xs
theorem Cp.it_at {c : Cp} {h h' : Heap} {k : Nat} (x : c.it h k) (e : h'.get? c.i = h.get? c.i) : c.it h' k := by
  unfold Cp.it at x ⊢
  split at x
  · next hb => rw [if_pos hb]; exact x.at fun o q => e.trans q
  · next hb => rw [if_neg hb]; exact x.at fun o q => e.trans q
theorem Cp.it_to {c : Cp} {h h' : Heap} {k : Nat} (x : c.it h k) (e : ∀ o, h.get? c.i = some o → h'.get? c.i = some o) : c.it h' k := by
  unfold Cp.it at x ⊢
  split at x
  · next hb => rw [if_pos hb]; exact x.at e
  · next hb => rw [if_neg hb]; exact x.at e
theorem Cp.sq_at {c : Cp} {h h' : Heap} (x : c.sq h) (e : h'.get? c.l = h.get? c.l) : c.sq h' := by
  unfold Cp.sq at x ⊢
  split at x
  · next hb => rw [if_pos hb]; exact x.at fun o q => e.trans q
  · next hb => rw [if_neg hb]; exact x.at fun o q => e.trans q
theorem Cp.it_obj {c : Cp} {h : Heap} {k : Nat} (x : c.it h k) : ∃ o fs, h.get? c.i = some o ∧ o.data = .fields fs := by
  unfold Cp.it at x
  split at x
  · obtain ⟨o, e, _, d⟩ := x; exact ⟨o, _, e, d⟩
  · obtain ⟨o, e, _, d⟩ := x; exact ⟨o, _, e, d⟩
section
variable {prog : Program} {w : World} {A : Around} {E : Value → Shared → Prop} {s : Shared}
theorem Cp.next {c : Cp} {k : Nat} {x : Value} {Q : Value → Shared → Prop} (hit : c.it s.heap k) (hl : c.sq s.heap) (hx : c.xs[k]? = some x)
    (hQ : ∀ h', c.it h' (k + 1) → Heap.SameBut c.i s.heap h' → Q x { s with heap := h' }) : wpAny (model prog w) A (Builtin.SmallTypes.nextOf (.ref c.i)) Q E s := by
  unfold Cp.it at hit hQ
  unfold Cp.sq at hl
  by_cases hb : c.b = true
  · rw [if_pos hb] at hit hl
    exact wpAny_nextOf_list_item hit hl hx fun h' a b => hQ h' (by rw [if_pos hb]; exact a) b
  · rw [if_neg hb] at hit hl
    exact RZ.nextOf_tuple_item hit hl hx fun h' a b => hQ h' (by rw [if_neg hb]; exact a) b
theorem Cp.stop {c : Cp} {k : Nat} {Q : Value → Shared → Prop} (hh : A.handled = none) (hit : c.it s.heap k) (hl : c.sq s.heap) (hx : c.xs[k]? = none)
    (hE : ∀ h' e, Heap.ExtBut c.i s.heap h' → (∃ o, h'.get? e = some o ∧ o.cls = .type "StopIteration") → E (.ref e) { s with heap := h' }) : wpAny (model prog w) A (Builtin.SmallTypes.nextOf (.ref c.i)) Q E s := by
  unfold Cp.it at hit
  unfold Cp.sq at hl
  by_cases hb : c.b = true
  · rw [if_pos hb] at hit hl
    exact wpAny_nextOf_list_end hh hit hl hx hE
  · rw [if_neg hb] at hit hl
    exact RZ.nextOf_tuple_end hh hit hl hx hE
/-- the tuple at T -/
abbrev TupAt (h : Heap) (T : Addr) (a : Array Value) : Prop := h.get? T = some { cls := .type "tuple", data := .seq a }
theorem put_tup {T : Addr} {a b c x : Value} {k : Nat} {Q : Unit → Shared → Prop} (hT : TupAt s.heap T #[a, b, c])
    (h : ∀ h', TupAt h' T ((#[a, b, c] : Array Value).setIfInBounds k x) → Heap.SameBut T s.heap h' → Q () { s with heap := h' }) : wpAny (model prog w) A (updateSeq T (·.setIfInBounds k x)) Q E s := by
  refine wpAny_updateSeq hT rfl (h _ ?_ (Heap.SameBut.update ..))
  unfold TupAt
  rw [Heap.get?_update_self _ hT rfl]
  simp [Obj.mapSeq]
/-- addresses of a zip of three -/
structure Ap3 (z TI TO : Addr) (c1 c2 c3 : Cp) : Prop where
  tz : TI ≠ z
  oz : TO ≠ z
  to : TI ≠ TO
  z1 : c1.i ≠ z
  z2 : c2.i ≠ z
  z3 : c3.i ≠ z
  t1 : c1.i ≠ TI
  t2 : c2.i ≠ TI
  t3 : c3.i ≠ TI
  o1 : c1.i ≠ TO
  o2 : c2.i ≠ TO
  o3 : c3.i ≠ TO
  n12 : c1.i ≠ c2.i
  n13 : c1.i ≠ c3.i
  n23 : c2.i ≠ c3.i
  ls : ∀ l, l = c1.l ∨ l = c2.l ∨ l = c3.l → l ≠ z ∧ l ≠ TO ∧ l ≠ c1.i ∧ l ≠ c2.i ∧ l ≠ c3.i
/-- kept but at these places -/
def Kb (S : List Addr) (h h' : Heap) : Prop := h'.objs.size = h.objs.size ∧ ∀ a, a ∉ S → h'.get? a = h.get? a
theorem Kb.of {i : Addr} {h h' : Heap} (x : Heap.SameBut i h h') : Kb [i] h h' := ⟨x.1, fun a ha => x.2 a fun e => ha (e ▸ List.mem_cons_self)⟩
theorem Kb.step {S : List Addr} {i : Addr} {h h1 h' : Heap} (x : Kb S h h1) (y : Heap.SameBut i h1 h') : Kb (i :: S) h h' := ⟨y.1.trans x.1, fun a ha => (y.2 a fun e => ha (e ▸ List.mem_cons_self)).trans (x.2 a fun e => ha (List.mem_cons_of_mem _ e))⟩
theorem zip3_item {z TI TO : Addr} {c1 c2 c3 : Cp} {k : Nat} {x y u : Value} {a : Array Value} {Q : Value → Shared → Prop} (D : Ap3 z TI TO c1 c2 c3)
    (hz : IsZip s.heap z TI TO .none) (hTI : TupAt s.heap TI #[.ref c1.i, .ref c2.i, .ref c3.i]) (hTO : TupAt s.heap TO a) (ha : a.size = 3)
    (h1 : c1.it s.heap k) (h2 : c2.it s.heap k) (h3 : c3.it s.heap k) (l1 : c1.sq s.heap) (l2 : c2.sq s.heap) (l3 : c3.sq s.heap) (hx : c1.xs[k]? = some x) (hy : c2.xs[k]? = some y) (hu : c3.xs[k]? = some u)
    (hQ : ∀ h', IsZip h' z TI TO (rawInt s.heap.objs.size) → TupAt h' TO #[x, y, u] → c1.it h' (k + 1) → c2.it h' (k + 1) → c3.it h' (k + 1) → TupAt h' s.heap.objs.size #[x, y, u] → h'.objs.size = s.heap.objs.size + 1 →
      (∀ c o, c ≠ z → c ≠ TO → c ≠ c1.i → c ≠ c2.i → c ≠ c3.i → s.heap.get? c = some o → h'.get? c = some o) → Q (.ref s.heap.objs.size) { s with heap := h' }) :
    wpAny (model prog w) A (Builtin.«zip.__next__» ⟨[.ref z], []⟩) (fun fin s' => ∃ v, fin = .done (.ret v) ∧ Q v s') E s := by
  obtain ⟨a0, a1, a2, rfl⟩ : ∃ a0 a1 a2, a = #[a0, a1, a2] := by
    obtain ⟨l⟩ := a
    match l, ha with
    | [a0, a1, a2], _ => exact ⟨a0, a1, a2, rfl⟩
  show wpAny _ _ (field (.ref z) 2 >>= _) _ _ _
  refine wpAny_bind (wpAny_field hz rfl (x := .bool false) rfl ?_)
  show wpAny _ _ (field (.ref z) 3 >>= _) _ _ _
  refine wpAny_bind (wpAny_field hz rfl (x := .ref TI) rfl (wpAny_bind (wpAny_seqItems hTI rfl ?_)))
  show wpAny _ _ (Builtin.SmallTypes.ownedTupleIsFree (.ref z) >>= _) _ _ _
  refine wpAny_bind ?_
  unfold Builtin.SmallTypes.ownedTupleIsFree
  refine wpAny_bind (wpAny_field hz rfl (x := .none) rfl (wpAny_pure ?_))
  simp only [if_true]
  refine wpAny_bind (wpAny_rule (wpAny_bind (wpAny_field hz rfl (x := .ref TO) rfl (wpAny_bind (wpAny_setField_rec hz (by simp) fun g1 hz1 s1 => ?_)))))
  replace hz1 : IsZip g1 z TI TO .ellipsis := hz1
  have K1 := Kb.of s1
  refine wpAny_bind ?_
  simp only [List.zipIdx_cons, List.zipIdx_nil, List.forIn_cons, List.forIn_nil]
  -- the first
  refine wpAny_bind (wpAny_bind (wpAny_onRaise ?_))
  show wpAny _ _ (Builtin.SmallTypes.nextOf (.ref c1.i) >>= _) _ _ _
  refine wpAny_bind (Cp.next (Cp.it_at h1 (K1.2 _ (by simp [D.z1]))) (Cp.sq_at l1 (K1.2 _ (by have := D.ls c1.l (.inl rfl); simp [this.1]))) hx fun g2 i1 s2 => wpAny_pure ?_)
  have K2 := K1.step s2
  have O2 : TupAt g2 TO #[a0, a1, a2] := (K2.2 TO (by simp [D.oz, D.o1.symm])).trans hTO
  refine wpAny_bind (wpAny_seqItems O2 rfl (wpAny_bind (put_tup O2 fun g3 O3 s3 => wpAny_bind (wpAny_letGo (wpAny_pure ?_)))))
  replace O3 : TupAt g3 TO #[x, a1, a2] := O3
  have K3 := K2.step s3
  have i1 := Cp.it_at i1 (s3.2 _ D.o1)
  -- the second
  refine wpAny_bind (wpAny_bind (wpAny_onRaise ?_))
  show wpAny _ _ (Builtin.SmallTypes.nextOf (.ref c2.i) >>= _) _ _ _
  refine wpAny_bind (Cp.next (Cp.it_at h2 (K3.2 _ (by simp [D.z2, D.o2, D.n12.symm]))) (Cp.sq_at l2 (K3.2 _ (by have := D.ls c2.l (.inr (.inl rfl)); simp [this.1, this.2.1, this.2.2.1]))) hy fun g4 i2 s4 => wpAny_pure ?_)
  have K4 := K3.step s4
  have O4 : TupAt g4 TO #[x, a1, a2] := (s4.2 _ D.o2.symm).trans O3
  refine wpAny_bind (wpAny_seqItems O4 rfl (wpAny_bind (put_tup O4 fun g5 O5 s5 => wpAny_bind (wpAny_letGo (wpAny_pure ?_)))))
  replace O5 : TupAt g5 TO #[x, y, a2] := O5
  have K5 := K4.step s5
  have i1 := Cp.it_at (Cp.it_at i1 (s4.2 _ D.n12)) (s5.2 _ D.o1)
  have i2 := Cp.it_at i2 (s5.2 _ D.o2)
  -- the third
  refine wpAny_bind (wpAny_bind (wpAny_onRaise ?_))
  show wpAny _ _ (Builtin.SmallTypes.nextOf (.ref c3.i) >>= _) _ _ _
  refine wpAny_bind (Cp.next (Cp.it_at h3 (K5.2 _ (by simp [D.z3, D.o3, D.n13.symm, D.n23.symm]))) (Cp.sq_at l3 (K5.2 _ (by have := D.ls c3.l (.inr (.inr rfl)); simp [this.1, this.2.1, this.2.2.1, this.2.2.2.1]))) hu fun g6 i3 s6 => wpAny_pure ?_)
  have K6 := K5.step s6
  have O6 : TupAt g6 TO #[x, y, a2] := (s6.2 _ D.o3.symm).trans O5
  refine wpAny_bind (wpAny_seqItems O6 rfl (wpAny_bind (put_tup O6 fun g7 O7 s7 => wpAny_bind (wpAny_letGo (wpAny_pure (wpAny_pure ?_))))))
  replace O7 : TupAt g7 TO #[x, y, u] := O7
  have K7 := K6.step s7
  have i1 := Cp.it_at (Cp.it_at i1 (s6.2 _ D.n13)) (s7.2 _ D.o1)
  have i2 := Cp.it_at (Cp.it_at i2 (s6.2 _ D.n23)) (s7.2 _ D.o2)
  have i3 := Cp.it_at i3 (s7.2 _ D.o3)
  have Z7 : IsZip g7 z TI TO .ellipsis := (s7.2 _ D.oz.symm).trans ((s6.2 _ D.z3.symm).trans ((s5.2 _ D.oz.symm).trans ((s4.2 _ D.z2.symm).trans ((s3.2 _ D.oz.symm).trans ((s2.2 _ D.z1.symm).trans hz1)))))
  refine wpAny_bind (wpAny_seqItems O7 rfl (wpAny_bind (wpAny_newTuple ?_)))
  have sz : g7.objs.size = s.heap.objs.size := K7.1
  have lt : ∀ {c : Addr} {o : Obj}, g7.get? c = some o → c ≠ g7.objs.size := fun e => Nat.ne_of_lt (Heap.lt_size e)
  show wpAny _ _ (Builtin.SmallTypes.ownedTupleHandOut (.ref z) (.ref g7.objs.size) >>= _) _ _ _
  refine wpAny_bind ?_
  unfold Builtin.SmallTypes.ownedTupleHandOut
  have Z8 : IsZip (g7.push { cls := .type "tuple", data := .seq #[x, y, u] }) z TI TO .ellipsis := Heap.get?_push_of_some _ Z7
  refine wpAny_bind (wpAny_setField_rec Z8 (by simp) fun g9 Z9 s9 => ?_)
  replace Z9 : IsZip g9 z TI TO (rawInt g7.objs.size) := Z9
  refine wpAny_setField_rec Z9 (by simp) fun ga Za sa => ?_
  replace Za : IsZip ga z TI TO (rawInt g7.objs.size) := Za
  have up : ∀ c o, c ≠ z → g7.get? c = some o → ga.get? c = some o := fun c o n e => (sa.2 c n).trans ((s9.2 c n).trans (Heap.get?_push_of_some _ e))
  have Ta : TupAt ga g7.objs.size #[x, y, u] := (sa.2 _ (lt Z7).symm).trans ((s9.2 _ (lt Z7).symm).trans (Heap.get?_push_size _ rfl))
  have za : ga.objs.size = g7.objs.size + 1 := by rw [sa.1, s9.1, Heap.size_push]
  rw [sz] at Za Ta za
  refine wpAny_pure ⟨_, rfl, ?_⟩
  show Q (.ref g7.objs.size) _
  rw [sz]
  exact hQ ga Za (up _ _ D.oz O7) (Cp.it_to i1 fun o e => up _ o D.z1 e) (Cp.it_to i2 fun o e => up _ o D.z2 e) (Cp.it_to i3 fun o e => up _ o D.z3 e) Ta za fun c o n1 n2 n3 n4 n5 e => up c o n1 ((K7.2 c (by simp [n1, n2, n3, n4, n5])).trans e)
theorem Kb.ext {S : List Addr} {i : Addr} {h h1 h' : Heap} (x : Kb S h h1) (y : Heap.ExtBut i h1 h') : ∀ c o, c ∉ i :: S → h.get? c = some o → h'.get? c = some o := fun c o n e =>
  y c o (fun z => n (z ▸ List.mem_cons_self)) ((x.2 c fun z => n (List.mem_cons_of_mem _ z)).trans e)
theorem zip3_end {z TI TO : Addr} {c1 c2 c3 : Cp} {k : Nat} {a : Array Value} {Q : Fin → Shared → Prop} (hh : A.handled = none) (D : Ap3 z TI TO c1 c2 c3)
    (hz : IsZip s.heap z TI TO .none) (hTI : TupAt s.heap TI #[.ref c1.i, .ref c2.i, .ref c3.i]) (hTO : TupAt s.heap TO a) (ha : a.size = 3)
    (h1 : c1.it s.heap k) (h2 : c2.it s.heap k) (h3 : c3.it s.heap k) (l1 : c1.sq s.heap) (l2 : c2.sq s.heap) (l3 : c3.sq s.heap) (hend : c1.xs[k]? = none ∨ c2.xs[k]? = none ∨ c3.xs[k]? = none)
    (hE : ∀ h' e, (∀ c o, c ≠ z → c ≠ TO → c ≠ c1.i → c ≠ c2.i → c ≠ c3.i → s.heap.get? c = some o → h'.get? c = some o) → (∃ o, h'.get? e = some o ∧ o.cls = .type "StopIteration") → E (.ref e) { s with heap := h' }) :
    wpAny (model prog w) A (Builtin.«zip.__next__» ⟨[.ref z], []⟩) Q E s := by
  obtain ⟨a0, a1, a2, rfl⟩ : ∃ a0 a1 a2, a = #[a0, a1, a2] := by
    obtain ⟨l⟩ := a
    match l, ha with
    | [a0, a1, a2], _ => exact ⟨a0, a1, a2, rfl⟩
  show wpAny _ _ (field (.ref z) 2 >>= _) _ _ _
  refine wpAny_bind (wpAny_field hz rfl (x := .bool false) rfl ?_)
  show wpAny _ _ (field (.ref z) 3 >>= _) _ _ _
  refine wpAny_bind (wpAny_field hz rfl (x := .ref TI) rfl (wpAny_bind (wpAny_seqItems hTI rfl ?_)))
  show wpAny _ _ (Builtin.SmallTypes.ownedTupleIsFree (.ref z) >>= _) _ _ _
  refine wpAny_bind ?_
  unfold Builtin.SmallTypes.ownedTupleIsFree
  refine wpAny_bind (wpAny_field hz rfl (x := .none) rfl (wpAny_pure ?_))
  simp only [if_true]
  refine wpAny_bind (wpAny_rule (wpAny_bind (wpAny_field hz rfl (x := .ref TO) rfl (wpAny_bind (wpAny_setField_rec hz (by simp) fun g1 hz1 s1 => ?_)))))
  replace hz1 : IsZip g1 z TI TO .ellipsis := hz1
  have K1 := Kb.of s1
  refine wpAny_bind ?_
  simp only [List.zipIdx_cons, List.zipIdx_nil, List.forIn_cons, List.forIn_nil]
  have fin : ∀ (S : List Addr) (g : Heap) (e : Addr), (∀ c o, c ∉ S → s.heap.get? c = some o → g.get? c = some o) → S ⊆ [z, TO, c1.i, c2.i, c3.i] → IsZip g z TI TO .ellipsis → (∃ o, g.get? e = some o ∧ o.cls = .type "StopIteration") →
      wpAny (model prog w) A (setField (.ref z) 0 .none) (fun _ s' => E (.ref e) s') E { s with heap := g } := fun S g e k sub hz4 he => by
    obtain ⟨oe, hoe, hce⟩ := he
    have ne : e ≠ z := fun q => by subst q; rw [hz4] at hoe; cases hoe; simp at hce
    refine wpAny_setField_rec hz4 (by simp) fun g5 _ s5 => hE g5 e (fun c o n1 n2 n3 n4 n5 q => s5.extBut _ _ n1 (k c o (fun m => by have := sub m; simp [n1, n2, n3, n4, n5] at this) q)) ⟨oe, s5.extBut _ _ ne hoe, hce⟩
  -- the first
  refine wpAny_bind (wpAny_bind (wpAny_onRaise ?_))
  show wpAny _ _ (Builtin.SmallTypes.nextOf (.ref c1.i) >>= _) _ _ _
  cases hx : c1.xs[k]? with
  | none =>
    refine wpAny_bind (Cp.stop hh (Cp.it_at h1 (K1.2 _ (by simp [D.z1]))) (Cp.sq_at l1 (K1.2 _ (by have := D.ls c1.l (.inl rfl); simp [this.1]))) hx fun g e s2 he => ?_)
    exact fin [c1.i, z] g e (K1.ext s2) (by intro m hm; simp only [List.mem_cons, List.not_mem_nil, or_false] at hm ⊢; grind) (s2 _ _ D.z1.symm hz1) he
  | some x =>
  refine wpAny_bind (Cp.next (Cp.it_at h1 (K1.2 _ (by simp [D.z1]))) (Cp.sq_at l1 (K1.2 _ (by have := D.ls c1.l (.inl rfl); simp [this.1]))) hx fun g2 i1 s2 => wpAny_pure ?_)
  have K2 := K1.step s2
  have O2 : TupAt g2 TO #[a0, a1, a2] := (K2.2 TO (by simp [D.oz, D.o1.symm])).trans hTO
  refine wpAny_bind (wpAny_seqItems O2 rfl (wpAny_bind (put_tup O2 fun g3 O3 s3 => wpAny_bind (wpAny_letGo (wpAny_pure ?_)))))
  replace O3 : TupAt g3 TO #[x, a1, a2] := O3
  have K3 := K2.step s3
  have Z3 : IsZip g3 z TI TO .ellipsis := (s3.2 _ D.oz.symm).trans ((s2.2 _ D.z1.symm).trans hz1)
  -- the second
  refine wpAny_bind (wpAny_bind (wpAny_onRaise ?_))
  show wpAny _ _ (Builtin.SmallTypes.nextOf (.ref c2.i) >>= _) _ _ _
  have J2 := Cp.it_at h2 (K3.2 _ (by simp [D.z2, D.o2, D.n12.symm]))
  have M2 := Cp.sq_at l2 (K3.2 _ (by have := D.ls c2.l (.inr (.inl rfl)); simp [this.1, this.2.1, this.2.2.1]))
  cases hy : c2.xs[k]? with
  | none =>
    refine wpAny_bind (Cp.stop hh J2 M2 hy fun g e s4 he => ?_)
    exact fin [c2.i, TO, c1.i, z] g e (K3.ext s4) (by intro m hm; simp only [List.mem_cons, List.not_mem_nil, or_false] at hm ⊢; grind) (s4 _ _ D.z2.symm Z3) he
  | some y =>
  refine wpAny_bind (Cp.next J2 M2 hy fun g4 i2 s4 => wpAny_pure ?_)
  have K4 := K3.step s4
  have O4 : TupAt g4 TO #[x, a1, a2] := (s4.2 _ D.o2.symm).trans O3
  refine wpAny_bind (wpAny_seqItems O4 rfl (wpAny_bind (put_tup O4 fun g5 O5 s5 => wpAny_bind (wpAny_letGo (wpAny_pure ?_)))))
  have K5 := K4.step s5
  have Z5 : IsZip g5 z TI TO .ellipsis := (s5.2 _ D.oz.symm).trans ((s4.2 _ D.z2.symm).trans Z3)
  -- the third
  refine wpAny_bind (wpAny_bind (wpAny_onRaise ?_))
  show wpAny _ _ (Builtin.SmallTypes.nextOf (.ref c3.i) >>= _) _ _ _
  have J3 := Cp.it_at h3 (K5.2 _ (by simp [D.z3, D.o3, D.n13.symm, D.n23.symm]))
  have M3 := Cp.sq_at l3 (K5.2 _ (by have := D.ls c3.l (.inr (.inr rfl)); simp [this.1, this.2.1, this.2.2.1, this.2.2.2.1]))
  have hu : c3.xs[k]? = none := by
    rcases hend with q | q | q
    · rw [hx] at q; cases q
    · rw [hy] at q; cases q
    · exact q
  refine wpAny_bind (Cp.stop hh J3 M3 hu fun g e s6 he => ?_)
  exact fin [c3.i, TO, c2.i, TO, c1.i, z] g e (K5.ext s6) (by intro m hm; simp only [List.mem_cons, List.not_mem_nil, or_false] at hm ⊢; grind) (s6 _ _ D.z3.symm Z5) he
theorem pyNext_zip3_item {z TI TO : Addr} {c1 c2 c3 : Cp} {k : Nat} {x y u : Value} {a : Array Value} {Q : Option Value → Shared → Prop} (D : Ap3 z TI TO c1 c2 c3)
    (hz : IsZip s.heap z TI TO .none) (hTI : TupAt s.heap TI #[.ref c1.i, .ref c2.i, .ref c3.i]) (hTO : TupAt s.heap TO a) (ha : a.size = 3)
    (h1 : c1.it s.heap k) (h2 : c2.it s.heap k) (h3 : c3.it s.heap k) (l1 : c1.sq s.heap) (l2 : c2.sq s.heap) (l3 : c3.sq s.heap) (hx : c1.xs[k]? = some x) (hy : c2.xs[k]? = some y) (hu : c3.xs[k]? = some u)
    (hQ : ∀ h', IsZip h' z TI TO (rawInt s.heap.objs.size) → TupAt h' TO #[x, y, u] → c1.it h' (k + 1) → c2.it h' (k + 1) → c3.it h' (k + 1) → TupAt h' s.heap.objs.size #[x, y, u] → h'.objs.size = s.heap.objs.size + 1 →
      (∀ c o, c ≠ z → c ≠ TO → c ≠ c1.i → c ≠ c2.i → c ≠ c3.i → s.heap.get? c = some o → h'.get? c = some o) → Q (some (.ref s.heap.objs.size)) { s with heap := h' }) :
    wpAny (model prog w) A (pyNext (.ref z)) Q E s := by
  have hT : s.TypeIs (.ref z) "zip" := ⟨_, hz, rfl⟩
  unfold pyNext
  refine wpAny_bind (wpAny_attempt (wpAny_callSpecial?_slot (name := Str.ofString "__next__") hT F.slot_zip_next (wpAny_call_entry F.slot_zip_next hT F.entry_zip_next ?_ (F.args_zip_next_1 _))))
  exact zip3_item D hz hTI hTO ha h1 h2 h3 l1 l2 l3 hx hy hu fun h' b1 b2 b3 b4 b5 b6 b7 b8 => wpAny_pure (hQ h' b1 b2 b3 b4 b5 b6 b7 b8)
theorem pyNext_zip3_end {z TI TO : Addr} {c1 c2 c3 : Cp} {k : Nat} {a : Array Value} {Q : Option Value → Shared → Prop} (hh : A.handled = none) (D : Ap3 z TI TO c1 c2 c3)
    (hz : IsZip s.heap z TI TO .none) (hTI : TupAt s.heap TI #[.ref c1.i, .ref c2.i, .ref c3.i]) (hTO : TupAt s.heap TO a) (ha : a.size = 3)
    (h1 : c1.it s.heap k) (h2 : c2.it s.heap k) (h3 : c3.it s.heap k) (l1 : c1.sq s.heap) (l2 : c2.sq s.heap) (l3 : c3.sq s.heap) (hend : c1.xs[k]? = none ∨ c2.xs[k]? = none ∨ c3.xs[k]? = none)
    (hQ : ∀ h', (∀ c o, c ≠ z → c ≠ TO → c ≠ c1.i → c ≠ c2.i → c ≠ c3.i → s.heap.get? c = some o → h'.get? c = some o) → Q none { s with heap := h' }) : wpAny (model prog w) A (pyNext (.ref z)) Q E s := by
  have hT : s.TypeIs (.ref z) "zip" := ⟨_, hz, rfl⟩
  unfold pyNext
  refine wpAny_bind (wpAny_attempt (wpAny_callSpecial?_slot (name := Str.ofString "__next__") hT F.slot_zip_next (wpAny_call_entry F.slot_zip_next hT F.entry_zip_next (zip3_end hh D hz hTI hTO ha h1 h2 h3 l1 l2 l3 hend fun h' e hk he => ?_) (F.args_zip_next_1 _))))
  obtain ⟨o, ho, hc⟩ := he
  exact wpAny_bind (wpAny_isInstance (T := "StopIteration") (b := true) ⟨o, ho, hc⟩ isSubtype_stop (wpAny_pure (hQ _ hk)))
theorem Cp.sq_push {c : Cp} {h : Heap} (x : c.sq h) (o : Obj) : c.sq (h.push o) := by
  unfold Cp.sq at x ⊢
  split at x
  · next hb => rw [if_pos hb]; exact Heap.IsList.push x o
  · next hb => rw [if_neg hb]; exact Heap.IsTuple.push x o
theorem Cp.sq_lt {c : Cp} {h : Heap} (x : c.sq h) : c.l < h.objs.size := by
  unfold Cp.sq at x
  split at x
  · obtain ⟨o, e, _⟩ := x; exact Heap.lt_size e
  · obtain ⟨o, e, _⟩ := x; exact Heap.lt_size e
def itObj (b : Bool) (l : Addr) : Obj := { cls := .type (if b = true then "list_iterator" else "tuple_iterator"), data := .fields #[.ref l, .int 0 0] }
theorem Cp.iter {c : Cp} {Q : Value → Shared → Prop} (hl : c.sq s.heap) (hQ : Q (.ref s.heap.objs.size) { s with heap := s.heap.push (itObj c.b c.l) }) : wpAny (model prog w) A (pyIter (.ref c.l)) Q E s := by
  unfold Cp.sq at hl
  unfold itObj at hQ
  by_cases hb : c.b = true
  · rw [if_pos hb] at hl hQ
    exact wpAny_pyIter_list hl hQ
  · rw [if_neg hb] at hl hQ
    exact wpAny_pyIter_tuple hl hQ
theorem itObj_it {c : Cp} {h : Heap} (e : h.get? c.i = some (itObj c.b c.l)) : c.it h 0 := by
  unfold Cp.it
  unfold itObj at e
  split
  · next hb => rw [if_pos hb] at e; exact ⟨_, e, rfl, rfl⟩
  · next hb => rw [if_neg hb] at e; exact ⟨_, e, rfl, rfl⟩
end
theorem typeCall_zip3 (a b c : Value) : checkTypeCall "zip" ⟨[a, b, c], []⟩ = pure () := by kernel_rfl
theorem newCall_zip3 (a b c : Value) : checkBuiltinCall "zip.__new__" ⟨[.type "zip", a, b, c], []⟩ = pure () := by kernel_rfl
abbrev z3a (h : Heap) (c1 : Cp) : Heap := h.push (itObj c1.b c1.l)
abbrev z3b (h : Heap) (c1 c2 : Cp) : Heap := (z3a h c1).push (itObj c2.b c2.l)
abbrev z3c (h : Heap) (c1 c2 c3 : Cp) : Heap := (z3b h c1 c2).push (itObj c3.b c3.l)
abbrev z3d (h : Heap) (c1 c2 c3 : Cp) : Heap := (z3c h c1 c2 c3).push { cls := .type "tuple", data := .seq #[.ref h.objs.size, .ref (z3a h c1).objs.size, .ref (z3b h c1 c2).objs.size] }
abbrev z3e (h : Heap) (c1 c2 c3 : Cp) : Heap := (z3d h c1 c2 c3).push { cls := .type "tuple", data := .seq #[.none, .none, .none] }
abbrev z3f (h : Heap) (c1 c2 c3 : Cp) : Heap := (z3e h c1 c2 c3).push { cls := .type "zip", data := .fields #[.none, .bool false, .bool false, .ref (z3c h c1 c2 c3).objs.size, .ref (z3d h c1 c2 c3).objs.size] }
theorem meets_zip3 (c1 c2 c3 : Cp) : Meets (Builtin.«zip.__new__» ⟨[.type "zip", .ref c1.l, .ref c2.l, .ref c3.l], []⟩) (fun _ R s => c1.sq s.heap ∧ c2.sq s.heap ∧ c3.sq s.heap ∧
      R (.ok (.ret (.ref (z3e s.heap c1 c2 c3).objs.size))) { s with heap := z3f s.heap c1 c2 c3 }) :=
  .of_wp fun prog w A R s h => by
    obtain ⟨hp, g, d, tk, os⟩ := s
    obtain ⟨k1, k2, k3, h⟩ := h
    have hsub := sub_zip
    have L1 : c1.sq (Shared.heap ⟨hp, g, d, tk, os⟩) := k1
    have L2 : c2.sq (Shared.heap ⟨hp.push (itObj c1.b c1.l), g, d, tk, os⟩) := Cp.sq_push k2 _
    have L3 : c3.sq (Shared.heap ⟨(hp.push (itObj c1.b c1.l)).push (itObj c2.b c2.l), g, d, tk, os⟩) := Cp.sq_push (Cp.sq_push k3 _) _
    wp_walk using Cp.iter L1, Cp.iter L2, Cp.iter L3
    exact ⟨_, rfl, h⟩
section
variable {prog : Program} {w : World} {A : Around} {E : Value → Shared → Prop} {s : Shared}
theorem call_zip3 {b1 b2 b3 : Bool} {l1 l2 l3 : Addr} {xs ys us : Array Value} {Q : Value → Shared → Prop} (k1 : Cp.sq ⟨b1, s.heap.objs.size, l1, xs⟩ s.heap) (k2 : Cp.sq ⟨b2, s.heap.objs.size + 1, l2, ys⟩ s.heap) (k3 : Cp.sq ⟨b3, s.heap.objs.size + 2, l3, us⟩ s.heap)
    (h : ∀ h', IsZip h' (s.heap.objs.size + 5) (s.heap.objs.size + 3) (s.heap.objs.size + 4) .none → TupAt h' (s.heap.objs.size + 3) #[.ref s.heap.objs.size, .ref (s.heap.objs.size + 1), .ref (s.heap.objs.size + 2)] →
      TupAt h' (s.heap.objs.size + 4) #[.none, .none, .none] → Cp.it ⟨b1, s.heap.objs.size, l1, xs⟩ h' 0 → Cp.it ⟨b2, s.heap.objs.size + 1, l2, ys⟩ h' 0 → Cp.it ⟨b3, s.heap.objs.size + 2, l3, us⟩ h' 0 → h'.objs.size = s.heap.objs.size + 6 →
      (∀ c o, s.heap.get? c = some o → h'.get? c = some o) → Q (.ref (s.heap.objs.size + 5)) { s with heap := h' }) :
    wpAny (model prog w) A (call (.type "zip") [.ref l1, .ref l2, .ref l3]) Q E s := by
  refine callType_new F.called_zip (by decide) (typeCall_zip3 _ _ _) (newCall_zip3 _ _ _) (fun obj => F.initArgs_range_3 obj _ _ _) F.entry_zip_new (meets_zip3 ⟨b1, s.heap.objs.size, l1, xs⟩ ⟨b2, s.heap.objs.size + 1, l2, ys⟩ ⟨b3, s.heap.objs.size + 2, l3, us⟩) ⟨k1, k2, k3, ?_⟩
  generalize hc1 : (⟨b1, s.heap.objs.size, l1, xs⟩ : Cp) = c1
  generalize hc2 : (⟨b2, s.heap.objs.size + 1, l2, ys⟩ : Cp) = c2
  generalize hc3 : (⟨b3, s.heap.objs.size + 2, l3, us⟩ : Cp) = c3
  have e1 : c1.i = s.heap.objs.size := by rw [← hc1]
  have e2 : c2.i = s.heap.objs.size + 1 := by rw [← hc2]
  have e3 : c3.i = s.heap.objs.size + 2 := by rw [← hc3]
  have z1 : (z3a s.heap c1).objs.size = s.heap.objs.size + 1 := Heap.size_push ..
  have z2 : (z3b s.heap c1 c2).objs.size = s.heap.objs.size + 2 := by rw [Heap.size_push, z1]
  have z3 : (z3c s.heap c1 c2 c3).objs.size = s.heap.objs.size + 3 := by rw [Heap.size_push, z2]
  have z4 : (z3d s.heap c1 c2 c3).objs.size = s.heap.objs.size + 4 := by rw [Heap.size_push, z3]
  have z5 : (z3e s.heap c1 c2 c3).objs.size = s.heap.objs.size + 5 := by rw [Heap.size_push, z4]
  have z6 : (z3f s.heap c1 c2 c3).objs.size = s.heap.objs.size + 6 := by rw [Heap.size_push, z5]
  have g6 : (z3f s.heap c1 c2 c3).get? (z3e s.heap c1 c2 c3).objs.size = some _ := Heap.get?_push_size _ rfl
  have g5 : (z3f s.heap c1 c2 c3).get? (z3d s.heap c1 c2 c3).objs.size = some _ := Heap.get?_push_of_some _ (Heap.get?_push_size _ rfl)
  have g4 : (z3f s.heap c1 c2 c3).get? (z3c s.heap c1 c2 c3).objs.size = some _ := Heap.get?_push_of_some _ (Heap.get?_push_of_some _ (Heap.get?_push_size _ rfl))
  have g3 : (z3f s.heap c1 c2 c3).get? (z3b s.heap c1 c2).objs.size = some _ := Heap.get?_push_of_some _ (Heap.get?_push_of_some _ (Heap.get?_push_of_some _ (Heap.get?_push_size _ rfl)))
  have g2 : (z3f s.heap c1 c2 c3).get? (z3a s.heap c1).objs.size = some _ := Heap.get?_push_of_some _ (Heap.get?_push_of_some _ (Heap.get?_push_of_some _ (Heap.get?_push_of_some _ (Heap.get?_push_size _ rfl))))
  have g1 : (z3f s.heap c1 c2 c3).get? s.heap.objs.size = some _ := Heap.get?_push_of_some _ (Heap.get?_push_of_some _ (Heap.get?_push_of_some _ (Heap.get?_push_of_some _ (Heap.get?_push_of_some _ (Heap.get?_push_size _ rfl)))))
  show _ ∧ _
  rw [hc1, hc2, hc3] at h
  rw [z3, z4, z5] at g6
  rw [z4] at g5
  rw [z1, z2, z3] at g4
  rw [z2, ← e3] at g3
  rw [z1, ← e2] at g2
  rw [← e1] at g1
  rw [z5]
  exact ⟨⟨_, g6, rfl⟩, h _ g6 g4 g5 (itObj_it g1) (itObj_it g2) (itObj_it g3) z6 fun c o x =>
    Heap.get?_push_of_some _ (Heap.get?_push_of_some _ (Heap.get?_push_of_some _ (Heap.get?_push_of_some _ (Heap.get?_push_of_some _ (Heap.get?_push_of_some _ x)))))⟩
end
end
/-! ### zip of three: the turn -/
section
open PySem.Spec PyProof.Rows
/-- the contents of a list or a tuple -/
def SqB (b : Bool) (K : PySem.W.Frag) (H : Hp) (a : Addr) (xs : List V) : Prop := if b = true then SqL K H a xs else SqT K H a xs
theorem SqB.inj {b : Bool} {X : Cx} {pins : List (Addr × Obj)} {σ : L2.St} {H : Hp} {s : Shared} {a : Addr} {xs ys : List V} (I : L2.Inv X pins σ H s) (h : SqB b X.K H a xs) (h' : SqB b X.K H a ys) : xs = ys := by
  unfold SqB at h h'
  split at h
  · next hb => rw [if_pos hb] at h'; exact I.list_inj h h'
  · next hb => rw [if_neg hb] at h'; exact I.tuple_inj h h'
theorem SqB.cp {b : Bool} {X : Cx} {pins : List (Addr × Obj)} {σ : L2.St} {H : Hp} {s : Shared} {a : Addr} {xs : List V} (I : L2.Inv X pins σ H s) (h : SqB b X.K H a xs) : ∃ its : List Value, Vals xs its ∧ ∀ i : Addr, Cp.sq ⟨b, i, a, its.toArray⟩ s.heap := by
  unfold SqB at h
  split at h
  · next hb =>
    obtain ⟨its, rv, p, _⟩ := I.list h
    exact ⟨its, rv, fun i => by unfold Cp.sq; rw [if_pos hb]; exact p.isList⟩
  · next hb =>
    obtain ⟨its, rv, p, _⟩ := I.tuple h
    exact ⟨its, rv, fun i => by unfold Cp.sq; rw [if_neg hb]; exact p⟩
theorem Cp.it_xs {b : Bool} {i l : Addr} {xs ys : Array Value} {h : Heap} {k : Nat} (x : Cp.it ⟨b, i, l, xs⟩ h k) : Cp.it ⟨b, i, l, ys⟩ h k := x
def Itz3 (K : PySem.W.Frag) (b1 b2 b3 : Bool) (a b c : Addr) : It :=
  ⟨fun i H => ∃ (xs ys us : List V) (x y u : V), SqB b1 K H a xs ∧ SqB b2 K H b ys ∧ SqB b3 K H c us ∧ xs[i]? = some x ∧ ys[i]? = some y ∧ us[i]? = some u,
    fun i H v H' => ∃ T x y u, v = .ref T ∧ H T = none ∧ H' = upd H T (.tup [x, y, u]) ∧ (∀ xs, SqB b1 K H a xs → xs[i]? = some x) ∧ (∀ ys, SqB b2 K H b ys → ys[i]? = some y) ∧ ∀ us, SqB b3 K H c us → us[i]? = some u,
    fun i H => ∃ xs ys us : List V, SqB b1 K H a xs ∧ SqB b2 K H b ys ∧ SqB b3 K H c us ∧ (xs.length ≤ i ∨ ys.length ≤ i ∨ us.length ≤ i)⟩
theorem six {p : Addr → Prop} {z TI TO i1 i2 i3 : Addr} (h1 : p z) (h2 : p TI) (h3 : p TO) (h4 : p i1) (h5 : p i2) (h6 : p i3) : ∀ c, c ∈ [z, TI, TO, i1, i2, i3] → p c := fun c hc => by
  have e' : c = z ∨ c = TI ∨ c = TO ∨ c = i1 ∨ c = i2 ∨ c = i3 := by simpa using hc
  rcases e' with rfl | rfl | rfl | rfl | rfl | rfl <;> assumption
theorem turn_zip3 {P : Program} {w : World} {K : PySem.W.Frag} {elts : List Expr} {kk : Nat} {tpos : Pos} {b1 b2 b3 : Bool} {a b c z TI TO i1 i2 i3 : Addr} (D : Ap3 z TI TO ⟨b1, i1, a, #[]⟩ ⟨b2, i2, b, #[]⟩ ⟨b3, i3, c, #[]⟩) :
    Turn P w K (.Tuple elts kk tpos) (Itz3 K b1 b2 b3 a b c) [z, TI, TO, i1, i2, i3] z (fun i h => IsZip h z TI TO .none ∧ TupAt h TI #[.ref i1, .ref i2, .ref i3] ∧ (∃ x y u, TupAt h TO #[x, y, u]) ∧ Cp.it ⟨b1, i1, a, #[]⟩ h i ∧ Cp.it ⟨b2, i2, b, #[]⟩ h i ∧ Cp.it ⟨b3, i3, c, #[]⟩ h i) where
  mem := by simp
  obj := fun i h st c hc => by
    obtain ⟨hz, hTI, ⟨x, y, u, hTO⟩, h1, h2, h3⟩ := st
    obtain ⟨o1, f1, e1, d1⟩ := Cp.it_obj h1
    obtain ⟨o2, f2, e2, d2⟩ := Cp.it_obj h2
    obtain ⟨o3, f3, e3, d3⟩ := Cp.it_obj h3
    exact six (p := fun c => ∃ o, h.get? c = some o ∧ ∀ v, o.data ≠ .cell v) ⟨_, hz, fun v q => nomatch q⟩ ⟨_, hTI, fun v q => nomatch q⟩ ⟨_, hTO, fun v q => nomatch q⟩ ⟨o1, e1, fun v q => by rw [d1] at q; cases q⟩ ⟨o2, e2, fun v q => by rw [d2] at q; cases q⟩ ⟨o3, e3, fun v q => by rw [d3] at q; cases q⟩ c hc
  keep := fun i h h' st k => by
    obtain ⟨hz, hTI, ⟨x, y, u, hTO⟩, h1, h2, h3⟩ := st
    exact ⟨k z (by simp) _ hz, k TI (by simp) _ hTI, ⟨x, y, u, k TO (by simp) _ hTO⟩, Cp.it_to h1 fun o q => k i1 (by simp) o q, Cp.it_to h2 fun o q => k i2 (by simp) o q, Cp.it_to h3 fun o q => k i3 (by simp) o q⟩
  item := by
    intro X hP hw hK hc i pins s σ H E I hf st hg
    subst hP hw hK
    obtain ⟨hz, hTI, ⟨x0, y0, u0, hTO⟩, h1, h2, h3⟩ := st
    obtain ⟨xs, ys, us, x, y, u, hq1, hq2, hq3, hx, hy, hu⟩ := hg
    obtain ⟨its1, rv1, p1⟩ := hq1.cp I
    obtain ⟨its2, rv2, p2⟩ := hq2.cp I
    obtain ⟨its3, rv3, p3⟩ := hq3.cp I
    obtain ⟨v1, w1, r1⟩ := rv1.get hx
    obtain ⟨v2, w2, r2⟩ := rv2.get hy
    obtain ⟨v3, w3, r3⟩ := rv3.get hu
    have hzl : z < s.heap.objs.size := Heap.lt_size hz
    have D' : Ap3 z TI TO ⟨b1, i1, a, its1.toArray⟩ ⟨b2, i2, b, its2.toArray⟩ ⟨b3, i3, c, its3.toArray⟩ := ⟨D.tz, D.oz, D.to, D.z1, D.z2, D.z3, D.t1, D.t2, D.t3, D.o1, D.o2, D.o3, D.n12, D.n13, D.n23, D.ls⟩
    refine pyNext_zip3_item D' hz hTI hTO rfl (Cp.it_xs h1) (Cp.it_xs h2) (Cp.it_xs h3) (p1 i1) (p2 i2) (p3 i3) (x := v1) (y := v2) (u := v3) (by simpa using w1) (by simpa using w2) (by simpa using w3) fun h' z' TO' h1' h2' h3' hT hsz hk => ?_
    refine ⟨_, rfl, wpAny_letOwnedTupleGo_zip (s := { s with heap := h' }) z' fun h'' z'' sb => ?_⟩
    have hT2 : h''.get? s.heap.objs.size = some { cls := .type "tuple", data := .seq #[v1, v2, v3] } := (sb.2 _ (Nat.ne_of_gt hzl)).trans hT
    have new : ObjOk X.prog X.w (upd H s.heap.objs.size (.tup [x, y, u])) h'' s.heap.objs.size (.tup [x, y, u]) :=
      ⟨by show 3 ≤ sizeLine; decide, [v1, v2, v3], .cons r1 (.cons r2 (.cons r3 .nil)), ⟨_, hT2, rfl, _, rfl⟩⟩
    have kp : ∀ c o, c ∉ [z, TI, TO, i1, i2, i3] → s.heap.get? c = some o → h''.get? c = some o := fun c o hb q => by
      have hb' : ¬(c = z ∨ c = TI ∨ c = TO ∨ c = i1 ∨ c = i2 ∨ c = i3) := fun e => hb (by simpa using e)
      simp only [not_or] at hb'
      exact (sb.2 c hb'.1).trans (hk c o hb'.1 hb'.2.2.1 hb'.2.2.2.1 hb'.2.2.2.2.1 hb'.2.2.2.2.2 q)
    have I1 : L2.Inv X pins σ (upd H s.heap.objs.size (.tup [x, y, u])) { s with heap := h'' } := I.turnedNew (t' := s.toks) (ch := [z, TI, TO, i1, i2, i3]) (fun c o hb q => kp c o hb q) hf (Nat.le_refl _) new
    refine ⟨.ref s.heap.objs.size, _, I1, rfl, ⟨_, x, y, u, rfl, I.hok.fresh (Nat.le_refl _), rfl, fun l hl => by rw [SqB.inj I hl hq1]; exact hx, fun l hl => by rw [SqB.inj I hl hq2]; exact hy, fun l hl => by rw [SqB.inj I hl hq3]; exact hu⟩, ⟨z'', ?_, ⟨v1, v2, v3, ?_⟩, ?_, ?_, ?_⟩, fun c hcm => ?_⟩
    · exact (sb.2 _ D.tz).trans (hk _ _ D.tz D.to D.t1.symm D.t2.symm D.t3.symm hTI)
    · exact (sb.2 _ D.oz).trans TO'
    · exact Cp.it_at (Cp.it_xs h1') (sb.2 _ D.z1)
    · exact Cp.it_at (Cp.it_xs h2') (sb.2 _ D.z2)
    · exact Cp.it_at (Cp.it_xs h3') (sb.2 _ D.z3)
    · have hlt : c < s.heap.objs.size := by
        obtain ⟨_, _, e1, _⟩ := Cp.it_obj h1
        obtain ⟨_, _, e2, _⟩ := Cp.it_obj h2
        obtain ⟨_, _, e3, _⟩ := Cp.it_obj h3
        exact six (p := fun c => c < s.heap.objs.size) hzl (Heap.lt_size hTI) (Heap.lt_size hTO) (Heap.lt_size e1) (Heap.lt_size e2) (Heap.lt_size e3) c hcm
      rw [upd_ne (Nat.ne_of_lt hlt)]
      exact (hf c hcm).1
  done := by
    intro X hP hw hK hc i pins s σ H E I hf st hg
    subst hP hw hK
    obtain ⟨hz, hTI, ⟨x0, y0, u0, hTO⟩, h1, h2, h3⟩ := st
    obtain ⟨xs, ys, us, hq1, hq2, hq3, hend⟩ := hg
    obtain ⟨its1, rv1, p1⟩ := hq1.cp I
    obtain ⟨its2, rv2, p2⟩ := hq2.cp I
    obtain ⟨its3, rv3, p3⟩ := hq3.cp I
    have l1 := rv1.length
    have l2 := rv2.length
    have l3 := rv3.length
    have D' : Ap3 z TI TO ⟨b1, i1, a, its1.toArray⟩ ⟨b2, i2, b, its2.toArray⟩ ⟨b3, i3, c, its3.toArray⟩ := ⟨D.tz, D.oz, D.to, D.z1, D.z2, D.z3, D.t1, D.t2, D.t3, D.o1, D.o2, D.o3, D.n12, D.n13, D.n23, D.ls⟩
    have he : its1.toArray[i]? = none ∨ its2.toArray[i]? = none ∨ its3.toArray[i]? = none := by
      rcases hend with q | q | q
      · exact .inl (by simp; omega)
      · exact .inr (.inl (by simp; omega))
      · exact .inr (.inr (by simp; omega))
    refine pyNext_zip3_end (I.ok.hd hc) D' hz hTI hTO rfl (Cp.it_xs h1) (Cp.it_xs h2) (Cp.it_xs h3) (p1 i1) (p2 i2) (p3 i3) he fun h' hk => ⟨rfl, I.turnedL (t' := s.toks) (ch := [z, TI, TO, i1, i2, i3]) (fun c o hb q => ?_) hf⟩
    have hb' : ¬(c = z ∨ c = TI ∨ c = TO ∨ c = i1 ∨ c = i2 ∨ c = i3) := fun e => hb (by simpa using e)
    simp only [not_or] at hb'
    exact hk c o hb'.1 hb'.2.2.1 hb'.2.2.2.1 hb'.2.2.2.2.1 hb'.2.2.2.2.2 q
  self := fun A i s Q E st h => wpAny_pyIter_zip st.1 h
theorem ap3_new {n a b c : Nat} {b1 b2 b3 : Bool} (h1 : a < n) (h2 : b < n) (h3 : c < n) : Ap3 (n + 5) (n + 3) (n + 4) ⟨b1, n, a, #[]⟩ ⟨b2, n + 1, b, #[]⟩ ⟨b3, n + 2, c, #[]⟩ where
  tz := by show (n + 3 : Nat) ≠ n + 5; omega
  oz := by show (n + 4 : Nat) ≠ n + 5; omega
  to := by show (n + 3 : Nat) ≠ n + 4; omega
  z1 := by show (n : Nat) ≠ n + 5; omega
  z2 := by show (n + 1 : Nat) ≠ n + 5; omega
  z3 := by show (n + 2 : Nat) ≠ n + 5; omega
  t1 := by show (n : Nat) ≠ n + 3; omega
  t2 := by show (n + 1 : Nat) ≠ n + 3; omega
  t3 := by show (n + 2 : Nat) ≠ n + 3; omega
  o1 := by show (n : Nat) ≠ n + 4; omega
  o2 := by show (n + 1 : Nat) ≠ n + 4; omega
  o3 := by show (n + 2 : Nat) ≠ n + 4; omega
  n12 := by show (n : Nat) ≠ n + 1; omega
  n13 := by show (n : Nat) ≠ n + 2; omega
  n23 := by show (n + 1 : Nat) ≠ n + 2; omega
  ls := fun l hl => by
    have hlt : (l : Nat) < n := by
      rcases hl with rfl | rfl | rfl
      · exact h1
      · exact h2
      · exact h3
    exact ⟨Nat.ne_of_lt (Nat.lt_of_lt_of_le hlt (Nat.le_add_right n 5)), Nat.ne_of_lt (Nat.lt_of_lt_of_le hlt (Nat.le_add_right n 4)), Nat.ne_of_lt hlt, Nat.ne_of_lt (Nat.lt_of_lt_of_le hlt (Nat.le_add_right n 1)), Nat.ne_of_lt (Nat.lt_of_lt_of_le hlt (Nat.le_add_right n 2))⟩
def iZip3 (K : PySem.W.Frag) (ta : TA) : TI := fun σ H R => ta σ H fun vs H1 => ∃ b1 b2 b3 a b c xs ys us, vs = [.ref a, .ref b, .ref c] ∧ SqB b1 K H1 a xs ∧ SqB b2 K H1 b ys ∧ SqB b3 K H1 c us ∧ R (Itz3 K b1 b2 b3 a b c) H1
theorem pi_zip3 (K : PySem.W.Frag) {X : Cx} (eK : X.K = K) {e e2 e3 : Expr} {ta : TA} {p pos tpos : Pos} {elts : List Expr} {kk : Nat} (hg : Gl X "zip") (hm : X.mg "zip" = none) (ha : PA X [e, e2, e3] ta)
    (hs : starEach [e, e2, e3] X.env = (false, eval e X.env) :: starEach [e2, e3] X.env := by rfl) (hpl : (backTo pos (starEach [e2, e3] X.env)).any (·.1) = false := by rfl) :
    PI X (.Tuple elts kk tpos) (.Call (.Name "zip" p) [e, e2, e3] [] pos) (iZip3 K ta) := by
  subst eK
  refine ⟨fun pins s σ H R I h => ?_⟩
  refine Call_ (ld_blt I hg hm PyProof.Rows.boot_zip (PyProof.Rows.callWith_type1 (thn (ha.run pos pins s σ H _ I h) fun us s1 ⟨vs, H1, I1, r1, q1⟩ => ?_) hs hpl))
  obtain ⟨b1, b2, b3, a, b, c, xs, ys, us', ex, hq1, hq2, hq3, q⟩ := q1
  subst ex
  cases r1 with
  | cons r rr =>
    cases rr with
    | cons r' rr =>
      cases rr with
      | cons r'' rr =>
        cases rr
        cases r
        cases r'
        cases r''
        obtain ⟨its1, rv1, p1⟩ := hq1.cp I1
        obtain ⟨its2, rv2, p2⟩ := hq2.cp I1
        obtain ⟨its3, rv3, p3⟩ := hq3.cp I1
        have a1 := Cp.sq_lt (p1 0)
        have a2 := Cp.sq_lt (p2 0)
        have a3 := Cp.sq_lt (p3 0)
        refine call_zip3 (p1 _) (p2 _) (p3 _) fun h' hz hTI hTO h1 h2 h3 hsz hk => wpAny_pyIter_zip hz ?_
        have I2 : L2.Inv X pins σ H1 { s1 with heap := h' } := I1.kept (t' := s1.toks) hk
        have fr : ∀ k : Nat, FpOk X pins H1 (s1.heap.objs.size + k) := fun k => I1.fpOk (Nat.le_add_right _ _) (I1.hok.fresh (Nat.le_add_right _ _))
        refine ⟨s1.heap.objs.size + 5, [s1.heap.objs.size + 5, s1.heap.objs.size + 3, s1.heap.objs.size + 4, s1.heap.objs.size, s1.heap.objs.size + 1, s1.heap.objs.size + 2], _, _, H1, rfl, I2, turn_zip3 (ap3_new a1 a2 a3), ⟨hz, hTI, ⟨_, _, _, hTO⟩, Cp.it_xs h1, Cp.it_xs h2, Cp.it_xs h3⟩, six (fr 5) (fr 3) (fr 4) (fr 0) (fr 1) (fr 2), q⟩
end
/-! ### zip of two, lists or tuples in any mixture -/
section
open PySem.Spec PyProof.Rows
section
variable {prog : Program} {w : World} {A : Around} {E : Value → Shared → Prop} {s : Shared}
theorem put_two {T : Addr} {a b x : Value} {k : Nat} {Q : Unit → Shared → Prop} (hT : TupAt s.heap T #[a, b])
    (h : ∀ h', TupAt h' T ((#[a, b] : Array Value).setIfInBounds k x) → Heap.SameBut T s.heap h' → Q () { s with heap := h' }) : wpAny (model prog w) A (updateSeq T (·.setIfInBounds k x)) Q E s := by
  refine wpAny_updateSeq hT rfl (h _ ?_ (Heap.SameBut.update ..))
  unfold TupAt
  rw [Heap.get?_update_self _ hT rfl]
  simp [Obj.mapSeq]
structure Ap2 (z TI TO : Addr) (c1 c2 : Cp) : Prop where
  tz : TI ≠ z
  oz : TO ≠ z
  to : TI ≠ TO
  z1 : c1.i ≠ z
  z2 : c2.i ≠ z
  t1 : c1.i ≠ TI
  t2 : c2.i ≠ TI
  o1 : c1.i ≠ TO
  o2 : c2.i ≠ TO
  n12 : c1.i ≠ c2.i
  ls : ∀ l, l = c1.l ∨ l = c2.l → l ≠ z ∧ l ≠ TO ∧ l ≠ c1.i ∧ l ≠ c2.i
theorem zip2_item {z TI TO : Addr} {c1 c2 : Cp} {k : Nat} {x y : Value} {a : Array Value} {Q : Value → Shared → Prop} (D : Ap2 z TI TO c1 c2)
    (hz : IsZip s.heap z TI TO .none) (hTI : TupAt s.heap TI #[.ref c1.i, .ref c2.i]) (hTO : TupAt s.heap TO a) (ha : a.size = 2)
    (h1 : c1.it s.heap k) (h2 : c2.it s.heap k) (l1 : c1.sq s.heap) (l2 : c2.sq s.heap) (hx : c1.xs[k]? = some x) (hy : c2.xs[k]? = some y)
    (hQ : ∀ h', IsZip h' z TI TO (rawInt s.heap.objs.size) → TupAt h' TO #[x, y] → c1.it h' (k + 1) → c2.it h' (k + 1) → TupAt h' s.heap.objs.size #[x, y] → h'.objs.size = s.heap.objs.size + 1 →
      (∀ c o, c ≠ z → c ≠ TO → c ≠ c1.i → c ≠ c2.i → s.heap.get? c = some o → h'.get? c = some o) → Q (.ref s.heap.objs.size) { s with heap := h' }) :
    wpAny (model prog w) A (Builtin.«zip.__next__» ⟨[.ref z], []⟩) (fun fin s' => ∃ v, fin = .done (.ret v) ∧ Q v s') E s := by
  obtain ⟨a0, a1, rfl⟩ : ∃ a0 a1, a = #[a0, a1] := by
    obtain ⟨l⟩ := a
    match l, ha with
    | [a0, a1], _ => exact ⟨a0, a1, rfl⟩
  show wpAny _ _ (field (.ref z) 2 >>= _) _ _ _
  refine wpAny_bind (wpAny_field hz rfl (x := .bool false) rfl ?_)
  show wpAny _ _ (field (.ref z) 3 >>= _) _ _ _
  refine wpAny_bind (wpAny_field hz rfl (x := .ref TI) rfl (wpAny_bind (wpAny_seqItems hTI rfl ?_)))
  show wpAny _ _ (Builtin.SmallTypes.ownedTupleIsFree (.ref z) >>= _) _ _ _
  refine wpAny_bind ?_
  unfold Builtin.SmallTypes.ownedTupleIsFree
  refine wpAny_bind (wpAny_field hz rfl (x := .none) rfl (wpAny_pure ?_))
  simp only [if_true]
  refine wpAny_bind (wpAny_rule (wpAny_bind (wpAny_field hz rfl (x := .ref TO) rfl (wpAny_bind (wpAny_setField_rec hz (by simp) fun g1 hz1 s1 => ?_)))))
  replace hz1 : IsZip g1 z TI TO .ellipsis := hz1
  have K1 := Kb.of s1
  refine wpAny_bind ?_
  simp only [List.zipIdx_cons, List.zipIdx_nil, List.forIn_cons, List.forIn_nil]
  -- the first
  refine wpAny_bind (wpAny_bind (wpAny_onRaise ?_))
  show wpAny _ _ (Builtin.SmallTypes.nextOf (.ref c1.i) >>= _) _ _ _
  refine wpAny_bind (Cp.next (Cp.it_at h1 (K1.2 _ (by simp [D.z1]))) (Cp.sq_at l1 (K1.2 _ (by have := D.ls c1.l (.inl rfl); simp [this.1]))) hx fun g2 i1 s2 => wpAny_pure ?_)
  have K2 := K1.step s2
  have O2 : TupAt g2 TO #[a0, a1] := (K2.2 TO (by simp [D.oz, D.o1.symm])).trans hTO
  refine wpAny_bind (wpAny_seqItems O2 rfl (wpAny_bind (put_two O2 fun g3 O3 s3 => wpAny_bind (wpAny_letGo (wpAny_pure ?_)))))
  replace O3 : TupAt g3 TO #[x, a1] := O3
  have K3 := K2.step s3
  have i1 := Cp.it_at i1 (s3.2 _ D.o1)
  -- the second
  refine wpAny_bind (wpAny_bind (wpAny_onRaise ?_))
  show wpAny _ _ (Builtin.SmallTypes.nextOf (.ref c2.i) >>= _) _ _ _
  refine wpAny_bind (Cp.next (Cp.it_at h2 (K3.2 _ (by simp [D.z2, D.o2, D.n12.symm]))) (Cp.sq_at l2 (K3.2 _ (by have := D.ls c2.l (.inr rfl); simp [this.1, this.2.1, this.2.2.1]))) hy fun g4 i2 s4 => wpAny_pure ?_)
  have K4 := K3.step s4
  have O4 : TupAt g4 TO #[x, a1] := (s4.2 _ D.o2.symm).trans O3
  refine wpAny_bind (wpAny_seqItems O4 rfl (wpAny_bind (put_two O4 fun g5 O5 s5 => wpAny_bind (wpAny_letGo (wpAny_pure (wpAny_pure ?_))))))
  replace O5 : TupAt g5 TO #[x, y] := O5
  have K5 := K4.step s5
  have i1 := Cp.it_at (Cp.it_at i1 (s4.2 _ D.n12)) (s5.2 _ D.o1)
  have i2 := Cp.it_at i2 (s5.2 _ D.o2)
  have Z5 : IsZip g5 z TI TO .ellipsis := (((s5.2 _ D.oz.symm).trans ((s4.2 _ D.z2.symm).trans ((s3.2 _ D.oz.symm).trans ((s2.2 _ D.z1.symm).trans hz1)))))
  refine wpAny_bind (wpAny_seqItems O5 rfl (wpAny_bind (wpAny_newTuple ?_)))
  have sz : g5.objs.size = s.heap.objs.size := K5.1
  have lt : ∀ {c : Addr} {o : Obj}, g5.get? c = some o → c ≠ g5.objs.size := fun e => Nat.ne_of_lt (Heap.lt_size e)
  show wpAny _ _ (Builtin.SmallTypes.ownedTupleHandOut (.ref z) (.ref g5.objs.size) >>= _) _ _ _
  refine wpAny_bind ?_
  unfold Builtin.SmallTypes.ownedTupleHandOut
  have Z8 : IsZip (g5.push { cls := .type "tuple", data := .seq #[x, y] }) z TI TO .ellipsis := Heap.get?_push_of_some _ Z5
  refine wpAny_bind (wpAny_setField_rec Z8 (by simp) fun g9 Z9 s9 => ?_)
  replace Z9 : IsZip g9 z TI TO (rawInt g5.objs.size) := Z9
  refine wpAny_setField_rec Z9 (by simp) fun ga Za sa => ?_
  replace Za : IsZip ga z TI TO (rawInt g5.objs.size) := Za
  have up : ∀ c o, c ≠ z → g5.get? c = some o → ga.get? c = some o := fun c o n e => (sa.2 c n).trans ((s9.2 c n).trans (Heap.get?_push_of_some _ e))
  have Ta : TupAt ga g5.objs.size #[x, y] := (sa.2 _ (lt Z5).symm).trans ((s9.2 _ (lt Z5).symm).trans (Heap.get?_push_size _ rfl))
  have za : ga.objs.size = g5.objs.size + 1 := by rw [sa.1, s9.1, Heap.size_push]
  rw [sz] at Za Ta za
  refine wpAny_pure ⟨_, rfl, ?_⟩
  show Q (.ref g5.objs.size) _
  rw [sz]
  exact hQ ga Za (up _ _ D.oz O5) (Cp.it_to i1 fun o e => up _ o D.z1 e) (Cp.it_to i2 fun o e => up _ o D.z2 e) Ta za fun c o n1 n2 n3 n4 e => up c o n1 ((K5.2 c (by simp [n1, n2, n3, n4])).trans e)
theorem zip2_end {z TI TO : Addr} {c1 c2 : Cp} {k : Nat} {a : Array Value} {Q : Fin → Shared → Prop} (hh : A.handled = none) (D : Ap2 z TI TO c1 c2)
    (hz : IsZip s.heap z TI TO .none) (hTI : TupAt s.heap TI #[.ref c1.i, .ref c2.i]) (hTO : TupAt s.heap TO a) (ha : a.size = 2)
    (h1 : c1.it s.heap k) (h2 : c2.it s.heap k) (l1 : c1.sq s.heap) (l2 : c2.sq s.heap) (hend : c1.xs[k]? = none ∨ c2.xs[k]? = none)
    (hE : ∀ h' e, (∀ c o, c ≠ z → c ≠ TO → c ≠ c1.i → c ≠ c2.i → s.heap.get? c = some o → h'.get? c = some o) → (∃ o, h'.get? e = some o ∧ o.cls = .type "StopIteration") → E (.ref e) { s with heap := h' }) :
    wpAny (model prog w) A (Builtin.«zip.__next__» ⟨[.ref z], []⟩) Q E s := by
  obtain ⟨a0, a1, rfl⟩ : ∃ a0 a1, a = #[a0, a1] := by
    obtain ⟨l⟩ := a
    match l, ha with
    | [a0, a1], _ => exact ⟨a0, a1, rfl⟩
  show wpAny _ _ (field (.ref z) 2 >>= _) _ _ _
  refine wpAny_bind (wpAny_field hz rfl (x := .bool false) rfl ?_)
  show wpAny _ _ (field (.ref z) 3 >>= _) _ _ _
  refine wpAny_bind (wpAny_field hz rfl (x := .ref TI) rfl (wpAny_bind (wpAny_seqItems hTI rfl ?_)))
  show wpAny _ _ (Builtin.SmallTypes.ownedTupleIsFree (.ref z) >>= _) _ _ _
  refine wpAny_bind ?_
  unfold Builtin.SmallTypes.ownedTupleIsFree
  refine wpAny_bind (wpAny_field hz rfl (x := .none) rfl (wpAny_pure ?_))
  simp only [if_true]
  refine wpAny_bind (wpAny_rule (wpAny_bind (wpAny_field hz rfl (x := .ref TO) rfl (wpAny_bind (wpAny_setField_rec hz (by simp) fun g1 hz1 s1 => ?_)))))
  replace hz1 : IsZip g1 z TI TO .ellipsis := hz1
  have K1 := Kb.of s1
  refine wpAny_bind ?_
  simp only [List.zipIdx_cons, List.zipIdx_nil, List.forIn_cons, List.forIn_nil]
  have fin : ∀ (S : List Addr) (g : Heap) (e : Addr), (∀ c o, c ∉ S → s.heap.get? c = some o → g.get? c = some o) → S ⊆ [z, TO, c1.i, c2.i] → IsZip g z TI TO .ellipsis → (∃ o, g.get? e = some o ∧ o.cls = .type "StopIteration") →
      wpAny (model prog w) A (setField (.ref z) 0 .none) (fun _ s' => E (.ref e) s') E { s with heap := g } := fun S g e k sub hz4 he => by
    obtain ⟨oe, hoe, hce⟩ := he
    have ne : e ≠ z := fun q => by subst q; rw [hz4] at hoe; cases hoe; simp at hce
    refine wpAny_setField_rec hz4 (by simp) fun g5 _ s5 => hE g5 e (fun c o n1 n2 n3 n4 q => s5.extBut _ _ n1 (k c o (fun m => by have := sub m; simp [n1, n2, n3, n4] at this) q)) ⟨oe, s5.extBut _ _ ne hoe, hce⟩
  -- the first
  refine wpAny_bind (wpAny_bind (wpAny_onRaise ?_))
  show wpAny _ _ (Builtin.SmallTypes.nextOf (.ref c1.i) >>= _) _ _ _
  cases hx : c1.xs[k]? with
  | none =>
    refine wpAny_bind (Cp.stop hh (Cp.it_at h1 (K1.2 _ (by simp [D.z1]))) (Cp.sq_at l1 (K1.2 _ (by have := D.ls c1.l (.inl rfl); simp [this.1]))) hx fun g e s2 he => ?_)
    exact fin [c1.i, z] g e (K1.ext s2) (by intro m hm; simp only [List.mem_cons, List.not_mem_nil, or_false] at hm ⊢; grind) (s2 _ _ D.z1.symm hz1) he
  | some x =>
  refine wpAny_bind (Cp.next (Cp.it_at h1 (K1.2 _ (by simp [D.z1]))) (Cp.sq_at l1 (K1.2 _ (by have := D.ls c1.l (.inl rfl); simp [this.1]))) hx fun g2 i1 s2 => wpAny_pure ?_)
  have K2 := K1.step s2
  have O2 : TupAt g2 TO #[a0, a1] := (K2.2 TO (by simp [D.oz, D.o1.symm])).trans hTO
  refine wpAny_bind (wpAny_seqItems O2 rfl (wpAny_bind (put_two O2 fun g3 O3 s3 => wpAny_bind (wpAny_letGo (wpAny_pure ?_)))))
  replace O3 : TupAt g3 TO #[x, a1] := O3
  have K3 := K2.step s3
  have Z3 : IsZip g3 z TI TO .ellipsis := (s3.2 _ D.oz.symm).trans ((s2.2 _ D.z1.symm).trans hz1)
  -- the second
  refine wpAny_bind (wpAny_bind (wpAny_onRaise ?_))
  show wpAny _ _ (Builtin.SmallTypes.nextOf (.ref c2.i) >>= _) _ _ _
  have J2 := Cp.it_at h2 (K3.2 _ (by simp [D.z2, D.o2, D.n12.symm]))
  have M2 := Cp.sq_at l2 (K3.2 _ (by have := D.ls c2.l (.inr rfl); simp [this.1, this.2.1, this.2.2.1]))
  have hy : c2.xs[k]? = none := by
    rcases hend with q | q
    · rw [hx] at q; cases q
    · exact q
  · refine wpAny_bind (Cp.stop hh J2 M2 hy fun g e s4 he => ?_)
    exact fin [c2.i, TO, c1.i, z] g e (K3.ext s4) (by intro m hm; simp only [List.mem_cons, List.not_mem_nil, or_false] at hm ⊢; grind) (s4 _ _ D.z2.symm Z3) he
theorem pyNext_zip2_item {z TI TO : Addr} {c1 c2 : Cp} {k : Nat} {x y : Value} {a : Array Value} {Q : Option Value → Shared → Prop} (D : Ap2 z TI TO c1 c2)
    (hz : IsZip s.heap z TI TO .none) (hTI : TupAt s.heap TI #[.ref c1.i, .ref c2.i]) (hTO : TupAt s.heap TO a) (ha : a.size = 2)
    (h1 : c1.it s.heap k) (h2 : c2.it s.heap k) (l1 : c1.sq s.heap) (l2 : c2.sq s.heap) (hx : c1.xs[k]? = some x) (hy : c2.xs[k]? = some y)
    (hQ : ∀ h', IsZip h' z TI TO (rawInt s.heap.objs.size) → TupAt h' TO #[x, y] → c1.it h' (k + 1) → c2.it h' (k + 1) → TupAt h' s.heap.objs.size #[x, y] → h'.objs.size = s.heap.objs.size + 1 →
      (∀ c o, c ≠ z → c ≠ TO → c ≠ c1.i → c ≠ c2.i → s.heap.get? c = some o → h'.get? c = some o) → Q (some (.ref s.heap.objs.size)) { s with heap := h' }) :
    wpAny (model prog w) A (pyNext (.ref z)) Q E s := by
  have hT : s.TypeIs (.ref z) "zip" := ⟨_, hz, rfl⟩
  unfold pyNext
  refine wpAny_bind (wpAny_attempt (wpAny_callSpecial?_slot (name := Str.ofString "__next__") hT F.slot_zip_next (wpAny_call_entry F.slot_zip_next hT F.entry_zip_next ?_ (F.args_zip_next_1 _))))
  exact zip2_item D hz hTI hTO ha h1 h2 l1 l2 hx hy fun h' b1 b2 b3 b4 b5 b6 b7 => wpAny_pure (hQ h' b1 b2 b3 b4 b5 b6 b7)
theorem pyNext_zip2_end {z TI TO : Addr} {c1 c2 : Cp} {k : Nat} {a : Array Value} {Q : Option Value → Shared → Prop} (hh : A.handled = none) (D : Ap2 z TI TO c1 c2)
    (hz : IsZip s.heap z TI TO .none) (hTI : TupAt s.heap TI #[.ref c1.i, .ref c2.i]) (hTO : TupAt s.heap TO a) (ha : a.size = 2)
    (h1 : c1.it s.heap k) (h2 : c2.it s.heap k) (l1 : c1.sq s.heap) (l2 : c2.sq s.heap) (hend : c1.xs[k]? = none ∨ c2.xs[k]? = none)
    (hQ : ∀ h', (∀ c o, c ≠ z → c ≠ TO → c ≠ c1.i → c ≠ c2.i → s.heap.get? c = some o → h'.get? c = some o) → Q none { s with heap := h' }) : wpAny (model prog w) A (pyNext (.ref z)) Q E s := by
  have hT : s.TypeIs (.ref z) "zip" := ⟨_, hz, rfl⟩
  unfold pyNext
  refine wpAny_bind (wpAny_attempt (wpAny_callSpecial?_slot (name := Str.ofString "__next__") hT F.slot_zip_next (wpAny_call_entry F.slot_zip_next hT F.entry_zip_next (zip2_end hh D hz hTI hTO ha h1 h2 l1 l2 hend fun h' e hk he => ?_) (F.args_zip_next_1 _))))
  obtain ⟨o, ho, hc⟩ := he
  exact wpAny_bind (wpAny_isInstance (T := "StopIteration") (b := true) ⟨o, ho, hc⟩ isSubtype_stop (wpAny_pure (hQ _ hk)))
end
abbrev y3a (h : Heap) (c1 : Cp) : Heap := h.push (itObj c1.b c1.l)
abbrev y3b (h : Heap) (c1 c2 : Cp) : Heap := (y3a h c1).push (itObj c2.b c2.l)
abbrev y3d (h : Heap) (c1 c2 : Cp) : Heap := (y3b h c1 c2).push { cls := .type "tuple", data := .seq #[.ref h.objs.size, .ref (y3a h c1).objs.size] }
abbrev y3e (h : Heap) (c1 c2 : Cp) : Heap := (y3d h c1 c2).push { cls := .type "tuple", data := .seq #[.none, .none] }
abbrev y3f (h : Heap) (c1 c2 : Cp) : Heap := (y3e h c1 c2).push { cls := .type "zip", data := .fields #[.none, .bool false, .bool false, .ref (y3b h c1 c2).objs.size, .ref (y3d h c1 c2).objs.size] }
theorem meets_zip2 (c1 c2 : Cp) : Meets (Builtin.«zip.__new__» ⟨[.type "zip", .ref c1.l, .ref c2.l], []⟩) (fun _ R s => c1.sq s.heap ∧ c2.sq s.heap ∧
      R (.ok (.ret (.ref (y3e s.heap c1 c2).objs.size))) { s with heap := y3f s.heap c1 c2 }) :=
  .of_wp fun prog w A R s h => by
    obtain ⟨hp, g, d, tk, os⟩ := s
    obtain ⟨k1, k2, h⟩ := h
    have hsub := sub_zip
    have L1 : c1.sq (Shared.heap ⟨hp, g, d, tk, os⟩) := k1
    have L2 : c2.sq (Shared.heap ⟨hp.push (itObj c1.b c1.l), g, d, tk, os⟩) := Cp.sq_push k2 _
    wp_walk using Cp.iter L1, Cp.iter L2
    exact ⟨_, rfl, h⟩
section
variable {prog : Program} {w : World} {A : Around} {E : Value → Shared → Prop} {s : Shared}
theorem call_zip2m {b1 b2 : Bool} {l1 l2 : Addr} {xs ys : Array Value} {Q : Value → Shared → Prop} (k1 : Cp.sq ⟨b1, s.heap.objs.size, l1, xs⟩ s.heap) (k2 : Cp.sq ⟨b2, s.heap.objs.size + 1, l2, ys⟩ s.heap)
    (h : ∀ h', IsZip h' (s.heap.objs.size + 4) (s.heap.objs.size + 2) (s.heap.objs.size + 3) .none → TupAt h' (s.heap.objs.size + 2) #[.ref s.heap.objs.size, .ref (s.heap.objs.size + 1)] →
      TupAt h' (s.heap.objs.size + 3) #[.none, .none] → Cp.it ⟨b1, s.heap.objs.size, l1, xs⟩ h' 0 → Cp.it ⟨b2, s.heap.objs.size + 1, l2, ys⟩ h' 0 → h'.objs.size = s.heap.objs.size + 5 →
      (∀ c o, s.heap.get? c = some o → h'.get? c = some o) → Q (.ref (s.heap.objs.size + 4)) { s with heap := h' }) :
    wpAny (model prog w) A (call (.type "zip") [.ref l1, .ref l2]) Q E s := by
  refine callType_new F.called_zip (by decide) (F.typeCall_zip_2 _ _) (F.newCall_zip_2 _ _) (fun obj => F.args_object_init_3 obj _ _) F.entry_zip_new (meets_zip2 ⟨b1, s.heap.objs.size, l1, xs⟩ ⟨b2, s.heap.objs.size + 1, l2, ys⟩) ⟨k1, k2, ?_⟩
  generalize hc1 : (⟨b1, s.heap.objs.size, l1, xs⟩ : Cp) = c1
  generalize hc2 : (⟨b2, s.heap.objs.size + 1, l2, ys⟩ : Cp) = c2
  have e1 : c1.i = s.heap.objs.size := by rw [← hc1]
  have e2 : c2.i = s.heap.objs.size + 1 := by rw [← hc2]
  have z1 : (y3a s.heap c1).objs.size = s.heap.objs.size + 1 := Heap.size_push ..
  have z2 : (y3b s.heap c1 c2).objs.size = s.heap.objs.size + 2 := by rw [Heap.size_push, z1]
  have z4 : (y3d s.heap c1 c2).objs.size = s.heap.objs.size + 3 := by rw [Heap.size_push, z2]
  have z5 : (y3e s.heap c1 c2).objs.size = s.heap.objs.size + 4 := by rw [Heap.size_push, z4]
  have z6 : (y3f s.heap c1 c2).objs.size = s.heap.objs.size + 5 := by rw [Heap.size_push, z5]
  have g6 : (y3f s.heap c1 c2).get? (y3e s.heap c1 c2).objs.size = some _ := Heap.get?_push_size _ rfl
  have g5 : (y3f s.heap c1 c2).get? (y3d s.heap c1 c2).objs.size = some _ := Heap.get?_push_of_some _ (Heap.get?_push_size _ rfl)
  have g4 : (y3f s.heap c1 c2).get? (y3b s.heap c1 c2).objs.size = some _ := Heap.get?_push_of_some _ (Heap.get?_push_of_some _ (Heap.get?_push_size _ rfl))
  have g2 : (y3f s.heap c1 c2).get? (y3a s.heap c1).objs.size = some _ := Heap.get?_push_of_some _ (Heap.get?_push_of_some _ (Heap.get?_push_of_some _ (Heap.get?_push_size _ rfl)))
  have g1 : (y3f s.heap c1 c2).get? s.heap.objs.size = some _ := Heap.get?_push_of_some _ (Heap.get?_push_of_some _ (Heap.get?_push_of_some _ (Heap.get?_push_of_some _ (Heap.get?_push_size _ rfl))))
  show _ ∧ _
  rw [hc1, hc2] at h
  rw [z2, z4, z5] at g6
  rw [z4] at g5
  rw [z1, z2] at g4
  rw [z1, ← e2] at g2
  rw [← e1] at g1
  rw [z5]
  exact ⟨⟨_, g6, rfl⟩, h _ g6 g4 g5 (itObj_it g1) (itObj_it g2) z6 fun c o x =>
    Heap.get?_push_of_some _ (Heap.get?_push_of_some _ (Heap.get?_push_of_some _ (Heap.get?_push_of_some _ (Heap.get?_push_of_some _ x))))⟩
end
def Itz2 (K : PySem.W.Frag) (b1 b2 : Bool) (a b : Addr) : It :=
  ⟨fun i H => ∃ (xs ys : List V) (x y : V), SqB b1 K H a xs ∧ SqB b2 K H b ys ∧ xs[i]? = some x ∧ ys[i]? = some y,
    fun i H v H' => ∃ T x y, v = .ref T ∧ H T = none ∧ H' = upd H T (.tup [x, y]) ∧ (∀ xs, SqB b1 K H a xs → xs[i]? = some x) ∧ ∀ ys, SqB b2 K H b ys → ys[i]? = some y,
    fun i H => ∃ xs ys : List V, SqB b1 K H a xs ∧ SqB b2 K H b ys ∧ (xs.length ≤ i ∨ ys.length ≤ i)⟩
theorem five {p : Addr → Prop} {z TI TO i1 i2 : Addr} (h1 : p z) (h2 : p TI) (h3 : p TO) (h4 : p i1) (h5 : p i2) : ∀ c, c ∈ [z, TI, TO, i1, i2] → p c := fun c hc => by
  have e' : c = z ∨ c = TI ∨ c = TO ∨ c = i1 ∨ c = i2 := by simpa using hc
  rcases e' with rfl | rfl | rfl | rfl | rfl <;> assumption
theorem turn_zip2 {P : Program} {w : World} {K : PySem.W.Frag} {elts : List Expr} {kk : Nat} {tpos : Pos} {b1 b2 : Bool} {a b z TI TO i1 i2 : Addr} (D : Ap2 z TI TO ⟨b1, i1, a, #[]⟩ ⟨b2, i2, b, #[]⟩) :
    Turn P w K (.Tuple elts kk tpos) (Itz2 K b1 b2 a b) [z, TI, TO, i1, i2] z (fun i h => IsZip h z TI TO .none ∧ TupAt h TI #[.ref i1, .ref i2] ∧ (∃ x y, TupAt h TO #[x, y]) ∧ Cp.it ⟨b1, i1, a, #[]⟩ h i ∧ Cp.it ⟨b2, i2, b, #[]⟩ h i) where
  mem := by simp
  obj := fun i h st c hc => by
    obtain ⟨hz, hTI, ⟨x, y, hTO⟩, h1, h2⟩ := st
    obtain ⟨o1, f1, e1, d1⟩ := Cp.it_obj h1
    obtain ⟨o2, f2, e2, d2⟩ := Cp.it_obj h2
    exact five (p := fun c => ∃ o, h.get? c = some o ∧ ∀ v, o.data ≠ .cell v) ⟨_, hz, fun v q => nomatch q⟩ ⟨_, hTI, fun v q => nomatch q⟩ ⟨_, hTO, fun v q => nomatch q⟩ ⟨o1, e1, fun v q => by rw [d1] at q; cases q⟩ ⟨o2, e2, fun v q => by rw [d2] at q; cases q⟩ c hc
  keep := fun i h h' st k => by
    obtain ⟨hz, hTI, ⟨x, y, hTO⟩, h1, h2⟩ := st
    exact ⟨k z (by simp) _ hz, k TI (by simp) _ hTI, ⟨x, y, k TO (by simp) _ hTO⟩, Cp.it_to h1 fun o q => k i1 (by simp) o q, Cp.it_to h2 fun o q => k i2 (by simp) o q⟩
  item := by
    intro X hP hw hK hc i pins s σ H E I hf st hg
    subst hP hw hK
    obtain ⟨hz, hTI, ⟨x0, y0, hTO⟩, h1, h2⟩ := st
    obtain ⟨xs, ys, x, y, hq1, hq2, hx, hy⟩ := hg
    obtain ⟨its1, rv1, p1⟩ := hq1.cp I
    obtain ⟨its2, rv2, p2⟩ := hq2.cp I
    obtain ⟨v1, w1, r1⟩ := rv1.get hx
    obtain ⟨v2, w2, r2⟩ := rv2.get hy
    have hzl : z < s.heap.objs.size := Heap.lt_size hz
    have D' : Ap2 z TI TO ⟨b1, i1, a, its1.toArray⟩ ⟨b2, i2, b, its2.toArray⟩ := ⟨D.tz, D.oz, D.to, D.z1, D.z2, D.t1, D.t2, D.o1, D.o2, D.n12, D.ls⟩
    refine pyNext_zip2_item D' hz hTI hTO rfl (Cp.it_xs h1) (Cp.it_xs h2) (p1 i1) (p2 i2) (x := v1) (y := v2) (by simpa using w1) (by simpa using w2) fun h' z' TO' h1' h2' hT hsz hk => ?_
    refine ⟨_, rfl, wpAny_letOwnedTupleGo_zip (s := { s with heap := h' }) z' fun h'' z'' sb => ?_⟩
    have hT2 : h''.get? s.heap.objs.size = some { cls := .type "tuple", data := .seq #[v1, v2] } := (sb.2 _ (Nat.ne_of_gt hzl)).trans hT
    have new : ObjOk X.prog X.w (upd H s.heap.objs.size (.tup [x, y])) h'' s.heap.objs.size (.tup [x, y]) :=
      ⟨by show 2 ≤ sizeLine; decide, [v1, v2], .cons r1 (.cons r2 .nil), ⟨_, hT2, rfl, _, rfl⟩⟩
    have kp : ∀ c o, c ∉ [z, TI, TO, i1, i2] → s.heap.get? c = some o → h''.get? c = some o := fun c o hb q => by
      have hb' : ¬(c = z ∨ c = TI ∨ c = TO ∨ c = i1 ∨ c = i2) := fun e => hb (by simpa using e)
      simp only [not_or] at hb'
      exact (sb.2 c hb'.1).trans (hk c o hb'.1 hb'.2.2.1 hb'.2.2.2.1 hb'.2.2.2.2 q)
    have I1 : L2.Inv X pins σ (upd H s.heap.objs.size (.tup [x, y])) { s with heap := h'' } := I.turnedNew (t' := s.toks) (ch := [z, TI, TO, i1, i2]) (fun c o hb q => kp c o hb q) hf (Nat.le_refl _) new
    refine ⟨.ref s.heap.objs.size, _, I1, rfl, ⟨_, x, y, rfl, I.hok.fresh (Nat.le_refl _), rfl, fun l hl => by rw [SqB.inj I hl hq1]; exact hx, fun l hl => by rw [SqB.inj I hl hq2]; exact hy⟩, ⟨z'', ?_, ⟨v1, v2, ?_⟩, ?_, ?_⟩, fun c hcm => ?_⟩
    · exact (sb.2 _ D.tz).trans (hk _ _ D.tz D.to D.t1.symm D.t2.symm hTI)
    · exact (sb.2 _ D.oz).trans TO'
    · exact Cp.it_at (Cp.it_xs h1') (sb.2 _ D.z1)
    · exact Cp.it_at (Cp.it_xs h2') (sb.2 _ D.z2)
    · have hlt : c < s.heap.objs.size := by
        obtain ⟨_, _, e1, _⟩ := Cp.it_obj h1
        obtain ⟨_, _, e2, _⟩ := Cp.it_obj h2
        exact five (p := fun c => c < s.heap.objs.size) hzl (Heap.lt_size hTI) (Heap.lt_size hTO) (Heap.lt_size e1) (Heap.lt_size e2) c hcm
      rw [upd_ne (Nat.ne_of_lt hlt)]
      exact (hf c hcm).1
  done := by
    intro X hP hw hK hc i pins s σ H E I hf st hg
    subst hP hw hK
    obtain ⟨hz, hTI, ⟨x0, y0, hTO⟩, h1, h2⟩ := st
    obtain ⟨xs, ys, hq1, hq2, hend⟩ := hg
    obtain ⟨its1, rv1, p1⟩ := hq1.cp I
    obtain ⟨its2, rv2, p2⟩ := hq2.cp I
    have l1 := rv1.length
    have l2 := rv2.length
    have D' : Ap2 z TI TO ⟨b1, i1, a, its1.toArray⟩ ⟨b2, i2, b, its2.toArray⟩ := ⟨D.tz, D.oz, D.to, D.z1, D.z2, D.t1, D.t2, D.o1, D.o2, D.n12, D.ls⟩
    have he : its1.toArray[i]? = none ∨ its2.toArray[i]? = none := by
      rcases hend with q | q
      · exact .inl (by simp; omega)
      · exact .inr (by simp; omega)
    refine pyNext_zip2_end (I.ok.hd hc) D' hz hTI hTO rfl (Cp.it_xs h1) (Cp.it_xs h2) (p1 i1) (p2 i2) he fun h' hk => ⟨rfl, I.turnedL (t' := s.toks) (ch := [z, TI, TO, i1, i2]) (fun c o hb q => ?_) hf⟩
    have hb' : ¬(c = z ∨ c = TI ∨ c = TO ∨ c = i1 ∨ c = i2) := fun e => hb (by simpa using e)
    simp only [not_or] at hb'
    exact hk c o hb'.1 hb'.2.2.1 hb'.2.2.2.1 hb'.2.2.2.2 q
  self := fun A i s Q E st h => wpAny_pyIter_zip st.1 h
theorem ap2_new {n a b : Nat} {b1 b2 : Bool} (h1 : a < n) (h2 : b < n) : Ap2 (n + 4) (n + 2) (n + 3) ⟨b1, n, a, #[]⟩ ⟨b2, n + 1, b, #[]⟩ where
  tz := by show (n + 2 : Nat) ≠ n + 4; omega
  oz := by show (n + 3 : Nat) ≠ n + 4; omega
  to := by show (n + 2 : Nat) ≠ n + 3; omega
  z1 := by show (n : Nat) ≠ n + 4; omega
  z2 := by show (n + 1 : Nat) ≠ n + 4; omega
  t1 := by show (n : Nat) ≠ n + 2; omega
  t2 := by show (n + 1 : Nat) ≠ n + 2; omega
  o1 := by show (n : Nat) ≠ n + 3; omega
  o2 := by show (n + 1 : Nat) ≠ n + 3; omega
  n12 := by show (n : Nat) ≠ n + 1; omega
  ls := fun l hl => by
    have hlt : (l : Nat) < n := by
      rcases hl with rfl | rfl
      · exact h1
      · exact h2
    exact ⟨Nat.ne_of_lt (Nat.lt_of_lt_of_le hlt (Nat.le_add_right n 4)), Nat.ne_of_lt (Nat.lt_of_lt_of_le hlt (Nat.le_add_right n 3)), Nat.ne_of_lt hlt, Nat.ne_of_lt (Nat.lt_of_lt_of_le hlt (Nat.le_add_right n 1))⟩
def iZip2 (K : PySem.W.Frag) (ta : TA) : TI := fun σ H R => ta σ H fun vs H1 => ∃ b1 b2 a b xs ys, vs = [.ref a, .ref b] ∧ SqB b1 K H1 a xs ∧ SqB b2 K H1 b ys ∧ R (Itz2 K b1 b2 a b) H1
theorem pi_zip2 (K : PySem.W.Frag) {X : Cx} (eK : X.K = K) {e e2 : Expr} {ta : TA} {p pos tpos : Pos} {elts : List Expr} {kk : Nat} (hg : Gl X "zip") (hm : X.mg "zip" = none) (ha : PA X [e, e2] ta)
    (hs : starEach [e, e2] X.env = (false, eval e X.env) :: starEach [e2] X.env := by rfl) (hpl : (backTo pos (starEach [e2] X.env)).any (·.1) = false := by rfl) :
    PI X (.Tuple elts kk tpos) (.Call (.Name "zip" p) [e, e2] [] pos) (iZip2 K ta) := by
  subst eK
  refine ⟨fun pins s σ H R I h => ?_⟩
  refine Call_ (ld_blt I hg hm PyProof.Rows.boot_zip (PyProof.Rows.callWith_type1 (thn (ha.run pos pins s σ H _ I h) fun us s1 ⟨vs, H1, I1, r1, q1⟩ => ?_) hs hpl))
  obtain ⟨b1, b2, a, b, xs, ys, ex, hq1, hq2, q⟩ := q1
  subst ex
  cases r1 with
  | cons r rr =>
    cases rr with
    | cons r' rr =>
      cases rr
      cases r
      cases r'
      obtain ⟨its1, rv1, p1⟩ := hq1.cp I1
      obtain ⟨its2, rv2, p2⟩ := hq2.cp I1
      have a1 := Cp.sq_lt (p1 0)
      have a2 := Cp.sq_lt (p2 0)
      refine call_zip2m (p1 _) (p2 _) fun h' hz hTI hTO h1 h2 hsz hk => wpAny_pyIter_zip hz ?_
      have I2 : L2.Inv X pins σ H1 { s1 with heap := h' } := I1.kept (t' := s1.toks) hk
      have fr : ∀ k : Nat, FpOk X pins H1 (s1.heap.objs.size + k) := fun k => I1.fpOk (Nat.le_add_right _ _) (I1.hok.fresh (Nat.le_add_right _ _))
      exact ⟨s1.heap.objs.size + 4, [s1.heap.objs.size + 4, s1.heap.objs.size + 2, s1.heap.objs.size + 3, s1.heap.objs.size, s1.heap.objs.size + 1], _, _, H1, rfl, I2, turn_zip2 (ap2_new a1 a2), ⟨hz, hTI, ⟨_, _, hTO⟩, Cp.it_xs h1, Cp.it_xs h2⟩, five (fr 4) (fr 2) (fr 3) (fr 0) (fr 1), q⟩
end
/-! ### zip of two or three, lists or tuples in any mixture: the values -/
def seqB : PV → Option (Bool × List PV)
  | .tup ps => some (false, ps)
  | .lst ps => some (true, ps)
  | .fls ps => some (true, ps)
  | _ => none
def zipW (x y : PV) : Res (List PV) := match seqB x, seqB y with
  | some (_, ps), some (_, qs) => .val (zipP ps qs)
  | _, _ => .stuck
def zip3P (ps qs rs : List PV) : List PV := List.zipWith (fun a bc => .tup [a, bc.1, bc.2]) ps (List.zip qs rs)
def zip3W (x y z : PV) : Res (List PV) := match seqB x, seqB y, seqB z with
  | some (_, ps), some (_, qs), some (_, rs) => .val (zip3P ps qs rs)
  | _, _, _ => .stuck
section
variable {K : PySem.W.Frag} {cl : Str → Option Addr} {W : WX} {bs O A : List Addr} {F H H' : Hp} {ρ : Ro} {σ : St} {te ta tb tc : TE} {m ma mb mc : Res PV} {P : Hp → Prop}
theorem Is.seq {v : V} {p : PV} {b : Bool} {ps : List PV} (h : Is K cl F v p) (e : seqB p = some (b, ps)) : ∃ a vs, v = .ref a ∧ IsL K cl F vs ps ∧ ∀ H2, Sub F H2 → SqB b K H2 a vs := by
  cases h with
  | tup h r => cases e; exact ⟨_, _, rfl, r, fun H2 s => by unfold SqB; rw [if_neg (by decide)]; exact s.sqT h⟩
  | lst h r => cases e; exact ⟨_, _, rfl, r, fun H2 s => by unfold SqB; rw [if_pos rfl]; exact .inl (.inl (s _ _ h))⟩
  | fls h r => cases e; exact ⟨_, _, rfl, r, fun H2 s => by unfold SqB; rw [if_pos rfl]; exact s.sqL h⟩
  | _ => cases e
theorem IsV.seq {v : V} {p : PV} {b : Bool} {ps : List PV} (h : IsV K cl F H v p) (s : Sub F H) (e : seqB p = some (b, ps)) : ∃ a vs, v = .ref a ∧ IsL K cl F vs ps ∧ ∀ H2, Sub H H2 → SqB b K H2 a vs := by
  cases p with
  | tup qs =>
    have h : Is K cl F v (.tup qs) := h
    obtain ⟨a, vs, e1, r, k⟩ := h.seq e
    exact ⟨a, vs, e1, r, fun H2 s2 => k H2 (s.trans s2)⟩
  | lst qs =>
    obtain ⟨a, vs, rfl, h, r⟩ := h
    cases e
    exact ⟨a, vs, rfl, r, fun H2 s2 => by unfold SqB; rw [if_pos rfl]; exact .inl (.inl (s2 _ _ h))⟩
  | fls qs =>
    have h : Is K cl F v (.fls qs) := h
    obtain ⟨a, vs, e1, r, k⟩ := h.seq e
    exact ⟨a, vs, e1, r, fun H2 s2 => k H2 (s.trans s2)⟩
  | _ => cases e
theorem itOk_z2 {b1 b2 : Bool} {a b : Addr} {vs ws : List V} {ps qs : List PV} (h1 : ∀ H, P H → Sub F H → SqB b1 K H a vs) (h2 : ∀ H, P H → Sub F H → SqB b2 K H b ws) (hl : IsL K cl F vs ps) (hr : IsL K cl F ws qs) : ItOk K cl (fun H => P H ∧ Sub F H) F (Itz2 K b1 b2 a b) (zipP ps qs) :=
  itOk_zip (R1 := fun H xs => SqB b1 K H a xs) (R2 := fun H xs => SqB b2 K H b xs) h1 h2 hl hr (fun _ _ h => h) (fun _ _ _ _ h => h) (fun i H ⟨xs, ys, h1, h2, e⟩ => ⟨xs, ys, h1, h2, by omega⟩)
theorem it_zip2 (ha : Pur K cl W ta ρ ma) (hb : Pur K cl W te ρ m) : Iter K cl W (iZip2 K (tCons ta (tCons te tNil))) ρ (ma >>= fun x => m >>= fun y => zipW x y) := fun O bs σ H R r q => by
  refine ha O bs σ H _ r (wp_mono (wp_bind.mp q) (fun x qx v1 H1 s1 i1 => ?_) fun _ z => z)
  refine hb O bs σ H1 _ (r.same s1) (wp_mono (wp_bind.mp qx) (fun y w v2 H2 s2 i2 => ?_) fun _ z => z.mono s1)
  have i1' := i1.mono (frz_same (A := O ++ adr ρ σ) s2)
  unfold zipW at w
  split at w
  · next b1 ps b2 qs e1 e2 =>
    obtain ⟨a, vs, rfl, l1, k1⟩ := i1'.seq e1
    obtain ⟨b, ws, rfl, l2, k2⟩ := i2.seq e2
    exact ⟨b1, b2, a, b, vs, ws, rfl, k1 _ frz_sub, k2 _ frz_sub, w _ H2 (s1.trans s2) ((itOk_z2 (P := fun _ => True) (fun H _ sF => k1 H sF) (fun H _ sF => k2 H sF) l1 l2).of fun H B _ sF => ⟨trivial, sF.trans frz_sub⟩)⟩
  · exact w.elim
theorem itv_zip2 (ha : Vw K cl W ta ρ ma) (hb : Vw K cl W te ρ m) : IterV K cl W (iZip2 K (tCons ta (tCons te tNil))) ρ (ma >>= fun x => m >>= fun y => zipW x y) := fun O bs σ H R r q => by
  refine ha O bs σ H _ r (wp_mono (wp_bind.mp q) (fun x qx v1 H1 s1 i1 => ?_) fun _ z => z)
  refine hb O bs σ H1 _ (r.same s1) (wp_mono (wp_bind.mp qx) (fun y w v2 H2 s2 i2 => ?_) fun _ z => z.mono s1)
  have i1' := i1.mono (frz_same (A := O ++ adr ρ σ) s2) s2
  unfold zipW at w
  split at w
  · next b1 ps b2 qs e1 e2 =>
    obtain ⟨a, vs, rfl, l1, k1⟩ := i1'.seq frz_sub e1
    obtain ⟨b, ws, rfl, l2, k2⟩ := i2.seq frz_sub e2
    exact ⟨b1, b2, a, b, vs, ws, rfl, k1 _ .refl, k2 _ .refl, w _ H2 (s1.trans s2) ((itOk_z2 (P := Sub H2) (fun H s _ => k1 H s) (fun H s _ => k2 H s) l1 l2).of fun H B s sF => ⟨s, sF.trans frz_sub⟩)⟩
  · exact w.elim
theorem zip3_get {ps qs rs : List PV} {i : Nat} {p : PV} (h : (zip3P ps qs rs)[i]? = some p) : ∃ a b c, ps[i]? = some a ∧ qs[i]? = some b ∧ rs[i]? = some c ∧ p = .tup [a, b, c] := by
  unfold zip3P at h
  rw [List.getElem?_zipWith] at h
  split at h
  · next a bc h1 h2 =>
    rw [List.zip, List.getElem?_zipWith] at h2
    split at h2
    · next b c h3 h4 =>
      cases h2
      exact ⟨a, b, c, h1, h3, h4, (Option.some.inj h).symm⟩
    · cases h2
  · cases h
theorem three_new {B : List Addr} {H : Hp} {T : Addr} {x y z : V} {p q r : PV} (hT : H T = none) (hB : ∀ a, a ∈ B → ∃ o, H a = some o) (h1 : Is K cl (frz H B) x p) (h2 : Is K cl (frz H B) y q) (h3 : Is K cl (frz H B) z r) : Is K cl (frz (upd H T (.tup [x, y, z])) B) (.ref T) (.tup [p, q, r]) :=
  new_tup hB hT (.cons h1 (.cons h2 (.one h3)))
theorem itOk_z3 {b1 b2 b3 : Bool} {a b c : Addr} {vs ws us : List V} {ps qs rs : List PV} (h1 : ∀ H, P H → Sub F H → SqB b1 K H a vs) (h2 : ∀ H, P H → Sub F H → SqB b2 K H b ws) (h3 : ∀ H, P H → Sub F H → SqB b3 K H c us) (hl : IsL K cl F vs ps) (hr : IsL K cl F ws qs) (ht : IsL K cl F us rs) :
    ItOk K cl (fun H => P H ∧ Sub F H) F (Itz3 K b1 b2 b3 a b c) (zip3P ps qs rs) := fun H B hp sF hB => by
  have a1 := h1 H hp.1 hp.2
  have a2 := h2 H hp.1 hp.2
  have a3 := h3 H hp.1 hp.2
  refine ⟨⟨vs, ws, us, a1, a2, a3, ?_⟩, fun i p hi => ?_⟩
  · unfold zip3P
    rw [List.length_zipWith, List.length_zip, hl.len, hr.len, ht.len]
    omega
  · obtain ⟨x, y, z, e1, e2, e3, rfl⟩ := zip3_get hi
    obtain ⟨v, f1, i1⟩ := hl.get e1
    obtain ⟨w, f2, i2⟩ := hr.get e2
    obtain ⟨u, f3, i3⟩ := ht.get e3
    refine ⟨⟨vs, ws, us, v, w, u, a1, a2, a3, f1, f2, f3⟩, fun x H' hyx => ?_⟩
    obtain ⟨T, x1, y1, z1, rfl, hT, rfl, q1, q2, q3⟩ := hyx
    have b1 := q1 vs a1
    have b2 := q2 ws a2
    have b3 := q3 us a3
    rw [f1] at b1
    rw [f2] at b2
    rw [f3] at b3
    cases b1
    cases b2
    cases b3
    exact ⟨sub_new hT _, three_new hT hB (i1.mono sF) (i2.mono sF) (i3.mono sF)⟩
theorem it_zip3 (ha : Pur K cl W ta ρ ma) (hb : Pur K cl W tb ρ mb) (hc : Pur K cl W tc ρ mc) : Iter K cl W (iZip3 K (tCons ta (tCons tb (tCons tc tNil)))) ρ (ma >>= fun x => mb >>= fun y => mc >>= fun z => zip3W x y z) := fun O bs σ H R r q => by
  refine ha O bs σ H _ r (wp_mono (wp_bind.mp q) (fun x qx v1 H1 s1 i1 => ?_) fun _ z => z)
  refine hb O bs σ H1 _ (r.same s1) (wp_mono (wp_bind.mp qx) (fun y qy v2 H2 s2 i2 => ?_) fun _ z => z.mono s1)
  have s12 := s1.trans s2
  refine hc O bs σ H2 _ (r.same s12) (wp_mono (wp_bind.mp qy) (fun z w v3 H3 s3 i3 => ?_) fun _ z => z.mono s12)
  have i1' := i1.mono (frz_same (A := O ++ adr ρ σ) (s2.trans s3))
  have i2' := i2.mono (frz_same (A := O ++ adr ρ σ) s3)
  unfold zip3W at w
  split at w
  · next b1 ps b2 qs b3 rs e1 e2 e3 =>
    obtain ⟨a, vs, rfl, l1, k1⟩ := i1'.seq e1
    obtain ⟨b, ws, rfl, l2, k2⟩ := i2'.seq e2
    obtain ⟨c, us, rfl, l3, k3⟩ := i3.seq e3
    exact ⟨b1, b2, b3, a, b, c, vs, ws, us, rfl, k1 _ frz_sub, k2 _ frz_sub, k3 _ frz_sub, w _ H3 (s12.trans s3) ((itOk_z3 (P := fun _ => True) (fun H _ sF => k1 H sF) (fun H _ sF => k2 H sF) (fun H _ sF => k3 H sF) l1 l2 l3).of fun H B _ sF => ⟨trivial, sF.trans frz_sub⟩)⟩
  · exact w.elim
theorem itv_zip3 (ha : Vw K cl W ta ρ ma) (hb : Vw K cl W tb ρ mb) (hc : Vw K cl W tc ρ mc) : IterV K cl W (iZip3 K (tCons ta (tCons tb (tCons tc tNil)))) ρ (ma >>= fun x => mb >>= fun y => mc >>= fun z => zip3W x y z) := fun O bs σ H R r q => by
  refine ha O bs σ H _ r (wp_mono (wp_bind.mp q) (fun x qx v1 H1 s1 i1 => ?_) fun _ z => z)
  refine hb O bs σ H1 _ (r.same s1) (wp_mono (wp_bind.mp qx) (fun y qy v2 H2 s2 i2 => ?_) fun _ z => z.mono s1)
  have s12 := s1.trans s2
  refine hc O bs σ H2 _ (r.same s12) (wp_mono (wp_bind.mp qy) (fun z w v3 H3 s3 i3 => ?_) fun _ z => z.mono s12)
  have i1' := i1.mono (frz_same (A := O ++ adr ρ σ) (s2.trans s3)) (s2.trans s3)
  have i2' := i2.mono (frz_same (A := O ++ adr ρ σ) s3) s3
  unfold zip3W at w
  split at w
  · next b1 ps b2 qs b3 rs e1 e2 e3 =>
    obtain ⟨a, vs, rfl, l1, k1⟩ := i1'.seq frz_sub e1
    obtain ⟨b, ws, rfl, l2, k2⟩ := i2'.seq frz_sub e2
    obtain ⟨c, us, rfl, l3, k3⟩ := i3.seq frz_sub e3
    exact ⟨b1, b2, b3, a, b, c, vs, ws, us, rfl, k1 _ .refl, k2 _ .refl, k3 _ .refl, w _ H3 (s12.trans s3) ((itOk_z3 (P := Sub H3) (fun H s _ => k1 H s) (fun H s _ => k2 H s) (fun H s _ => k3 H s) l1 l2 l3).of fun H B s sF => ⟨s, sF.trans frz_sub⟩)⟩
  · exact w.elim
end
def top (i : Nat) : Stmt := PySem.Challenge.pw_hushpapers_k02_values_and_interpolation.main.body.getD i (.Pass ⟨0, 0, 0, 0⟩)
abbrev s_Lbox : Stmt := top 12
theorem scLbox : FnScope ["script", "at", "cell"] ["script", "at"] (defScope s_Lbox) := ⟨rfl, rfl, rfl, by decide +kernel, rfl, by decide +kernel, by decide +kernel⟩
abbrev s_Lmix : Stmt := top 11
theorem scLmix : FnScope ["cell", "salt", "one"] ["cell", "salt"] (defScope s_Lmix) := ⟨rfl, rfl, rfl, by decide +kernel, rfl, by decide +kernel, by decide +kernel⟩
abbrev s_Ldraw : Stmt := top 13
theorem scLdraw : FnScope ["box", "many", "cell", "drawn"] ["box", "many"] (defScope s_Ldraw) := ⟨rfl, rfl, rfl, by decide +kernel, rfl, by decide +kernel, by decide +kernel⟩
abbrev s_Lis_prime : Stmt := top 15
theorem scLis_prime : FnScope ["n", "k"] ["n"] (defScope s_Lis_prime) := ⟨rfl, rfl, rfl, by decide +kernel, rfl, by decide +kernel, by decide +kernel⟩
abbrev s_Lprime : Stmt := top 16
theorem scLprime : FnScope ["box", "low", "high", "at", "turn", "n"] ["box", "low", "high"] (defScope s_Lprime) := ⟨rfl, rfl, rfl, by decide +kernel, rfl, by decide +kernel, by decide +kernel⟩
abbrev s_Lalike : Stmt := top 14
theorem scLalike : FnScope ["told", "due", "k"] ["told", "due"] (defScope s_Lalike) := ⟨rfl, rfl, rfl, by decide +kernel, rfl, by decide +kernel, by decide +kernel⟩
abbrev s_times_root : Stmt := top 7
theorem sctimes_root : FnScope ["coefficients", "root", "q", "raised_by_x", "kept", "high", "low"] ["coefficients", "root", "q"] (defScope s_times_root) := ⟨rfl, rfl, rfl, by decide +kernel, rfl, by decide +kernel, by decide +kernel⟩
abbrev s_without_root : Stmt := top 8
theorem scwithout_root : FnScope ["coefficients", "root", "q", "quotient", "carry", "coefficient"] ["coefficients", "root", "q"] (defScope s_without_root) := ⟨rfl, rfl, rfl, by decide +kernel, rfl, by decide +kernel, by decide +kernel⟩
abbrev s_inverse : Stmt := top 5
theorem scinverse : FnScope ["a", "q", "larger", "smaller", "larger_factor", "smaller_factor", "times"] ["a", "q"] (defScope s_inverse) := ⟨rfl, rfl, rfl, by decide +kernel, rfl, by decide +kernel, by decide +kernel⟩
abbrev s_value_at : Stmt := top 6
theorem scvalue_at : FnScope ["coefficients", "x", "q", "value", "coefficient"] ["coefficients", "x", "q"] (defScope s_value_at) := ⟨rfl, rfl, rfl, by decide +kernel, rfl, by decide +kernel, by decide +kernel⟩
abbrev s_interpolate : Stmt := top 9
theorem scinterpolate : FnScope ["points", "q", "places", "point", "whole", "place", "found", "part", "scale", "old", "new"] ["points", "q"] (defScope s_interpolate) := ⟨rfl, rfl, rfl, by decide +kernel, rfl, by decide +kernel, by decide +kernel⟩
abbrev s_Lasked : Stmt := top 20
theorem scLasked : FnScope ["points", "q"] ["points", "q"] (defScope s_Lasked) := ⟨rfl, rfl, rfl, by decide +kernel, rfl, by decide +kernel, by decide +kernel⟩
abbrev s_Lgreat : Stmt := top 17
theorem scLgreat : FnScope ["box", "size", "number", "k"] ["box"] (defScope s_Lgreat) := ⟨rfl, rfl, rfl, by decide +kernel, rfl, by decide +kernel, by decide +kernel⟩
abbrev s_Lplaces : Stmt := top 19
theorem scLplaces : FnScope ["box", "q", "many", "left", "x", "places", "k", "place"] ["box", "q", "many"] (defScope s_Lplaces) := ⟨rfl, rfl, rfl, by decide +kernel, rfl, by decide +kernel, by decide +kernel⟩
abbrev s_Lrefused : Stmt := top 22
theorem scLrefused : FnScope ["box", "q", "many", "points", "x", "twice", "other"] ["box", "q"] (defScope s_Lrefused) := ⟨rfl, rfl, rfl, by decide +kernel, rfl, by decide +kernel, by decide +kernel⟩
abbrev s_Lvalue : Stmt := top 18
theorem scLvalue : FnScope ["coefficients", "x", "q", "total", "k"] ["coefficients", "x", "q"] (defScope s_Lvalue) := ⟨rfl, rfl, rfl, by decide +kernel, rfl, by decide +kernel, by decide +kernel⟩
abbrev s_Lmeets : Stmt := top 21
theorem scLmeets : FnScope ["box", "q", "many", "coefficients", "k", "points", "x", "more", "wide", "point", "due", "wider", "part", "at", "value", "told"] ["box", "q"] (defScope s_Lmeets) := ⟨rfl, rfl, rfl, by decide +kernel, rfl, by decide +kernel, by decide +kernel⟩
abbrev s_law : Stmt := top 23
theorem sclaw : FnScope ["script", "box", "far", "q"] ["script"] (defScope s_law) := ⟨rfl, rfl, rfl, by decide +kernel, rfl, by decide +kernel, by decide +kernel⟩
def g_interpolate_0_q_points {α : Type} (us ws : List α) : List α := match us, ws with | [], [w0, w1] => [w1, w0] | _, _ => []
theorem g_interpolate_0_q_points_rel {vs : List V} {us : List Value} {zs : List V} {ws : List Value} (r : Vals vs us) (q : Vals zs ws) : Vals (g_interpolate_0_q_points vs zs) (g_interpolate_0_q_points us ws) := by
  unfold g_interpolate_0_q_points
  split
  · match r, q with | .nil, (.cons q0 (.cons q1 .nil)) => exact (.cons q1 (.cons q0 .nil))
  · next h =>
    split
    · match r, q with | .nil, (.cons q0 (.cons q1 .nil)) => exact (h _ _ rfl rfl).elim
    · exact .nil
theorem g_interpolate_0_q_points_rel' : True := True.intro
def g_value_at_0_x_q_coefficients {α : Type} (us ws : List α) : List α := match us, ws with | [], [w0, w1, w2] => [w2, w0, w1] | _, _ => []
theorem g_value_at_0_x_q_coefficients_rel {vs : List V} {us : List Value} {zs : List V} {ws : List Value} (r : Vals vs us) (q : Vals zs ws) : Vals (g_value_at_0_x_q_coefficients vs zs) (g_value_at_0_x_q_coefficients us ws) := by
  unfold g_value_at_0_x_q_coefficients
  split
  · match r, q with | .nil, (.cons q0 (.cons q1 (.cons q2 .nil))) => exact (.cons q2 (.cons q0 (.cons q1 .nil)))
  · next h =>
    split
    · match r, q with | .nil, (.cons q0 (.cons q1 (.cons q2 .nil))) => exact (h _ _ _ rfl rfl).elim
    · exact .nil
theorem g_value_at_0_x_q_coefficients_rel' : True := True.intro
structure Top (K : PySem.W.Frag) (mg : Str → Option Value) where
  f__law_box : Addr
  d__law_box : FuncData
  F__law_box : Fun K "_law_box" "_law_box" s_Lbox f__law_box d__law_box
  m__law_box : mg "_law_box" = some (.ref f__law_box)
  b__law_box : Binds K d__law_box ["script", "at"] []
  f__law_mix : Addr
  d__law_mix : FuncData
  F__law_mix : Fun K "_law_mix" "_law_mix" s_Lmix f__law_mix d__law_mix
  m__law_mix : mg "_law_mix" = some (.ref f__law_mix)
  b__law_mix : Binds K d__law_mix ["cell", "salt"] []
  f__law_draw : Addr
  d__law_draw : FuncData
  F__law_draw : Fun K "_law_draw" "_law_draw" s_Ldraw f__law_draw d__law_draw
  m__law_draw : mg "_law_draw" = some (.ref f__law_draw)
  b__law_draw : Binds K d__law_draw ["box", "many"] []
  f__law_is_prime : Addr
  d__law_is_prime : FuncData
  F__law_is_prime : Fun K "_law_is_prime" "_law_is_prime" s_Lis_prime f__law_is_prime d__law_is_prime
  m__law_is_prime : mg "_law_is_prime" = some (.ref f__law_is_prime)
  b__law_is_prime : Binds K d__law_is_prime ["n"] []
  f__law_prime : Addr
  d__law_prime : FuncData
  F__law_prime : Fun K "_law_prime" "_law_prime" s_Lprime f__law_prime d__law_prime
  m__law_prime : mg "_law_prime" = some (.ref f__law_prime)
  b__law_prime : Binds K d__law_prime ["box", "low", "high"] []
  f__law_alike : Addr
  d__law_alike : FuncData
  F__law_alike : Fun K "_law_alike" "_law_alike" s_Lalike f__law_alike d__law_alike
  m__law_alike : mg "_law_alike" = some (.ref f__law_alike)
  b__law_alike : Binds K d__law_alike ["told", "due"] []
  f_times_root : Addr
  d_times_root : FuncData
  F_times_root : Fun K "times_root" "times_root" s_times_root f_times_root d_times_root
  m_times_root : mg "times_root" = some (.ref f_times_root)
  b_times_root : Binds K d_times_root ["coefficients", "root", "q"] []
  f_without_root : Addr
  d_without_root : FuncData
  F_without_root : Fun K "without_root" "without_root" s_without_root f_without_root d_without_root
  m_without_root : mg "without_root" = some (.ref f_without_root)
  b_without_root : Binds K d_without_root ["coefficients", "root", "q"] []
  f_inverse : Addr
  d_inverse : FuncData
  F_inverse : Fun K "inverse" "inverse" s_inverse f_inverse d_inverse
  m_inverse : mg "inverse" = some (.ref f_inverse)
  b_inverse : Binds K d_inverse ["a", "q"] []
  f_value_at : Addr
  d_value_at : FuncData
  F_value_at : Fun K "value_at" "value_at" s_value_at f_value_at d_value_at
  m_value_at : mg "value_at" = some (.ref f_value_at)
  b_value_at : Binds K d_value_at ["coefficients", "x", "q"] []
  f_interpolate : Addr
  d_interpolate : FuncData
  F_interpolate : Fun K "interpolate" "interpolate" s_interpolate f_interpolate d_interpolate
  m_interpolate : mg "interpolate" = some (.ref f_interpolate)
  b_interpolate : Binds K d_interpolate ["points", "q"] []
  f__law_asked : Addr
  d__law_asked : FuncData
  F__law_asked : Fun K "_law_asked" "_law_asked" s_Lasked f__law_asked d__law_asked
  m__law_asked : mg "_law_asked" = some (.ref f__law_asked)
  b__law_asked : Binds K d__law_asked ["points", "q"] []
  f__law_great : Addr
  d__law_great : FuncData
  F__law_great : Fun K "_law_great" "_law_great" s_Lgreat f__law_great d__law_great
  m__law_great : mg "_law_great" = some (.ref f__law_great)
  b__law_great : Binds K d__law_great ["box"] []
  f__law_places : Addr
  d__law_places : FuncData
  F__law_places : Fun K "_law_places" "_law_places" s_Lplaces f__law_places d__law_places
  m__law_places : mg "_law_places" = some (.ref f__law_places)
  b__law_places : Binds K d__law_places ["box", "q", "many"] []
  f__law_refused : Addr
  d__law_refused : FuncData
  F__law_refused : Fun K "_law_refused" "_law_refused" s_Lrefused f__law_refused d__law_refused
  m__law_refused : mg "_law_refused" = some (.ref f__law_refused)
  b__law_refused : Binds K d__law_refused ["box", "q"] []
  f__law_value : Addr
  d__law_value : FuncData
  F__law_value : Fun K "_law_value" "_law_value" s_Lvalue f__law_value d__law_value
  m__law_value : mg "_law_value" = some (.ref f__law_value)
  b__law_value : Binds K d__law_value ["coefficients", "x", "q"] []
  f__law_meets : Addr
  d__law_meets : FuncData
  F__law_meets : Fun K "_law_meets" "_law_meets" s_Lmeets f__law_meets d__law_meets
  m__law_meets : mg "_law_meets" = some (.ref f__law_meets)
  b__law_meets : Binds K d__law_meets ["box", "q"] []
  f_law : Addr
  d_law : FuncData
  F_law : Fun K "law" "law" s_law f_law d_law
  m_law : mg "law" = some (.ref f_law)
  b_law : Binds K d_law ["script"] []
  k_interpolate_0_q_points : KBinds K d_interpolate ["points", "q"] ["q", "points"] (g_interpolate_0_q_points) (g_interpolate_0_q_points)
  k_value_at_0_x_q_coefficients : KBinds K d_value_at ["coefficients", "x", "q"] ["x", "q", "coefficients"] (g_value_at_0_x_q_coefficients) (g_value_at_0_x_q_coefficients)
  z_all : mg "all" = none
  z_bool : mg "bool" = none
  z_int : mg "int" = none
  z_isinstance : mg "isinstance" = none
  z_len : mg "len" = none
  z_list : mg "list" = none
  z_range : mg "range" = none
  z_reversed : mg "reversed" = none
  z_set : mg "set" = none
  z_str : mg "str" = none
  z_tuple : mg "tuple" = none
  z_zip : mg "zip" = none
  c_BadPoints : Addr
  m_BadPoints : mg "BadPoints" = some (.ref c_BadPoints)
  kc_BadPoints : PySem.W.keepIn K (.ref c_BadPoints) = true
  s_BadPoints : PySem.W.subIn K (.ref c_BadPoints) (.type "BaseException") = some true
  t_BadPoints : PySem.W.typeIn K (.ref c_BadPoints) = some (.type "type")
  i_BadPoints : PySem.W.isClsIn K c_BadPoints = true
  hd_BadPoints : PySem.W.hasDictIn K c_BadPoints = true
  x_BadPoints : PySem.W.excIn K c_BadPoints [.type "ValueError", .type "Exception", .type "BaseException", .type "object"] "ValueError.__new__" = true
  c_NoInverse : Addr
  m_NoInverse : mg "NoInverse" = some (.ref c_NoInverse)
  kc_NoInverse : PySem.W.keepIn K (.ref c_NoInverse) = true
  s_NoInverse : PySem.W.subIn K (.ref c_NoInverse) (.type "BaseException") = some true
  t_NoInverse : PySem.W.typeIn K (.ref c_NoInverse) = some (.type "type")
  i_NoInverse : PySem.W.isClsIn K c_NoInverse = true
  hd_NoInverse : PySem.W.hasDictIn K c_NoInverse = true
  x_NoInverse : PySem.W.excIn K c_NoInverse [.type "ValueError", .type "Exception", .type "BaseException", .type "object"] "ValueError.__new__" = true
  u_BadPoints_BadPoints : PySem.W.subIn K (.ref c_BadPoints) (.ref c_BadPoints) = some true
  u_NoInverse_BadPoints : PySem.W.subIn K (.ref c_NoInverse) (.ref c_BadPoints) = some false
def clT {K : PySem.W.Frag} {mg : Str → Option Value} (T : Top K mg) : Str → Option Addr := fun s => if s = "BadPoints" then some T.c_BadPoints else if s = "NoInverse" then some T.c_NoInverse else none
theorem Top.ce_BadPoints {K : PySem.W.Frag} {mg : Str → Option Value} (T : Top K mg) : clT T "BadPoints" = some T.c_BadPoints := by
  unfold clT
  simp (config := { decide := true }) only [if_true, if_false]
theorem Top.ce_NoInverse {K : PySem.W.Frag} {mg : Str → Option Value} (T : Top K mg) : clT T "NoInverse" = some T.c_NoInverse := by
  unfold clT
  simp (config := { decide := true }) only [if_true, if_false]
def hit_BadPoints : Str → Option Bool := fun s => if s = "BadPoints" then some true else if s = "NoInverse" then some false else none
theorem Top.hit_BadPoints {K : PySem.W.Frag} {mg : Str → Option Value} (T : Top K mg) : ∀ c' C b, clT T c' = some C → Toy.hit_BadPoints c' = some b → PySem.W.exmOne K (.ref C) (.ref T.c_BadPoints) = some b := by
  intro c' C b h1 h2
  unfold Toy.hit_BadPoints at h2
  by_cases e_BadPoints : c' = "BadPoints"
  · subst e_BadPoints
    rw [if_pos rfl] at h2
    cases (Option.some.inj ((T.ce_BadPoints).symm.trans h1))
    cases (Option.some.inj h2)
    exact PySem.W.exm_ref T.s_BadPoints T.hd_BadPoints T.t_BadPoints T.u_BadPoints_BadPoints
  rw [if_neg e_BadPoints] at h2
  by_cases e_NoInverse : c' = "NoInverse"
  · subst e_NoInverse
    simp (config := { decide := true }) only [if_true, if_false] at h2
    cases (Option.some.inj ((T.ce_NoInverse).symm.trans h1))
    cases (Option.some.inj h2)
    exact PySem.W.exm_ref T.s_BadPoints T.hd_BadPoints T.t_BadPoints T.u_NoInverse_BadPoints
  rw [if_neg e_NoInverse] at h2
  cases h2
section
variable {P : Program} {w : World} {K : PySem.W.Frag} {mg : Str → Option Value} {base : Heap}
theorem g_interpolate_0_q_points_is {K : PySem.W.Frag} {cl : Str → Option Addr} {F : Hp} {vs : List V} {ps : List PV} {ws : List V} {zs : List PV} (r : IsL K cl F vs ps) (q : IsL K cl F ws zs) : IsL K cl F (g_interpolate_0_q_points vs ws) (g_interpolate_0_q_points ps zs) := by
  unfold g_interpolate_0_q_points
  split
  · match r, q with | .nil, (.cons q0 (.cons q1 .nil)) => exact (.cons q1 (.cons q0 .nil))
  · next h =>
    split
    · match r, q with | .nil, (.cons q0 (.cons q1 .nil)) => exact (h _ _ rfl rfl).elim
    · exact .nil
theorem g_value_at_0_x_q_coefficients_is {K : PySem.W.Frag} {cl : Str → Option Addr} {F : Hp} {vs : List V} {ps : List PV} {ws : List V} {zs : List PV} (r : IsL K cl F vs ps) (q : IsL K cl F ws zs) : IsL K cl F (g_value_at_0_x_q_coefficients vs ws) (g_value_at_0_x_q_coefficients ps zs) := by
  unfold g_value_at_0_x_q_coefficients
  split
  · match r, q with | .nil, (.cons q0 (.cons q1 (.cons q2 .nil))) => exact (.cons q2 (.cons q0 (.cons q1 .nil)))
  · next h =>
    split
    · match r, q with | .nil, (.cons q0 (.cons q1 (.cons q2 .nil))) => exact (h _ _ _ rfl rfl).elim
    · exact .nil
def m__law_box (a_script : PV) (a_at : PV) : Res MO := retN ((((Res.val (PV.int 0)) >>= fun x14 => ((Res.val (PV.int 0)) >>= fun x12 => ((Res.val a_at) >>= fun x10 => ((Res.val (PV.int 0)) >>= fun x8 => ((Res.val a_at) >>= fun x6 => (((((Res.val a_script) >>= asSq) >>= fun ps2 => sized ps2.length >>= fun _ => lcF (fun x => Res.val x) (fun (a1 : PV) => (Res.val true)) (fun (a1 : PV) => ((Res.val a1) >>= intP)) ps2) >>= fun ps3 => Res.val (PV.lst ps3)) >>= fun x4 => (Res.val []) >>= fun xs5 => Res.val (x4 :: xs5)) >>= fun xs7 => Res.val (x6 :: xs7)) >>= fun xs9 => Res.val (x8 :: xs9)) >>= fun xs11 => Res.val (x10 :: xs11)) >>= fun xs13 => Res.val (x12 :: xs13)) >>= fun xs15 => Res.val (x14 :: xs15)) >>= mkN) >>= fun l16 => Res.val (.ro (.lst l16) []))
theorem ok__law_box (T : Top K mg) : FnOk P w K mg base (L2.CX P w) 1 T.f__law_box T.d__law_box ["script", "at"] (spN K (clT T) (apN2 m__law_box)) := by
  refine fnN T.F__law_box scLbox rfl taknN2 fun cdv A outer s H E hr qs hq => ?_
  match qs, hq with
  | [a_script, a_at], _ => exact ⟨_, (pss_one (ps_ret (pe_lst (pa_cons pe_int (pa_cons pe_int (pa_cons (pv 1) (pa_cons pe_int (pa_cons (pv 1) (pa_cons (pe_lc (own := [("cell", 2)]) (g := gName 2) (tt := tYes) rfl scLbox.nd (pi_seqV K rfl (pv 0)) (blkOk_by (own := [("cell", 2)]) (N := ["script", "at", "cell"]) (sc := defScope s_Lbox) (by decide +kernel)) (fun _ _ _ _ _ => (pg_name (i := 2) scLbox.nd rfl (Or.inl rfl))) (fun _ _ _ _ _ => pts_nil) (fun _ _ _ _ _ => (pe_callTy call_intV (by rfl) T.z_int (by decide +kernel) (pa_cons (pv 2) pa_nil)))) pa_nil))))))))),
    _, run_one (run_retNew (nw_lst (pl_cons pu_int (pl_cons pu_int (pl_cons (pu_var rfl) (pl_cons pu_int (pl_cons (pu_var rfl) (pl_cons (New.pur (nw_lc (ρe := fun (a1 : PV) => [(.fz a_script), (.fz a_at), (.fz a1)]) (Iter.view (it_seq (pu_var rfl))) rfl (by decide) (tg_name (i := 2) rfl (Or.inr (by decide))) (fun a1 => ts_yes) (fun a1 => (pu_cb1 b1_int (Pur.vw (pu_var rfl)))))) pl_nil))))))) rfl rfl (wk_uns rfl)), rfl⟩
def m__law_mix (a_cell a_salt : PV) : Res PV := retF (((((((Res.val a_cell) >>= fun x1 => (Res.val (PV.int 48271)) >>= fun x2 => mulP x1 x2) >>= fun x5 => ((Res.val a_salt) >>= fun x3 => (Res.val (PV.int 69621)) >>= fun x4 => mulP x3 x4) >>= fun x6 => addP x5 x6) >>= fun x7 => (Res.val (PV.int 12345)) >>= fun x8 => addP x7 x8) >>= intP) >>= fun x9 => (Res.val (PV.int 2147483647)) >>= fun x10 => modP x9 x10) >>= fun x11 => (((((((Res.val x11) >>= fun x12 => (Res.val x11) >>= fun x13 => mulP x12 x13) >>= fun x16 => ((Res.val x11) >>= fun x14 => (Res.val (PV.int 16807)) >>= fun x15 => mulP x14 x15) >>= fun x17 => addP x16 x17) >>= fun x20 => ((Res.val a_salt) >>= fun x18 => (Res.val (PV.int 7919)) >>= fun x19 => mulP x18 x19) >>= fun x21 => addP x20 x21) >>= intP) >>= fun x22 => (Res.val (PV.int 2147483629)) >>= fun x23 => modP x22 x23) >>= fun v24 => Res.val (.rt v24 [])))
theorem ok__law_mix (T : Top K mg) : FnOk P w K mg base (L2.CX P w) 1 T.f__law_mix T.d__law_mix ["cell", "salt"] (spP K (clT T) (ap2 m__law_mix)) := by
  refine fnP T.F__law_mix scLmix rfl takn2 fun cdv A outer s H E hr qs hq => ?_
  match qs, hq with
  | [a_cell, a_salt], _ => exact ⟨_, (pss_cons (ps_set (i := 2) scLmix.nd rfl (Or.inl rfl) (pe_op op_modN (pe_callTy call_intV (by rfl) T.z_int (by decide +kernel) (pa_cons (pe_op (op_addV K rfl) (pe_op (op_addV K rfl) (pe_op op_mulV (pv 0) pe_int) (pe_op op_mulV (pv 1) pe_int)) pe_int) pa_nil)) pe_int))
      (pss_one (ps_ret (pe_op op_modN (pe_callTy call_intV (by rfl) T.z_int (by decide +kernel) (pa_cons (pe_op (op_addV K rfl) (pe_op (op_addV K rfl) (pe_op op_mulV (pv 2) (pv 2)) (pe_op op_mulV (pv 2) pe_int)) (pe_op op_mulV (pv 1) pe_int)) pa_nil)) pe_int)))),
    _, run_one (run_assoc (run_set (i := 2) (pu_op o2_mod (Pur.vw (pu_cb1 b1_int (Pur.vw (pu_op o2_add (Pur.vw (pu_op o2_add (Pur.vw (pu_op o2_mul (Pur.vw (pu_var rfl)) (Pur.vw pu_int))) (Pur.vw (pu_op o2_mul (Pur.vw (pu_var rfl)) (Pur.vw pu_int))))) (Pur.vw pu_int))))) (Pur.vw pu_int)) rfl (wk_uns rfl) fun x11 => (run_ret (pu_op o2_mod (Pur.vw (pu_cb1 b1_int (Pur.vw (pu_op o2_add (Pur.vw (pu_op o2_add (Pur.vw (pu_op o2_mul (Pur.vw (pu_var rfl)) (Pur.vw (pu_var rfl)))) (Pur.vw (pu_op o2_mul (Pur.vw (pu_var rfl)) (Pur.vw pu_int))))) (Pur.vw (pu_op o2_mul (Pur.vw (pu_var rfl)) (Pur.vw pu_int))))))) (Pur.vw pu_int)) rfl rfl (wk_uns rfl)))), rfl⟩
def m__law_draw (mo : MO) (a_many : PV) : Res (PV × MO) := match mo with
  | .lst a_box => retR (seqF (S1 := List PV) ((((((Res.val (PV.lst a_box)) >>= fun x7 => (Res.val (PV.int 1)) >>= fun x8 => ixP x7 x8) >>= fun x9 => (Res.val (PV.int 0)) >>= fun x10 => eqP x9 x10) >>= asB) >>= fun b11 => if b11 = true then ((((Res.val (PV.lst a_box)) >>= fun x1 => (Res.val (PV.int 2)) >>= fun x2 => ixP x1 x2) >>= fun x5 => (((Res.val (PV.lst a_box)) >>= fun x3 => (Res.val (PV.int 5)) >>= fun x4 => ixP x3 x4) >>= lenP) >>= fun x6 => ltP x5 x6) >>= asB) else Res.val false) >>= fun b12 => if b12 = true then ((((Res.val (PV.lst a_box)) >>= fun x14 => (Res.val (PV.int 5)) >>= fun x15 => ixP x14 x15) >>= fun x18 => ((Res.val (PV.lst a_box)) >>= fun x16 => (Res.val (PV.int 2)) >>= fun x17 => ixP x16 x17) >>= fun x19 => ixP x18 x19) >>= fun x20 => ((((Res.val (PV.lst a_box)) >>= fun x21 => (Res.val (PV.int 2)) >>= fun x22 => ixP x21 x22) >>= fun x23 => (Res.val (PV.int 2)) >>= fun x24 => addP x23 x24) >>= fun x25 => (Res.val (PV.int 2)) >>= fun k26 => setL a_box k26 x25 >>= fun qs27 => (((((((Res.val (PV.lst qs27)) >>= fun x28 => (Res.val (PV.int 4)) >>= fun x29 => ixP x28 x29) >>= fun x30 => (Res.val (PV.int 31)) >>= fun x31 => mulP x30 x31) >>= fun x32 => (Res.val x20) >>= fun x33 => addP x32 x33) >>= intP) >>= fun x34 => (Res.val (PV.int 2147483647)) >>= fun x35 => modP x34 x35) >>= fun x36 => (Res.val (PV.int 4)) >>= fun k37 => setL qs27 k37 x36 >>= fun qs38 => ((((Res.val x20) >>= fun x41 => ((Res.val (PV.int 10)) >>= fun x39 => (Res.val (PV.int 18)) >>= fun x40 => powP x39 x40) >>= fun x42 => geP x41 x42) >>= asB) >>= fun b43 => if b43 = true then (((Res.val x20) >>= fun x46 => ((Res.val (PV.int 10)) >>= fun x44 => (Res.val (PV.int 18)) >>= fun x45 => powP x44 x45) >>= fun x47 => subP x46 x47) >>= fun x48 => (Res.val (PV.int 0)) >>= fun k49 => setL qs38 k49 x48 >>= fun qs50 => ((Res.val (PV.int 60)) >>= fun x51 => (Res.val (PV.int 1)) >>= fun k52 => setL qs50 k52 x51 >>= fun qs53 => (Res.val (.nx qs53)))) else (Res.val (.nx qs38)))))) else (Res.val (.nx a_box))) fun s13 => ((((((Res.val (PV.lst s13)) >>= fun x58 => (Res.val (PV.int 1)) >>= fun x59 => ixP x58 x59) >>= fun x60 => (Res.val (PV.int 0)) >>= fun x61 => gtP x60 x61) >>= asB) >>= fun b62 => if b62 = true then ((((Res.val (PV.lst s13)) >>= fun x54 => (Res.val (PV.int 0)) >>= fun x55 => ixP x54 x55) >>= fun x56 => (Res.val (PV.int 0)) >>= fun x57 => gtP x56 x57) >>= asB) else Res.val false) >>= fun b63 => if b63 = true then (((((Res.val (PV.lst s13)) >>= fun x64 => (Res.val (PV.int 0)) >>= fun x65 => ixP x64 x65) >>= intP) >>= fun x66 => (Res.val a_many) >>= fun x67 => modP x66 x67) >>= fun x68 => ((((Res.val (PV.lst s13)) >>= fun x69 => (Res.val (PV.int 0)) >>= fun x70 => ixP x69 x70) >>= fun x71 => (Res.val a_many) >>= fun x72 => fdivP x71 x72) >>= fun x73 => (Res.val (PV.int 0)) >>= fun k74 => setL s13 k74 x73 >>= fun qs75 => ((((Res.val (PV.lst qs75)) >>= fun x76 => (Res.val (PV.int 1)) >>= fun x77 => ixP x76 x77) >>= fun x78 => (Res.val (PV.int 1)) >>= fun x79 => subP x78 x79) >>= fun x80 => (Res.val (PV.int 1)) >>= fun k81 => setL qs75 k81 x80 >>= fun qs82 => ((Res.val x68) >>= fun v83 => Res.val (.rt v83 [.lst qs82]))))) else ((Res.val (PV.int 0)) >>= fun x84 => (Res.val (PV.int 1)) >>= fun k85 => setL s13 k85 x84 >>= fun qs86 => ((((Res.val (PV.lst qs86)) >>= fun x87 => (Res.val (PV.int 3)) >>= fun x88 => ixP x87 x88) >>= fun x89 => (Res.val (PV.int 1)) >>= fun x90 => addP x89 x90) >>= fun x91 => (Res.val (PV.int 3)) >>= fun k92 => setL qs86 k92 x91 >>= fun qs93 => ((((((Res.val (PV.lst qs93)) >>= fun x94 => (Res.val (PV.int 4)) >>= fun x95 => ixP x94 x95) >>= fun x98 => ((Res.val (PV.lst qs93)) >>= fun x96 => (Res.val (PV.int 3)) >>= fun x97 => ixP x96 x97) >>= fun x99 => m__law_mix x98 x99) >>= intP) >>= fun x100 => (Res.val a_many) >>= fun x101 => modP x100 x101) >>= fun v102 => Res.val (.rt v102 [.lst qs93]))))))
  | _ => .stuck
theorem ok__law_draw (T : Top K mg) : FnOk P w K mg base (L2.CX P w) 2 T.f__law_draw T.d__law_draw ["box", "many"] (spR K (clT T) (apR1 m__law_draw)) := by
  have G__law_mix := ok__law_mix (P := P) (w := w) (base := base) T
  refine fnR T.F__law_draw scLdraw rfl taknR1 fun cdv A outer s H E hr mo qs hq => ?_
  match mo, qs, hq with
  | .dct _, [_], _ => exact .inl rfl
  | .ob _ _, [_], _ => exact .inl rfl
  | .lst a_box, [a_many], _ => exact .inr ⟨_, (pss_cons (ps_if (PW.pt (pw_and (pt_cmpR (op_eqV K rfl hr.units) (pe_ix (ix_VK K rfl) (pv 0) pe_int (fun _ _ => rfl)) pe_int (nomark _)) (pw_and1 (pt_cmpR op_lt (pe_ix (ix_VK K rfl) (pv 0) pe_int (fun _ _ => rfl)) (pe_callB (call_lenVK K rfl) (by rfl) T.z_len PySem.boot_len (pa_cons (pe_ix (ix_VK K rfl) (pv 0) pe_int (fun _ _ => rfl)) pa_nil)) (nomark _))))) (pss_cons (ps_set (i := 2) scLdraw.nd rfl (Or.inl rfl) (pe_ix (ix_VK K rfl) (pe_ix (ix_VK K rfl) (pv 0) pe_int (fun _ _ => rfl)) (pe_ix (ix_VK K rfl) (pv 0) pe_int (fun _ _ => rfl)) (fun _ _ => rfl)))
      (pss_cons (ps_asg (pe_op (op_addV K rfl) (pe_ix (ix_VK K rfl) (pv 0) pe_int (fun _ _ => rfl)) pe_int) (pg_sub (pv 0) pe_int set_list))
      (pss_cons (ps_asg (pe_op op_modN (pe_callTy call_intV (by rfl) T.z_int (by decide +kernel) (pa_cons (pe_op (op_addV K rfl) (pe_op op_mulV (pe_ix (ix_VK K rfl) (pv 0) pe_int (fun _ _ => rfl)) pe_int) (pv 2)) pa_nil)) pe_int) (pg_sub (pv 0) pe_int set_list))
      (pss_one (ps_if (pt_cmpR op_ge (pv 2) (pe_op op_pow pe_int pe_int) (nomark _)) (pss_cons (ps_asg (pe_op op_sub (pv 2) (pe_op op_pow pe_int pe_int)) (pg_sub (pv 0) pe_int set_list))
      (pss_one (ps_asg pe_int (pg_sub (pv 0) pe_int set_list)))) pss_nil))))) pss_nil)
      (pss_cons (ps_if (PW.pt (pw_and (pt_cmpR op_gt (pe_ix (ix_VK K rfl) (pv 0) pe_int (fun _ _ => rfl)) pe_int (nomark _)) (pw_and1 (pt_cmpR op_gt (pe_ix (ix_VK K rfl) (pv 0) pe_int (fun _ _ => rfl)) pe_int (nomark _))))) (pss_cons (ps_set (i := 3) scLdraw.nd rfl (Or.inl rfl) (pe_op op_modN (pe_callTy call_intV (by rfl) T.z_int (by decide +kernel) (pa_cons (pe_ix (ix_VK K rfl) (pv 0) pe_int (fun _ _ => rfl)) pa_nil)) (pv 1)))
      (pss_cons (ps_asg (pe_op op_fdivV (pe_ix (ix_VK K rfl) (pv 0) pe_int (fun _ _ => rfl)) (pv 1)) (pg_sub (pv 0) pe_int set_list))
      (pss_cons (ps_asg (pe_op op_sub (pe_ix (ix_VK K rfl) (pv 0) pe_int (fun _ _ => rfl)) pe_int) (pg_sub (pv 0) pe_int set_list))
      (pss_one (ps_ret (pv 3)))))) pss_nil)
      (pss_cons (ps_asg pe_int (pg_sub (pv 0) pe_int set_list))
      (pss_cons (ps_asg (pe_op (op_addV K rfl) (pe_ix (ix_VK K rfl) (pv 0) pe_int (fun _ _ => rfl)) pe_int) (pg_sub (pv 0) pe_int set_list))
      (pss_one (ps_ret (pe_op op_modN (pe_callTy call_intV (by rfl) T.z_int (by decide +kernel) (pa_cons (pe_callS G__law_mix (hr.mono (by decide)) (by rfl) T.m__law_mix T.F__law_mix.kp T.b__law_mix (fun σ => passAt (takes_of rfl rfl rfl rfl) σ) (pa_cons (pe_ix (ix_VK K rfl) (pv 0) pe_int (fun _ _ => rfl)) (pa_cons (pe_ix (ix_VK K rfl) (pv 0) pe_int (fun _ _ => rfl)) pa_nil))) pa_nil)) (pv 1)))))))),
    _, run_one (run_assoc (run_seq (ρj := fun (s13 : List PV) => [(.rf 0 (.lst s13)), (.fz a_many), .un, .un]) (run_one (run_if (ts_and (ts_cmp (Pur.vw (pu_op o2_eq (Pur.vw (pu_op o2_ix (vw_rf rfl) (Pur.vw pu_int))) (Pur.vw pu_int)))) (ts_cmp (Pur.vw (pu_op o2_lt (Pur.vw (pu_op o2_ix (vw_rf rfl) (Pur.vw pu_int))) (Pur.vw (pu_cb1 b1_len (Pur.vw (pu_op o2_ix (vw_rf rfl) (Pur.vw pu_int))))))))) (wk_uns rfl) (run_assoc (run_set (i := 2) (pu_op o2_ix (Pur.vw (pu_op o2_ix (vw_rf rfl) (Pur.vw pu_int))) (Pur.vw (pu_op o2_ix (vw_rf rfl) (Pur.vw pu_int)))) rfl (wk_uns rfl) fun x20 => (run_assoc (run_setitem (i := 0) rfl (Or.inr ⟨_, rfl⟩) (pu_op o2_add (Pur.vw (pu_op o2_ix (vw_rf rfl) (Pur.vw pu_int))) (Pur.vw pu_int)) (Pur.vw pu_int) (wk_uns rfl) fun qs27 => (run_assoc (run_setitem (i := 0) rfl (Or.inr ⟨_, rfl⟩) (pu_op o2_mod (Pur.vw (pu_cb1 b1_int (Pur.vw (pu_op o2_add (Pur.vw (pu_op o2_mul (Pur.vw (pu_op o2_ix (vw_rf rfl) (Pur.vw pu_int))) (Pur.vw pu_int))) (Pur.vw (pu_var rfl)))))) (Pur.vw pu_int)) (Pur.vw pu_int) (wk_uns rfl) fun qs38 => (run_if (ts_cmp (Pur.vw (pu_op o2_ge (Pur.vw (pu_var rfl)) (Pur.vw (pu_op o2_pow (Pur.vw pu_int) (Pur.vw pu_int)))))) (wk_uns rfl) (run_assoc (run_setitem (i := 0) rfl (Or.inr ⟨_, rfl⟩) (pu_op o2_sub (Pur.vw (pu_var rfl)) (Pur.vw (pu_op o2_pow (Pur.vw pu_int) (Pur.vw pu_int)))) (Pur.vw pu_int) (wk_uns rfl) fun qs50 => (run_setitem (i := 0) rfl (Or.inr ⟨_, rfl⟩) pu_int (Pur.vw pu_int) (wk_uns rfl) fun qs53 => (run_next (s := qs53) (.keep (.keep (.drop (.keep .nil)))))))) (run_skip (run_next (s := qs38) (.keep (.keep (.drop (.keep .nil))))))))))))) (run_skip (run_next (s := a_box) (.keep (.keep (.keep (.keep .nil)))))))) fun s13 => (run_assoc (run_if (ts_and (ts_cmp (Pur.vw (pu_op o2_gt (Pur.vw (pu_op o2_ix (vw_rf rfl) (Pur.vw pu_int))) (Pur.vw pu_int)))) (ts_cmp (Pur.vw (pu_op o2_gt (Pur.vw (pu_op o2_ix (vw_rf rfl) (Pur.vw pu_int))) (Pur.vw pu_int))))) (wk_uns rfl) (run_assoc (run_set (i := 3) (pu_op o2_mod (Pur.vw (pu_cb1 b1_int (Pur.vw (pu_op o2_ix (vw_rf rfl) (Pur.vw pu_int))))) (Pur.vw (pu_var rfl))) rfl (wk_uns rfl) fun x68 => (run_assoc (run_setitem (i := 0) rfl (Or.inr ⟨_, rfl⟩) (pu_op o2_fdiv (Pur.vw (pu_op o2_ix (vw_rf rfl) (Pur.vw pu_int))) (Pur.vw (pu_var rfl))) (Pur.vw pu_int) (wk_uns rfl) fun qs75 => (run_assoc (run_setitem (i := 0) rfl (Or.inr ⟨_, rfl⟩) (pu_op o2_sub (Pur.vw (pu_op o2_ix (vw_rf rfl) (Pur.vw pu_int))) (Pur.vw pu_int)) (Pur.vw pu_int) (wk_uns rfl) fun qs82 => (run_ret (pu_var rfl) rfl rfl (wk_uns rfl)))))))) (run_skip (run_assoc (run_setitem (i := 0) rfl (Or.inr ⟨_, rfl⟩) pu_int (Pur.vw pu_int) (wk_uns rfl) fun qs86 => (run_assoc (run_setitem (i := 0) rfl (Or.inr ⟨_, rfl⟩) (pu_op o2_add (Pur.vw (pu_op o2_ix (vw_rf rfl) (Pur.vw pu_int))) (Pur.vw pu_int)) (Pur.vw pu_int) (wk_uns rfl) fun qs93 => (run_ret (pu_op o2_mod (Pur.vw (pu_cb1 b1_int (Pur.vw (pu_call2 (pu_op o2_ix (vw_rf rfl) (Pur.vw pu_int)) (pu_op o2_ix (vw_rf rfl) (Pur.vw pu_int)))))) (Pur.vw (pu_var rfl))) rfl rfl (wk_uns rfl))))))))))), rfl⟩
def m__law_is_prime (a_n : PV) : Res PV := retF ((((Res.val a_n) >>= fun x1 => (Res.val (PV.int 2)) >>= fun x2 => ltP x1 x2) >>= asB) >>= fun b3 => if b3 = true then ((Res.val (PV.bl false)) >>= fun v4 => Res.val (.rt v4 [])) else (seqF (S1 := Unit) (((Res.val (PV.int 2)) >>= fun x5 => (Res.val (PV.int 40)) >>= fun x6 => rng2 x5 x6) >>= fun ps21 => forF (fun (x22 : PV) (s7 : Unit) => (fun x => Res.val x) x22 >>= fun (a8 : PV) => (((((Res.val a8) >>= fun x9 => (Res.val a8) >>= fun x10 => mulP x9 x10) >>= fun x11 => (Res.val a_n) >>= fun x12 => gtP x11 x12) >>= asB) >>= fun b13 => if b13 = true then ((Res.val (PV.bl true)) >>= fun v14 => Res.val (.rt v14 [])) else ((((((Res.val a_n) >>= intP) >>= fun x15 => (Res.val a8) >>= fun x16 => modP x15 x16) >>= fun x17 => (Res.val (PV.int 0)) >>= fun x18 => eqP x17 x18) >>= asB) >>= fun b19 => if b19 = true then ((Res.val (PV.bl false)) >>= fun v20 => Res.val (.rt v20 [])) else (Res.val (.nx ()))))) ps21 ()) fun s23 => ((Res.val (PV.bl true)) >>= fun v24 => Res.val (.rt v24 []))))
theorem ok__law_is_prime (T : Top K mg) : FnOk P w K mg base (L2.CX P w) 1 T.f__law_is_prime T.d__law_is_prime ["n"] (spP K (clT T) (ap1 m__law_is_prime)) := by
  refine fnP T.F__law_is_prime scLis_prime rfl takn1 fun cdv A outer s H E hr qs hq => ?_
  match qs, hq with
  | [a_n], _ => exact ⟨_, (pss_cons (ps_if (pt_cmpR op_lt (pv 0) pe_int (nomark _)) (pss_one (ps_ret pe_bl)) pss_nil)
      (pss_cons (ps_for (passes_of rfl) rfl (pi_range2 (by rfl) T.z_range (pa_cons pe_int (pa_cons pe_int pa_nil))) (pg_name (i := 1) scLis_prime.nd rfl (Or.inl rfl)) (pss_cons (ps_if (pt_cmpR op_gt (pe_op op_mulV (pv 1) (pv 1)) (pv 0) (nomark _)) (pss_one (ps_ret pe_bl)) pss_nil)
      (pss_one (ps_if (pt_cmpR (op_eqV K rfl hr.units) (pe_op op_modN (pe_callTy call_intV (by rfl) T.z_int (by decide +kernel) (pa_cons (pv 0) pa_nil)) (pv 1)) pe_int (nomark _)) (pss_one (ps_ret pe_bl)) pss_nil))))
      (pss_one (ps_ret pe_bl)))),
    _, run_one (run_assoc (run_if (ts_cmp (Pur.vw (pu_op o2_lt (Pur.vw (pu_var rfl)) (Pur.vw pu_int)))) (wk_uns rfl) (run_ret pu_bl rfl rfl (wk_uns rfl)) (run_skip (run_assoc (run_seq (ρj := fun (s23 : Unit) => [(.fz a_n), .un]) (run_for (ρs := fun (s7 : Unit) => [(.fz a_n), .un]) (s0 := ()) (ρe := fun (s7 : Unit) (a8 : PV) => [(.fz a_n), (.fz a8)]) (it_rng2 (Pur.vw pu_int) (Pur.vw pu_int)) (.keep (.keep .nil)) (wk_uns rfl) (fun s7 => (tg_name (i := 1) rfl (Or.inl rfl))) (fun a8 s7 => run_one (run_assoc (run_if (ts_cmp (Pur.vw (pu_op o2_gt (Pur.vw (pu_op o2_mul (Pur.vw (pu_var rfl)) (Pur.vw (pu_var rfl)))) (Pur.vw (pu_var rfl))))) (wk_uns rfl) (run_ret pu_bl rfl rfl (wk_uns rfl)) (run_skip (run_if (ts_cmp (Pur.vw (pu_op o2_eq (Pur.vw (pu_op o2_mod (Pur.vw (pu_cb1 b1_int (Pur.vw (pu_var rfl)))) (Pur.vw (pu_var rfl)))) (Pur.vw pu_int)))) (wk_uns rfl) (run_ret pu_bl rfl rfl (wk_uns rfl)) (run_skip (run_next (s := ()) (.keep (.drop .nil)))))))))) fun s23 => (run_ret pu_bl rfl rfl (wk_uns rfl))))))), rfl⟩
def m__law_prime (mo : MO) (a_low : PV) (a_high : PV) : Res (PV × MO) := match mo with
  | .lst a_box => retR (noX ((fun (s1 : List PV) => (fun (s9 : List PV) => (fun (s2 : List PV) => noX (((Res.val a_high) >>= fun x3 => (Res.val a_low) >>= fun x4 => subP x3 x4) >>= fun x5 => (Res.val (PV.int 1)) >>= fun x6 => addP x5 x6) >>= fun v7 => Res.val (v7, s2)) s9 >>= fun x10 => (fun (s8 : List PV) => Res.val (([] : List PV), s8)) x10.2 >>= fun xs11 => Res.val (x10.1 :: xs11.1, xs11.2)) s1 >>= fun x12 => (apR1 m__law_draw) (MO.lst x12.2) x12.1 >>= fun r13 => ((fun (s1 : List PV) (mo : MO) => moL mo >>= fun l => Res.val l) x12.2 r13.2) >>= fun s14 => Res.val (r13.1, s14)) a_box) >>= fun r17 => (fun (x15 : PV) (s16 : List PV) => (seqF (S1 := Unit) (((((Res.val a_high) >>= fun x18 => (Res.val a_low) >>= fun x19 => subP x18 x19) >>= fun x20 => (Res.val (PV.int 1)) >>= fun x21 => addP x20 x21) >>= rng1) >>= fun ps38 => forF (fun (x39 : PV) (s22 : Unit) => (fun x => Res.val x) x39 >>= fun (a23 : PV) => (((Res.val a_low) >>= fun x32 => ((((Res.val x15) >>= fun x24 => (Res.val a23) >>= fun x25 => addP x24 x25) >>= intP) >>= fun x30 => (((Res.val a_high) >>= fun x26 => (Res.val a_low) >>= fun x27 => subP x26 x27) >>= fun x28 => (Res.val (PV.int 1)) >>= fun x29 => addP x28 x29) >>= fun x31 => modP x30 x31) >>= fun x33 => addP x32 x33) >>= fun x34 => ((((Res.val x34) >>= m__law_is_prime) >>= asB) >>= fun b36 => if b36 = true then ((Res.val x34) >>= fun v37 => Res.val (.rt v37 [.lst s16])) else (Res.val (.nx ()))))) ps38 ()) fun s40 => ((Res.val (PV.int 3)) >>= fun v41 => Res.val (.rt v41 [.lst s16])))) r17.1 r17.2)
  | _ => .stuck
theorem ok__law_prime (T : Top K mg) : FnOk P w K mg base (L2.CX P w) 3 T.f__law_prime T.d__law_prime ["box", "low", "high"] (spR K (clT T) (apR2 m__law_prime)) := by
  have G__law_draw := ok__law_draw (P := P) (w := w) (base := base) T
  have G__law_is_prime := ok__law_is_prime (P := P) (w := w) (base := base) T
  refine fnR T.F__law_prime scLprime rfl taknR2 fun cdv A outer s H E hr mo qs hq => ?_
  match mo, qs, hq with
  | .dct _, [_, _], _ => exact .inl rfl
  | .ob _ _, [_, _], _ => exact .inl rfl
  | .lst a_box, [a_low, a_high], _ => exact .inr ⟨_, (pss_cons (ps_set (i := 3) scLprime.nd rfl (Or.inl rfl) (pe_callS G__law_draw (hr.mono (by decide)) (by rfl) T.m__law_draw T.F__law_draw.kp T.b__law_draw (fun σ => passAt (takes_of rfl rfl rfl rfl) σ) (pa_cons (pv 0) (pa_cons (pe_op (op_addV K rfl) (pe_op op_sub (pv 2) (pv 1)) pe_int) pa_nil))))
      (pss_cons (ps_for (passes_of rfl) rfl (pi_range1 (by rfl) T.z_range (pa_cons (pe_op (op_addV K rfl) (pe_op op_sub (pv 2) (pv 1)) pe_int) pa_nil)) (pg_name (i := 4) scLprime.nd rfl (Or.inl rfl)) (pss_cons (ps_set (i := 5) scLprime.nd rfl (Or.inl rfl) (pe_op (op_addV K rfl) (pv 1) (pe_op op_modN (pe_callTy call_intV (by rfl) T.z_int (by decide +kernel) (pa_cons (pe_op (op_addV K rfl) (pv 3) (pv 4)) pa_nil)) (pe_op (op_addV K rfl) (pe_op op_sub (pv 2) (pv 1)) pe_int))))
      (pss_one (ps_if (pt_val (pe_callS G__law_is_prime (hr.mono (by decide)) (by rfl) T.m__law_is_prime T.F__law_is_prime.kp T.b__law_is_prime (fun σ => passAt (takes_of rfl rfl rfl rfl) σ) (pa_cons (pv 5) pa_nil))) (pss_one (ps_ret (pv 5))) pss_nil))))
      (pss_one (ps_ret pe_int)))),
    _, run_one (run_assoc (run_setE (i := 3) (ρs := (fun (s42 : List PV) => [(.rf 0 (.lst s42)), (.fz a_low), (.fz a_high), .un, .un, .un])) (s0 := a_box) (ef_callR (i := 0) (sl := (fun (s1 : List PV) => (.rf 0 (.lst s1)))) (get := (fun (s1 : List PV) => MO.lst s1)) (put := (fun (s1 : List PV) (mo : MO) => moL mo >>= fun l => Res.val l)) (fun _ => rfl) (fun _ => Or.inr ⟨_, rfl⟩) (fun s mo s' h => by cases mo <;> first | (cases h; rfl) | cases h) (el_cons (ef_pure (W := (fun c d _ H' => E c d H')) fun s2 => (pu_op o2_add (Pur.vw (pu_op o2_sub (Pur.vw (pu_var rfl)) (Pur.vw (pu_var rfl)))) (Pur.vw pu_int))) el_nil)) rfl (fun _ => rfl) fun x15 s16 => (run_assoc (run_seq (ρj := fun (s40 : Unit) => [(.rf 0 (.lst s16)), (.fz a_low), (.fz a_high), (.fz x15), .un, .un]) (run_for (ρs := fun (s22 : Unit) => [(.rf 0 (.lst s16)), (.fz a_low), (.fz a_high), (.fz x15), .un, .un]) (s0 := ()) (ρe := fun (s22 : Unit) (a23 : PV) => [(.rf 0 (.lst s16)), (.fz a_low), (.fz a_high), (.fz x15), (.fz a23), .un]) (it_rng1 (Pur.vw (pu_op o2_add (Pur.vw (pu_op o2_sub (Pur.vw (pu_var rfl)) (Pur.vw (pu_var rfl)))) (Pur.vw pu_int)))) (.keep (.keep (.keep (.keep (.keep (.keep .nil)))))) (wk_uns rfl) (fun s22 => (tg_name (i := 4) rfl (Or.inl rfl))) (fun a23 s22 => run_one (run_assoc (run_set (i := 5) (pu_op o2_add (Pur.vw (pu_var rfl)) (Pur.vw (pu_op o2_mod (Pur.vw (pu_cb1 b1_int (Pur.vw (pu_op o2_add (Pur.vw (pu_var rfl)) (Pur.vw (pu_var rfl)))))) (Pur.vw (pu_op o2_add (Pur.vw (pu_op o2_sub (Pur.vw (pu_var rfl)) (Pur.vw (pu_var rfl)))) (Pur.vw pu_int)))))) rfl (wk_uns rfl) fun x34 => (run_if (ts_val (Pur.vw (pu_call1 (pu_var rfl)))) (wk_uns rfl) (run_ret (pu_var rfl) rfl rfl (wk_uns rfl)) (run_skip (run_next (s := ()) (.keep (.keep (.keep (.keep (.drop (.drop .nil))))))))))))) fun s40 => (run_ret pu_int rfl rfl (wk_uns rfl)))))), rfl⟩
def m__law_alike : Nat → PV → PV → Res PV
  | 0, _, _ => .stuck
  | n + 1, a_told, a_due => retF ((((Res.val a_due) >>= (isiP2 "tuple" "list")) >>= asB) >>= fun b1 => if b1 = true then ((((((Res.val a_told) >>= fun x8 => (Res.val (PV.ty "tuple")) >>= fun x9 => isiP x8 x9) >>= fun x12 => ((Res.val a_due) >>= fun x10 => (Res.val (PV.ty "tuple")) >>= fun x11 => isiP x10 x11) >>= fun x13 => neP x12 x13) >>= asB) >>= fun b14 => if b14 = true then Res.val true else ((((Res.val a_told) >>= fun x2 => (Res.val (PV.ty "list")) >>= fun x3 => isiP x2 x3) >>= fun x6 => ((Res.val a_due) >>= fun x4 => (Res.val (PV.ty "list")) >>= fun x5 => isiP x4 x5) >>= fun x7 => neP x6 x7) >>= asB)) >>= fun b15 => if b15 = true then ((Res.val (PV.bl false)) >>= fun v16 => Res.val (.rt v16 [])) else (((((Res.val a_told) >>= lenP) >>= fun x17 => ((Res.val a_due) >>= lenP) >>= fun x18 => neP x17 x18) >>= asB) >>= fun b19 => if b19 = true then ((Res.val (PV.bl false)) >>= fun v20 => Res.val (.rt v20 [])) else (seqF (S1 := Unit) ((((Res.val a_due) >>= lenP) >>= rng1) >>= fun ps32 => forF (fun (x33 : PV) (s21 : Unit) => (fun x => Res.val x) x33 >>= fun (a22 : PV) => ((((((Res.val a_told) >>= fun x23 => (Res.val a22) >>= fun x24 => ixP x23 x24) >>= fun x27 => ((Res.val a_due) >>= fun x25 => (Res.val a22) >>= fun x26 => ixP x25 x26) >>= fun x28 => (m__law_alike n) x27 x28) >>= asB) >>= fun b29 => Res.val (!b29)) >>= fun b30 => if b30 = true then ((Res.val (PV.bl false)) >>= fun v31 => Res.val (.rt v31 [])) else (Res.val (.nx ())))) ps32 ()) fun s34 => ((Res.val (PV.bl true)) >>= fun v35 => Res.val (.rt v35 []))))) else ((((Res.val a_due) >>= fun x36 => (Res.val PV.non) >>= fun x37 => isP x36 x37) >>= asB) >>= fun b38 => if b38 = true then (((Res.val a_told) >>= fun x39 => (Res.val PV.non) >>= fun x40 => isP x39 x40) >>= fun v41 => Res.val (.rt v41 [])) else ((((Res.val a_due) >>= fun x42 => (Res.val (PV.ty "bool")) >>= fun x43 => isiP x42 x43) >>= asB) >>= fun b44 => if b44 = true then ((((Res.val a_told) >>= fun x47 => (Res.val (PV.ty "bool")) >>= fun x48 => isiP x47 x48) >>= asB >>= fun b49 => if b49 = true then ((Res.val a_told) >>= fun x45 => (Res.val a_due) >>= fun x46 => eqP x45 x46) else Res.val (PV.bl false)) >>= fun v50 => Res.val (.rt v50 [])) else ((((Res.val a_due) >>= fun x51 => (Res.val (PV.ty "str")) >>= fun x52 => isiP x51 x52) >>= asB) >>= fun b53 => if b53 = true then ((((Res.val a_told) >>= fun x56 => (Res.val (PV.ty "str")) >>= fun x57 => isiP x56 x57) >>= asB >>= fun b58 => if b58 = true then ((Res.val a_told) >>= fun x54 => (Res.val a_due) >>= fun x55 => eqP x54 x55) else Res.val (PV.bl false)) >>= fun v59 => Res.val (.rt v59 [])) else ((((Res.val a_told) >>= fun x66 => (Res.val (PV.ty "int")) >>= fun x67 => isiP x66 x67) >>= asB >>= fun b68 => if b68 = true then ((((Res.val a_told) >>= fun x62 => (Res.val (PV.ty "bool")) >>= fun x63 => isiP x62 x63) >>= asB >>= fun b64 => Res.val (PV.bl (!b64))) >>= asB >>= fun b65 => if b65 = true then ((Res.val a_told) >>= fun x60 => (Res.val a_due) >>= fun x61 => eqP x60 x61) else Res.val (PV.bl false)) else Res.val (PV.bl false)) >>= fun v69 => Res.val (.rt v69 []))))))
theorem ok__law_alike (T : Top K mg) : ∀ n : Nat, FnOk P w K mg base (L2.CX P w) (1 + n) T.f__law_alike T.d__law_alike ["told", "due"] (spP K (clT T) (ap2 (m__law_alike n)))
  | 0 => fn_stuck stuck2
  | n + 1 => by
    have G__law_alike := ok__law_alike T n
  
    refine fnP (k := 1 + n) T.F__law_alike scLalike rfl takn2 fun cdv A outer s H E hr qs hq => ?_
    match qs, hq with
    | [a_told, a_due], _ => exact ⟨_, (pss_cons (ps_if (pt_val (pe_callB (call_isiTV K rfl) (by rfl) T.z_isinstance (by decide +kernel) (pa_cons (pv 1) (pa_cons (pe_tup (pa_cons (pe_bltn (v := .ty "tuple") (by rfl) T.z_tuple (by decide +kernel) rfl) (pa_cons (pe_bltn (v := .ty "list") (by rfl) T.z_list (by decide +kernel) rfl) pa_nil))) pa_nil)))) (pss_cons (ps_if (PW.pt (pw_or (pt_cmpR (op_neV K rfl hr.units) (pe_callB (call_isiV K rfl) (by rfl) T.z_isinstance (by decide +kernel) (pa_cons (pv 0) (pa_cons (pe_bltn (v := .ty "tuple") (by rfl) T.z_tuple (by decide +kernel) rfl) pa_nil))) (pe_callB (call_isiV K rfl) (by rfl) T.z_isinstance (by decide +kernel) (pa_cons (pv 1) (pa_cons (pe_bltn (v := .ty "tuple") (by rfl) T.z_tuple (by decide +kernel) rfl) pa_nil))) (nomark _)) (pw_or1 (pt_cmpR (op_neV K rfl hr.units) (pe_callB (call_isiV K rfl) (by rfl) T.z_isinstance (by decide +kernel) (pa_cons (pv 0) (pa_cons (pe_bltn (v := .ty "list") (by rfl) T.z_list (by decide +kernel) rfl) pa_nil))) (pe_callB (call_isiV K rfl) (by rfl) T.z_isinstance (by decide +kernel) (pa_cons (pv 1) (pa_cons (pe_bltn (v := .ty "list") (by rfl) T.z_list (by decide +kernel) rfl) pa_nil))) (nomark _))))) (pss_one (ps_ret pe_bl)) pss_nil)
        (pss_cons (ps_if (pt_cmpR (op_neV K rfl hr.units) (pe_callB (call_lenVK K rfl) (by rfl) T.z_len PySem.boot_len (pa_cons (pv 0) pa_nil)) (pe_callB (call_lenVK K rfl) (by rfl) T.z_len PySem.boot_len (pa_cons (pv 1) pa_nil)) (nomark _)) (pss_one (ps_ret pe_bl)) pss_nil)
        (pss_cons (ps_for (passes_of rfl) rfl (pi_range1 (by rfl) T.z_range (pa_cons (pe_callB (call_lenVK K rfl) (by rfl) T.z_len PySem.boot_len (pa_cons (pv 1) pa_nil)) pa_nil)) (pg_name (i := 2) scLalike.nd rfl (Or.inl rfl)) (pss_one (ps_if (pt_not (pt_val (pe_callS G__law_alike hr (by rfl) T.m__law_alike T.F__law_alike.kp T.b__law_alike (fun σ => passAt (takes_of rfl rfl rfl rfl) σ) (pa_cons (pe_ix (ix_VK K rfl) (pv 0) (pv 2) (fun _ _ => rfl)) (pa_cons (pe_ix (ix_VK K rfl) (pv 1) (pv 2) (fun _ _ => rfl)) pa_nil))))) (pss_one (ps_ret pe_bl)) pss_nil)))
        (pss_one (ps_ret pe_bl))))) pss_nil)
        (pss_cons (ps_if (pt_cmpR op_isN (pv 1) pe_non (nomark _)) (pss_one (ps_ret (pe_cmpR op_isN (pv 0) pe_non (nomark _)))) pss_nil)
        (pss_cons (ps_if (pt_val (pe_callB (call_isiV K rfl) (by rfl) T.z_isinstance (by decide +kernel) (pa_cons (pv 1) (pa_cons (pe_bltn (v := .ty "bool") (by rfl) T.z_bool (by decide +kernel) rfl) pa_nil)))) (pss_one (ps_ret (pe_and (pe_callB (call_isiV K rfl) (by rfl) T.z_isinstance (by decide +kernel) (pa_cons (pv 0) (pa_cons (pe_bltn (v := .ty "bool") (by rfl) T.z_bool (by decide +kernel) rfl) pa_nil))) (pe_one (pe_cmpR (op_eqV K rfl hr.units) (pv 0) (pv 1) (nomark _)))))) pss_nil)
        (pss_cons (ps_if (pt_val (pe_callB (call_isiV K rfl) (by rfl) T.z_isinstance (by decide +kernel) (pa_cons (pv 1) (pa_cons (pe_bltn (v := .ty "str") (by rfl) T.z_str (by decide +kernel) rfl) pa_nil)))) (pss_one (ps_ret (pe_and (pe_callB (call_isiV K rfl) (by rfl) T.z_isinstance (by decide +kernel) (pa_cons (pv 0) (pa_cons (pe_bltn (v := .ty "str") (by rfl) T.z_str (by decide +kernel) rfl) pa_nil))) (pe_one (pe_cmpR (op_eqV K rfl hr.units) (pv 0) (pv 1) (nomark _)))))) pss_nil)
        (pss_one (ps_ret (pe_and (pe_callB (call_isiV K rfl) (by rfl) T.z_isinstance (by decide +kernel) (pa_cons (pv 0) (pa_cons (pe_bltn (v := .ty "int") (by rfl) T.z_int (by decide +kernel) rfl) pa_nil))) (pe_and (pe_not (pe_callB (call_isiV K rfl) (by rfl) T.z_isinstance (by decide +kernel) (pa_cons (pv 0) (pa_cons (pe_bltn (v := .ty "bool") (by rfl) T.z_bool (by decide +kernel) rfl) pa_nil)))) (pe_one (pe_cmpR (op_eqV K rfl hr.units) (pv 0) (pv 1) (nomark _))))))))))),
      _, run_one (run_assoc (run_if (ts_val (Pur.vw (pu_isi2 (Pur.vw (pu_var rfl))))) (wk_uns rfl) (run_assoc (run_if (ts_or (ts_cmp (Pur.vw (pu_op o2_ne (Pur.vw (pu_cb2 b2_isi (Pur.vw (pu_var rfl)) (Pur.vw pu_ty))) (Pur.vw (pu_cb2 b2_isi (Pur.vw (pu_var rfl)) (Pur.vw pu_ty)))))) (ts_cmp (Pur.vw (pu_op o2_ne (Pur.vw (pu_cb2 b2_isi (Pur.vw (pu_var rfl)) (Pur.vw pu_ty))) (Pur.vw (pu_cb2 b2_isi (Pur.vw (pu_var rfl)) (Pur.vw pu_ty))))))) (wk_uns rfl) (run_ret pu_bl rfl rfl (wk_uns rfl)) (run_skip (run_assoc (run_if (ts_cmp (Pur.vw (pu_op o2_ne (Pur.vw (pu_cb1 b1_len (Pur.vw (pu_var rfl)))) (Pur.vw (pu_cb1 b1_len (Pur.vw (pu_var rfl))))))) (wk_uns rfl) (run_ret pu_bl rfl rfl (wk_uns rfl)) (run_skip (run_assoc (run_seq (ρj := fun (s34 : Unit) => [(.fz a_told), (.fz a_due), .un]) (run_for (ρs := fun (s21 : Unit) => [(.fz a_told), (.fz a_due), .un]) (s0 := ()) (ρe := fun (s21 : Unit) (a22 : PV) => [(.fz a_told), (.fz a_due), (.fz a22)]) (it_rng1 (Pur.vw (pu_cb1 b1_len (Pur.vw (pu_var rfl))))) (.keep (.keep (.keep .nil))) (wk_uns rfl) (fun s21 => (tg_name (i := 2) rfl (Or.inl rfl))) (fun a22 s21 => run_one (run_if (ts_not (ts_val (Pur.vw (pu_call2 (pu_op o2_ix (Pur.vw (pu_var rfl)) (Pur.vw (pu_var rfl))) (pu_op o2_ix (Pur.vw (pu_var rfl)) (Pur.vw (pu_var rfl))))))) (wk_uns rfl) (run_ret pu_bl rfl rfl (wk_uns rfl)) (run_skip (run_next (s := ()) (.keep (.keep (.drop .nil)))))))) fun s34 => (run_ret pu_bl rfl rfl (wk_uns rfl)))))))))) (run_skip (run_assoc (run_if (ts_cmp (Pur.vw (pu_op o2_is (Pur.vw (pu_var rfl)) (Pur.vw pu_non)))) (wk_uns rfl) (run_ret (pu_op o2_is (Pur.vw (pu_var rfl)) (Pur.vw pu_non)) rfl rfl (wk_uns rfl)) (run_skip (run_assoc (run_if (ts_val (Pur.vw (pu_cb2 b2_isi (Pur.vw (pu_var rfl)) (Pur.vw pu_ty)))) (wk_uns rfl) (run_ret (pu_andV (Pur.vw (pu_cb2 b2_isi (Pur.vw (pu_var rfl)) (Pur.vw pu_ty))) (pu_op o2_eq (Pur.vw (pu_var rfl)) (Pur.vw (pu_var rfl)))) rfl rfl (wk_uns rfl)) (run_skip (run_assoc (run_if (ts_val (Pur.vw (pu_cb2 b2_isi (Pur.vw (pu_var rfl)) (Pur.vw pu_ty)))) (wk_uns rfl) (run_ret (pu_andV (Pur.vw (pu_cb2 b2_isi (Pur.vw (pu_var rfl)) (Pur.vw pu_ty))) (pu_op o2_eq (Pur.vw (pu_var rfl)) (Pur.vw (pu_var rfl)))) rfl rfl (wk_uns rfl)) (run_skip (run_ret (pu_andV (Pur.vw (pu_cb2 b2_isi (Pur.vw (pu_var rfl)) (Pur.vw pu_ty))) (pu_andV (Pur.vw (pu_notV (Pur.vw (pu_cb2 b2_isi (Pur.vw (pu_var rfl)) (Pur.vw pu_ty))))) (pu_op o2_eq (Pur.vw (pu_var rfl)) (Pur.vw (pu_var rfl))))) rfl rfl (wk_uns rfl)))))))))))))), rfl⟩
def m_times_root (a_coefficients a_root a_q : PV) : Res PV := retF ((((Res.val (PV.int 0)) >>= fun x3 => ((Res.val a_coefficients) >>= asSq >>= fun ys1 => (Res.val []) >>= fun xs2 => Res.val (ys1 ++ xs2)) >>= fun xs4 => Res.val (x3 :: xs4)) >>= mkT) >>= fun x5 => ((((Res.val a_coefficients) >>= asSq >>= fun ys8 => ((Res.val (PV.int 0)) >>= fun x6 => (Res.val []) >>= fun xs7 => Res.val (x6 :: xs7)) >>= fun xs9 => Res.val (ys8 ++ xs9)) >>= mkT) >>= fun x10 => ((((((Res.val x5) >>= fun x11 => (Res.val x10) >>= fun x12 => zipW x11 x12) >>= fun ps20 => sized ps20.length >>= fun _ => lcF un2 (fun (a13 : PV × PV) => (Res.val true)) (fun (a13 : PV × PV) => (((Res.val a13.1) >>= fun x16 => ((Res.val a_root) >>= fun x14 => (Res.val a13.2) >>= fun x15 => mulP x14 x15) >>= fun x17 => subP x16 x17) >>= fun x18 => (Res.val a_q) >>= fun x19 => modP x18 x19)) ps20) >>= fun ps21 => Res.val (PV.lst ps21)) >>= tupleP) >>= fun v22 => Res.val (.rt v22 []))))
theorem ok_times_root (T : Top K mg) : FnOk P w K mg base (L2.CX P w) 1 T.f_times_root T.d_times_root ["coefficients", "root", "q"] (spP K (clT T) (ap3 m_times_root)) := by
  refine fnP T.F_times_root sctimes_root rfl takn3 fun cdv A outer s H E hr qs hq => ?_
  match qs, hq with
  | [a_coefficients, a_root, a_q], _ => exact ⟨_, (pss_cons (ps_set (i := 3) sctimes_root.nd rfl (Or.inl rfl) (pe_tup (pa_cons pe_int (StX.pa_star (pv 0) pa_nil))))
      (pss_cons (ps_set (i := 4) sctimes_root.nd rfl (Or.inl rfl) (pe_tup (StX.pa_star (pv 0) (pa_cons pe_int pa_nil))))
      (pss_one (ps_ret (pe_callTy (call_tupleV K rfl) (by rfl) T.z_tuple (by decide +kernel) (pa_cons (pe_lc (own := [("high", 5), ("low", 6)]) (g := gTup K 2 (gCons (gName 5) (gCons (gName 6) gNil))) (tt := tYes) rfl sctimes_root.nd (pi_zip2 K rfl (by rfl) T.z_zip (pa_cons (pv 3) (pa_cons (pv 4) pa_nil))) (blkOk_by (own := [("high", 5), ("low", 6)]) (N := ["coefficients", "root", "q", "raised_by_x", "kept", "high", "low"]) (sc := defScope s_times_root) (by decide +kernel)) (fun _ _ _ _ _ => (pg_tup (by rfl) (pgs_cons (pg_name (i := 5) sctimes_root.nd rfl (Or.inl rfl)) (pgs_cons (pg_name (i := 6) sctimes_root.nd rfl (Or.inl rfl)) pgs_nil)))) (fun _ _ _ _ _ => pts_nil) (fun _ _ _ _ _ => (pe_op op_modN (pe_op op_sub (pv 5) (pe_op op_mulV (pv 1) (pv 6))) (pv 2)))) pa_nil)))))),
    _, run_one (run_assoc (run_set (i := 3) (pu_tup (pl_cons pu_int (pl_star (Pur.vw (pu_var rfl)) pl_nil))) rfl (wk_uns rfl) fun x5 => (run_assoc (run_set (i := 4) (pu_tup (pl_star (Pur.vw (pu_var rfl)) (pl_cons pu_int pl_nil))) rfl (wk_uns rfl) fun x10 => (run_ret (pu_cb1 b1_tuple (Pur.vw (New.pur (nw_lc (ρe := fun (a13 : PV × PV) => [(.fz a_coefficients), (.fz a_root), (.fz a_q), (.fz x5), (.fz x10), (.fz a13.1), (.fz a13.2)]) (itv_zip2 (Pur.vw (pu_var rfl)) (Pur.vw (pu_var rfl))) rfl (by decide) (tg_2 (i := 5) (j := 6) rfl rfl (Or.inr (by decide))) (fun a13 => ts_yes) (fun a13 => (pu_op o2_mod (Pur.vw (pu_op o2_sub (Pur.vw (pu_var rfl)) (Pur.vw (pu_op o2_mul (Pur.vw (pu_var rfl)) (Pur.vw (pu_var rfl)))))) (Pur.vw (pu_var rfl)))))))) rfl rfl (wk_uns rfl)))))), rfl⟩
def m_without_root (a_coefficients a_root a_q : PV) : Res PV := retF (((Res.val []) >>= mkN) >>= fun l1 => ((Res.val (PV.int 0)) >>= fun x2 => (seqF (S1 := PV × List PV) ((((Res.val a_coefficients) >>= fun x4 => ((Res.val (PV.int 1)) >>= partP >>= fun i3 => Res.val (some i3)) >>= fun lo5 => (Res.val none) >>= fun hi6 => slP x4 lo5 hi6) >>= asSq >>= fun ps7 => Res.val ps7.reverse) >>= fun ps18 => forF (fun (x19 : PV) (s8 : PV × List PV) => (fun x => Res.val x) x19 >>= fun (a9 : PV) => (((((Res.val s8.1) >>= fun x10 => (Res.val a_root) >>= fun x11 => mulP x10 x11) >>= fun x12 => (Res.val a9) >>= fun x13 => addP x12 x13) >>= fun x14 => (Res.val a_q) >>= fun x15 => modP x14 x15) >>= fun x16 => ((Res.val x16) >>= fun x17 => sized (s8.2.length + 1) >>= fun _ => (Res.val (.nx (x16, (s8.2 ++ [x17]))))))) ps18 (x2, l1)) fun s20 => (((Res.val (PV.lst s20.2)) >>= asLi >>= fun ps21 => Res.val (PV.tup ps21.reverse)) >>= fun v22 => Res.val (.rt v22 [])))))
theorem ok_without_root (T : Top K mg) : FnOk P w K mg base (L2.CX P w) 1 T.f_without_root T.d_without_root ["coefficients", "root", "q"] (spP K (clT T) (ap3 m_without_root)) := by
  refine fnP T.F_without_root scwithout_root rfl takn3 fun cdv A outer s H E hr qs hq => ?_
  match qs, hq with
  | [a_coefficients, a_root, a_q], _ => exact ⟨_, (pss_cons (ps_set (i := 3) scwithout_root.nd rfl (Or.inl rfl) (pe_lst pa_nil))
      (pss_cons (ps_set (i := 4) scwithout_root.nd rfl (Or.inl rfl) pe_int)
      (pss_cons (ps_for (passes_of rfl) rfl (pi_revK K rfl (by rfl) T.z_reversed (pe_slice (sl_V K rfl) (pv 0) (po_some pe_int) po_none)) (pg_name (i := 5) scwithout_root.nd rfl (Or.inl rfl)) (pss_cons (ps_set (i := 4) scwithout_root.nd rfl (Or.inl rfl) (pe_op op_modN (pe_op (op_addV K rfl) (pe_op op_mulV (pv 4) (pv 1)) (pv 5)) (pv 2)))
      (pss_one (ps_expr (pe_bm PySem.F.plainAttrs_list PySem.F.slot_list_append PySem.F.type_list_append mt_append (pv 3) (pa_cons (pv 4) pa_nil))))))
      (pss_one (ps_ret (pe_tupRevK K rfl rfl (by rfl) T.z_tuple (by rfl) T.z_reversed (pv 3))))))),
    _, run_one (run_assoc (run_setow (i := 3) (nw_lst pl_nil) rfl (wk_uns rfl) fun l1 => (run_assoc (run_set (i := 4) pu_int rfl (wk_uns rfl) fun x2 => (run_assoc (run_seq (ρj := fun (s20 : PV × List PV) => [(.fz a_coefficients), (.fz a_root), (.fz a_q), (.ow (.lst s20.2)), (.fz s20.1), .un]) (run_for (ρs := fun (s8 : PV × List PV) => [(.fz a_coefficients), (.fz a_root), (.fz a_q), (.ow (.lst s8.2)), (.fz s8.1), .un]) (s0 := (x2, l1)) (ρe := fun (s8 : PV × List PV) (a9 : PV) => [(.fz a_coefficients), (.fz a_root), (.fz a_q), (.ow (.lst s8.2)), (.fz s8.1), (.fz a9)]) (it_rev (pu_sl (Pur.vw (pu_var rfl)) (pr_some (Pur.vw pu_int)) pr_none)) (.keep (.keep (.keep (.keep (.keep (.keep .nil)))))) (wk_uns rfl) (fun s8 => (tg_name (i := 5) rfl (Or.inl rfl))) (fun a9 s8 => run_one (run_assoc (run_set (i := 4) (pu_op o2_mod (Pur.vw (pu_op o2_add (Pur.vw (pu_op o2_mul (Pur.vw (pu_var rfl)) (Pur.vw (pu_var rfl)))) (Pur.vw (pu_var rfl)))) (Pur.vw (pu_var rfl))) rfl (wk_uns rfl) fun x16 => (run_append (i := 3) rfl (Or.inl rfl) (pu_var rfl) (wk_uns rfl) fun x17 => (run_next (s := (x16, (s8.2 ++ [x17]))) (.keep (.keep (.keep (.keep (.keep (.drop .nil)))))))))))) fun s20 => (run_wk (.keep (.keep (.keep (.ice (.keep (.keep .nil)))))) (run_ret (pu_tupRev (pu_var rfl)) rfl rfl (wk_uns rfl))))))))), rfl⟩
def m_inverse (a_a a_q : PV) : Res PV := retF ((Res.val a_q) >>= fun x3 => ((Res.val a_a) >>= fun x1 => (Res.val a_q) >>= fun x2 => modP x1 x2) >>= fun x4 => ((((Res.val x4) >>= fun x5 => (Res.val (PV.int 0)) >>= fun x6 => eqP x5 x6) >>= asB) >>= fun b7 => if b7 = true then (Res.exc "NoInverse") else ((((Res.val (PV.int 0)) >>= fun x10 => ((Res.val (PV.int 1)) >>= fun x8 => (Res.val []) >>= fun xs9 => Res.val (x8 :: xs9)) >>= fun xs11 => Res.val (x10 :: xs11)) >>= mkT) >>= fun x12 => un2 x12 >>= fun (a13 : PV × PV) => (seqF (S1 := PV × PV × PV × PV) (whileF (fun (s14 : PV × PV × PV × PV) => (((Res.val s14.2.1) >>= fun x15 => (Res.val (PV.int 1)) >>= fun x16 => neP x15 x16) >>= asB)) (fun (s14 : PV × PV × PV × PV) => (((Res.val s14.1) >>= fun x17 => (Res.val s14.2.1) >>= fun x18 => fdivP x17 x18) >>= fun x19 => ((Res.val s14.2.1) >>= fun x24 => ((Res.val s14.1) >>= fun x22 => ((Res.val x19) >>= fun x20 => (Res.val s14.2.1) >>= fun x21 => mulP x20 x21) >>= fun x23 => subP x22 x23) >>= fun x25 => ((Res.val s14.2.2.2) >>= fun x30 => ((Res.val s14.2.2.1) >>= fun x28 => ((Res.val x19) >>= fun x26 => (Res.val s14.2.2.2) >>= fun x27 => mulP x26 x27) >>= fun x29 => subP x28 x29) >>= fun x31 => (Res.val (.nx (x24, x25, x30, x31))))))) FUEL (x3, x4, a13.1, a13.2)) fun s32 => (((Res.val s32.2.2.2) >>= fun x33 => (Res.val a_q) >>= fun x34 => modP x33 x34) >>= fun v35 => Res.val (.rt v35 []))))))
theorem ok_inverse (T : Top K mg) : FnOk P w K mg base (L2.CX P w) 1 T.f_inverse T.d_inverse ["a", "q"] (spP K (clT T) (ap2 m_inverse)) := by
  refine fnP T.F_inverse scinverse rfl takn2 fun cdv A outer s H E hr qs hq => ?_
  match qs, hq with
  | [a_a, a_q], _ => exact ⟨_, (pss_cons (ps_par (i := 2) (j := 3) (by rfl) scinverse.nd rfl rfl (by decide) rfl rfl (pa_cons (pv 1) (pa_cons (pe_op op_modN (pv 0) (pv 1)) pa_nil)) (by rfl))
      (pss_cons (ps_if (pt_cmpR (op_eqV K rfl hr.units) (pv 3) pe_int (nomark _)) (pss_one (ps_raise rfl (takes_of rfl rfl rfl rfl) (pmk_own0 PySem.F.excBase_ValueError T.x_NoInverse T.m_NoInverse T.kc_NoInverse (raises_own T.s_NoInverse T.t_NoInverse) rfl))) pss_nil)
      (pss_cons (ps_asg (pe_tup (pa_cons pe_int (pa_cons pe_int pa_nil))) (pg_tup (by rfl) (pgs_cons (pg_name (i := 4) scinverse.nd rfl (Or.inl rfl)) (pgs_cons (pg_name (i := 5) scinverse.nd rfl (Or.inl rfl)) pgs_nil))))
      (pss_cons (ps_while (passes_of rfl) (pt_cmpR (op_neV K rfl hr.units) (pv 3) pe_int (nomark _)) (pss_cons (ps_set (i := 6) scinverse.nd rfl (Or.inl rfl) (pe_op op_fdivV (pv 2) (pv 3)))
      (pss_cons (ps_par (i := 2) (j := 3) (by rfl) scinverse.nd rfl rfl (by decide) rfl rfl (pa_cons (pv 3) (pa_cons (pe_op op_sub (pv 2) (pe_op op_mulV (pv 6) (pv 3))) pa_nil)) (by rfl))
      (pss_one (ps_par (i := 4) (j := 5) (by rfl) scinverse.nd rfl rfl (by decide) rfl rfl (pa_cons (pv 5) (pa_cons (pe_op op_sub (pv 4) (pe_op op_mulV (pv 6) (pv 5))) pa_nil)) (by rfl))))))
      (pss_one (ps_ret (pe_op op_modN (pv 5) (pv 1)))))))),
    _, run_one (run_assoc (run_par (i := 2) (j := 3) (pu_var rfl) (pu_op o2_mod (Pur.vw (pu_var rfl)) (Pur.vw (pu_var rfl))) rfl rfl (wk_uns rfl) fun x3 x4 => (run_assoc (run_if (ts_cmp (Pur.vw (pu_op o2_eq (Pur.vw (pu_var rfl)) (Pur.vw pu_int)))) (wk_uns rfl) (run_raise T.ce_NoInverse (wk_uns rfl)) (run_skip (run_assoc (run_asg (pu_tup (pl_cons pu_int (pl_cons pu_int pl_nil))) (tg_2 (i := 4) (j := 5) rfl rfl (Or.inl rfl)) (wk_uns rfl) fun a13 => (run_assoc (run_seq (ρj := fun (s32 : PV × PV × PV × PV) => [(.fz a_a), (.fz a_q), (.fz s32.1), (.fz s32.2.1), (.fz s32.2.2.1), (.fz s32.2.2.2), .un]) (run_while (ρs := fun (s14 : PV × PV × PV × PV) => [(.fz a_a), (.fz a_q), (.fz s14.1), (.fz s14.2.1), (.fz s14.2.2.1), (.fz s14.2.2.2), .un]) (s0 := (x3, x4, a13.1, a13.2)) (.keep (.keep (.keep (.keep (.keep (.keep (.keep .nil))))))) (fun s14 => (wk_uns rfl)) (fun s14 => (ts_cmp (Pur.vw (pu_op o2_ne (Pur.vw (pu_var rfl)) (Pur.vw pu_int))))) (fun s14 => run_one (run_assoc (run_set (i := 6) (pu_op o2_fdiv (Pur.vw (pu_var rfl)) (Pur.vw (pu_var rfl))) rfl (wk_uns rfl) fun x19 => (run_assoc (run_par (i := 2) (j := 3) (pu_var rfl) (pu_op o2_sub (Pur.vw (pu_var rfl)) (Pur.vw (pu_op o2_mul (Pur.vw (pu_var rfl)) (Pur.vw (pu_var rfl))))) rfl rfl (wk_uns rfl) fun x24 x25 => (run_par (i := 4) (j := 5) (pu_var rfl) (pu_op o2_sub (Pur.vw (pu_var rfl)) (Pur.vw (pu_op o2_mul (Pur.vw (pu_var rfl)) (Pur.vw (pu_var rfl))))) rfl rfl (wk_uns rfl) fun x30 x31 => (run_next (s := (x24, x25, x30, x31)) (.keep (.keep (.keep (.keep (.keep (.keep (.drop .nil))))))))))))))) fun s32 => (run_ret (pu_op o2_mod (Pur.vw (pu_var rfl)) (Pur.vw (pu_var rfl))) rfl rfl (wk_uns rfl))))))))))), rfl⟩
def m_value_at (a_coefficients a_x a_q : PV) : Res PV := retF ((Res.val (PV.int 0)) >>= fun x1 => (seqF (S1 := PV) (((Res.val a_coefficients) >>= asSq >>= fun ps2 => Res.val ps2.reverse) >>= fun ps12 => forF (fun (x13 : PV) (s3 : PV) => (fun x => Res.val x) x13 >>= fun (a4 : PV) => (((((Res.val s3) >>= fun x5 => (Res.val a_x) >>= fun x6 => mulP x5 x6) >>= fun x7 => (Res.val a4) >>= fun x8 => addP x7 x8) >>= fun x9 => (Res.val a_q) >>= fun x10 => modP x9 x10) >>= fun x11 => (Res.val (.nx x11)))) ps12 x1) fun s14 => ((Res.val s14) >>= fun v15 => Res.val (.rt v15 []))))
theorem ok_value_at (T : Top K mg) : FnOk P w K mg base (L2.CX P w) 1 T.f_value_at T.d_value_at ["coefficients", "x", "q"] (spP K (clT T) (ap3 m_value_at)) := by
  refine fnP T.F_value_at scvalue_at rfl takn3 fun cdv A outer s H E hr qs hq => ?_
  match qs, hq with
  | [a_coefficients, a_x, a_q], _ => exact ⟨_, (pss_cons (ps_set (i := 3) scvalue_at.nd rfl (Or.inl rfl) pe_int)
      (pss_cons (ps_for (passes_of rfl) rfl (pi_revK K rfl (by rfl) T.z_reversed (pv 0)) (pg_name (i := 4) scvalue_at.nd rfl (Or.inl rfl)) (pss_one (ps_set (i := 3) scvalue_at.nd rfl (Or.inl rfl) (pe_op op_modN (pe_op (op_addV K rfl) (pe_op op_mulV (pv 3) (pv 1)) (pv 4)) (pv 2)))))
      (pss_one (ps_ret (pv 3))))),
    _, run_one (run_assoc (run_set (i := 3) pu_int rfl (wk_uns rfl) fun x1 => (run_assoc (run_seq (ρj := fun (s14 : PV) => [(.fz a_coefficients), (.fz a_x), (.fz a_q), (.fz s14), .un]) (run_for (ρs := fun (s3 : PV) => [(.fz a_coefficients), (.fz a_x), (.fz a_q), (.fz s3), .un]) (s0 := x1) (ρe := fun (s3 : PV) (a4 : PV) => [(.fz a_coefficients), (.fz a_x), (.fz a_q), (.fz s3), (.fz a4)]) (it_rev (pu_var rfl)) (.keep (.keep (.keep (.keep (.keep .nil))))) (wk_uns rfl) (fun s3 => (tg_name (i := 4) rfl (Or.inl rfl))) (fun a4 s3 => run_one (run_set (i := 3) (pu_op o2_mod (Pur.vw (pu_op o2_add (Pur.vw (pu_op o2_mul (Pur.vw (pu_var rfl)) (Pur.vw (pu_var rfl)))) (Pur.vw (pu_var rfl)))) (Pur.vw (pu_var rfl))) rfl (wk_uns rfl) fun x11 => (run_next (s := x11) (.keep (.keep (.keep (.keep (.drop .nil))))))))) fun s14 => (run_ret (pu_var rfl) rfl rfl (wk_uns rfl)))))), rfl⟩
def m_interpolate (a_points a_q : PV) : Res PV := retF (((((Res.val a_points) >>= asSq) >>= fun ps6 => sized ps6.length >>= fun _ => lcF (fun x => Res.val x) (fun (a1 : PV) => (Res.val true)) (fun (a1 : PV) => (((Res.val a1) >>= fun x2 => (Res.val (PV.int 0)) >>= fun x3 => ixP x2 x3) >>= fun x4 => (Res.val a_q) >>= fun x5 => modP x4 x5)) ps6) >>= fun ps7 => Res.val (PV.lst ps7)) >>= fun x8 => (((((Res.val x8) >>= lenSetV) >>= fun x9 => ((Res.val x8) >>= lenP) >>= fun x10 => neP x9 x10) >>= asB) >>= fun b11 => if b11 = true then (Res.exc "BadPoints") else ((((Res.val (PV.int 1)) >>= fun x12 => (Res.val []) >>= fun xs13 => Res.val (x12 :: xs13)) >>= mkT) >>= fun x14 => (seqF (S1 := PV) (((Res.val x8) >>= asSq) >>= fun ps21 => forF (fun (x22 : PV) (s15 : PV) => (fun x => Res.val x) x22 >>= fun (a16 : PV) => (((Res.val s15) >>= fun x17 => (Res.val a16) >>= fun x18 => (Res.val a_q) >>= fun x19 => m_times_root x17 x18 x19) >>= fun x20 => (Res.val (.nx x20)))) ps21 x14) fun s23 => (((((Res.val (PV.int 0)) >>= fun x24 => (Res.val []) >>= fun xs25 => Res.val (x24 :: xs25)) >>= mkL) >>= fun x26 => ((Res.val a_points) >>= lenP) >>= fun x27 => mulP x26 x27) >>= fun x28 => (seqF (S1 := PV) (((Res.val x8) >>= fun x29 => (Res.val a_points) >>= fun x30 => zipW x29 x30) >>= fun ps59 => forF (fun (x60 : PV) (s31 : PV) => un2 x60 >>= fun (a32 : PV × PV) => (((Res.val s23) >>= fun x33 => (Res.val a32.1) >>= fun x34 => (Res.val a_q) >>= fun x35 => m_without_root x33 x34 x35) >>= fun x36 => ((((Res.val a32.2) >>= fun x37 => (Res.val (PV.int 1)) >>= fun x38 => ixP x37 x38) >>= fun x44 => (((Res.val x36) >>= fun x39 => (Res.val a32.1) >>= fun x40 => (Res.val a_q) >>= fun x41 => m_value_at x39 x40 x41) >>= fun x42 => (Res.val a_q) >>= fun x43 => m_inverse x42 x43) >>= fun x45 => mulP x44 x45) >>= fun x46 => (((((Res.val s31) >>= fun x47 => (Res.val x36) >>= fun x48 => zipW x47 x48) >>= fun ps56 => sized ps56.length >>= fun _ => lcF un2 (fun (a49 : PV × PV) => (Res.val true)) (fun (a49 : PV × PV) => (((Res.val a49.1) >>= fun x52 => ((Res.val x46) >>= fun x50 => (Res.val a49.2) >>= fun x51 => mulP x50 x51) >>= fun x53 => addP x52 x53) >>= fun x54 => (Res.val a_q) >>= fun x55 => modP x54 x55)) ps56) >>= fun ps57 => Res.val (PV.lst ps57)) >>= fun x58 => (Res.val (.nx x58)))))) ps59 x28) fun s61 => (((Res.val s61) >>= tupleP) >>= fun v62 => Res.val (.rt v62 []))))))))
theorem ok_interpolate (T : Top K mg) : FnOk P w K mg base (L2.CX P w) 2 T.f_interpolate T.d_interpolate ["points", "q"] (spP K (clT T) (ap2 m_interpolate)) := by
  have G_times_root := ok_times_root (P := P) (w := w) (base := base) T
  have G_without_root := ok_without_root (P := P) (w := w) (base := base) T
  have G_inverse := ok_inverse (P := P) (w := w) (base := base) T
  have G_value_at := ok_value_at (P := P) (w := w) (base := base) T
  refine fnP T.F_interpolate scinterpolate rfl takn2 fun cdv A outer s H E hr qs hq => ?_
  match qs, hq with
  | [a_points, a_q], _ => exact ⟨_, (pss_cons (ps_setLc (i := 2) (own := [("point", 3)]) (g := gName 3) (tt := tYes) rfl scinterpolate.nd rfl rfl (sw_true rfl rfl rfl (by decide +kernel)) (pi_seqV K rfl (pv 0)) (blkOk_by (own := [("point", 3)]) (N := ["points", "q", "places", "point", "whole", "place", "found", "part", "scale", "old", "new"]) (sc := defScope s_interpolate) (by decide +kernel)) (fun _ _ _ _ _ => (pg_name (i := 3) scinterpolate.nd rfl (Or.inl rfl))) (fun _ _ _ _ _ => pts_nil) (fun _ _ _ _ _ => (pe_op op_modN (pe_ix (ix_VK K rfl) (pv 3) pe_int (fun _ _ => rfl)) (pv 1))))
      (pss_cons (ps_if (pt_cmpR (op_neV K rfl hr.units) (pe_lenSetV K rfl rfl (by rfl) T.z_len (by rfl) T.z_set (pv 2)) (pe_callB (call_lenVK K rfl) (by rfl) T.z_len PySem.boot_len (pa_cons (pv 2) pa_nil)) (nomark _)) (pss_one (ps_raise rfl (takes_of rfl rfl rfl rfl) (pmk_own0 PySem.F.excBase_ValueError T.x_BadPoints T.m_BadPoints T.kc_BadPoints (raises_own T.s_BadPoints T.t_BadPoints) rfl))) pss_nil)
      (pss_cons (ps_set (i := 4) scinterpolate.nd rfl (Or.inl rfl) (pe_tup (pa_cons pe_int pa_nil)))
      (pss_cons (ps_for (passes_of rfl) rfl (pi_seqV K rfl (pv 2)) (pg_name (i := 5) scinterpolate.nd rfl (Or.inl rfl)) (pss_one (ps_set (i := 4) scinterpolate.nd rfl (Or.inl rfl) (pe_callS G_times_root (hr.mono (by decide)) (by rfl) T.m_times_root T.F_times_root.kp T.b_times_root (fun σ => passAt (takes_of rfl rfl rfl rfl) σ) (pa_cons (pv 4) (pa_cons (pv 5) (pa_cons (pv 1) pa_nil)))))))
      (pss_cons (ps_set (i := 6) scinterpolate.nd rfl (Or.inl rfl) (pe_op op_mulV (pe_lst (pa_cons pe_int pa_nil)) (pe_callB (call_lenVK K rfl) (by rfl) T.z_len PySem.boot_len (pa_cons (pv 0) pa_nil))))
      (pss_cons (ps_for (passes_of rfl) rfl (pi_zip2 K rfl (by rfl) T.z_zip (pa_cons (pv 2) (pa_cons (pv 0) pa_nil))) (pg_tup (by rfl) (pgs_cons (pg_name (i := 5) scinterpolate.nd rfl (Or.inl rfl)) (pgs_cons (pg_name (i := 3) scinterpolate.nd rfl (Or.inl rfl)) pgs_nil))) (pss_cons (ps_set (i := 7) scinterpolate.nd rfl (Or.inl rfl) (pe_callS G_without_root (hr.mono (by decide)) (by rfl) T.m_without_root T.F_without_root.kp T.b_without_root (fun σ => passAt (takes_of rfl rfl rfl rfl) σ) (pa_cons (pv 4) (pa_cons (pv 5) (pa_cons (pv 1) pa_nil)))))
      (pss_cons (ps_set (i := 8) scinterpolate.nd rfl (Or.inr rfl) (pe_op op_mulV (pe_ix (ix_VK K rfl) (pv 3) pe_int (fun _ _ => rfl)) (pe_callS G_inverse (hr.mono (by decide)) (by rfl) T.m_inverse T.F_inverse.kp T.b_inverse (fun σ => passAt (takes_of rfl rfl rfl rfl) σ) (pa_cons (pe_callS G_value_at (hr.mono (by decide)) (by rfl) T.m_value_at T.F_value_at.kp T.b_value_at (fun σ => passAt (takes_of rfl rfl rfl rfl) σ) (pa_cons (pv 7) (pa_cons (pv 5) (pa_cons (pv 1) pa_nil)))) (pa_cons (pv 1) pa_nil)))))
      (pss_one (ps_setLc (i := 6) (own := [("old", 9), ("new", 10)]) (g := gTup K 2 (gCons (gName 9) (gCons (gName 10) gNil))) (tt := tYes) rfl scinterpolate.nd rfl rfl (sw_true rfl rfl rfl (by decide +kernel)) (pi_zip2 K rfl (by rfl) T.z_zip (pa_cons (pv 6) (pa_cons (pv 7) pa_nil))) (blkOk_by (own := [("old", 9), ("new", 10)]) (N := ["points", "q", "places", "point", "whole", "place", "found", "part", "scale", "old", "new"]) (sc := defScope s_interpolate) (by decide +kernel)) (fun _ _ _ _ _ => (pg_tup (by rfl) (pgs_cons (pg_name (i := 9) scinterpolate.nd rfl (Or.inl rfl)) (pgs_cons (pg_name (i := 10) scinterpolate.nd rfl (Or.inl rfl)) pgs_nil)))) (fun _ _ _ _ _ => pts_nil) (fun _ _ _ _ _ => (pe_op op_modN (pe_op (op_addV K rfl) (pv 9) (pe_op op_mulV (pv 8) (pv 10))) (pv 1))))))))
      (pss_one (ps_ret (pe_callTy (call_tupleV K rfl) (by rfl) T.z_tuple (by decide +kernel) (pa_cons (pv 6) pa_nil)))))))))),
    _, run_one (run_assoc (run_set (i := 2) (New.pur (nw_lc (ρe := fun (a1 : PV) => [(.fz a_points), (.fz a_q), .un, (.fz a1), .un, .un, .un, .un, .un, .un, .un]) (Iter.view (it_seq (pu_var rfl))) rfl (by decide) (tg_name (i := 3) rfl (Or.inr (by decide))) (fun a1 => ts_yes) (fun a1 => (pu_op o2_mod (Pur.vw (pu_op o2_ix (Pur.vw (pu_var rfl)) (Pur.vw pu_int))) (Pur.vw (pu_var rfl)))))) rfl (wk_uns rfl) fun x8 => (run_assoc (run_if (ts_cmp (Pur.vw (pu_op o2_ne (Pur.vw (pu_lenSetV (pu_var rfl))) (Pur.vw (pu_cb1 b1_len (Pur.vw (pu_var rfl))))))) (wk_uns rfl) (run_raise T.ce_BadPoints (wk_uns rfl)) (run_skip (run_assoc (run_set (i := 4) (pu_tup (pl_cons pu_int pl_nil)) rfl (wk_uns rfl) fun x14 => (run_assoc (run_seq (ρj := fun (s23 : PV) => [(.fz a_points), (.fz a_q), (.fz x8), .un, (.fz s23), .un, .un, .un, .un, .un, .un]) (run_for (ρs := fun (s15 : PV) => [(.fz a_points), (.fz a_q), (.fz x8), .un, (.fz s15), .un, .un, .un, .un, .un, .un]) (s0 := x14) (ρe := fun (s15 : PV) (a16 : PV) => [(.fz a_points), (.fz a_q), (.fz x8), .un, (.fz s15), (.fz a16), .un, .un, .un, .un, .un]) (it_seq (pu_var rfl)) (.keep (.keep (.keep (.keep (.keep (.keep (.keep (.keep (.keep (.keep (.keep .nil))))))))))) (wk_uns rfl) (fun s15 => (tg_name (i := 5) rfl (Or.inl rfl))) (fun a16 s15 => run_one (run_set (i := 4) (pu_call3 (pu_var rfl) (pu_var rfl) (pu_var rfl)) rfl (wk_uns rfl) fun x20 => (run_next (s := x20) (.keep (.keep (.keep (.keep (.keep (.drop (.keep (.keep (.keep (.keep (.keep .nil))))))))))))))) fun s23 => (run_assoc (run_set (i := 6) (pu_op o2_mul (Pur.vw (pu_lst (pl_cons pu_int pl_nil))) (Pur.vw (pu_cb1 b1_len (Pur.vw (pu_var rfl))))) rfl (wk_uns rfl) fun x28 => (run_assoc (run_seq (ρj := fun (s61 : PV) => [(.fz a_points), (.fz a_q), (.fz x8), .un, (.fz s23), .un, (.fz s61), .un, .un, .un, .un]) (run_for (ρs := fun (s31 : PV) => [(.fz a_points), (.fz a_q), (.fz x8), .un, (.fz s23), .un, (.fz s31), .un, .un, .un, .un]) (s0 := x28) (ρe := fun (s31 : PV) (a32 : PV × PV) => [(.fz a_points), (.fz a_q), (.fz x8), (.fz a32.2), (.fz s23), (.fz a32.1), (.fz s31), .un, .un, .un, .un]) (it_zip2 (pu_var rfl) (pu_var rfl)) (.keep (.keep (.keep (.keep (.keep (.keep (.keep (.keep (.keep (.keep (.keep .nil))))))))))) (wk_uns rfl) (fun s31 => (tg_2 (i := 5) (j := 3) rfl rfl (Or.inl rfl))) (fun a32 s31 => run_one (run_assoc (run_set (i := 7) (pu_call3 (pu_var rfl) (pu_var rfl) (pu_var rfl)) rfl (wk_uns rfl) fun x36 => (run_assoc (run_set (i := 8) (pu_op o2_mul (Pur.vw (pu_op o2_ix (Pur.vw (pu_var rfl)) (Pur.vw pu_int))) (Pur.vw (pu_call2 (pu_call3 (pu_var rfl) (pu_var rfl) (pu_var rfl)) (pu_var rfl)))) rfl (wk_uns rfl) fun x46 => (run_set (i := 6) (New.pur (nw_lc (ρe := fun (a49 : PV × PV) => [(.fz a_points), (.fz a_q), (.fz x8), (.fz a32.2), (.fz s23), (.fz a32.1), (.fz s31), (.fz x36), (.fz x46), (.fz a49.1), (.fz a49.2)]) (itv_zip2 (Pur.vw (pu_var rfl)) (Pur.vw (pu_var rfl))) rfl (by decide) (tg_2 (i := 9) (j := 10) rfl rfl (Or.inr (by decide))) (fun a49 => ts_yes) (fun a49 => (pu_op o2_mod (Pur.vw (pu_op o2_add (Pur.vw (pu_var rfl)) (Pur.vw (pu_op o2_mul (Pur.vw (pu_var rfl)) (Pur.vw (pu_var rfl)))))) (Pur.vw (pu_var rfl)))))) rfl (wk_uns rfl) fun x58 => (run_next (s := x58) (.keep (.keep (.keep (.drop (.keep (.drop (.keep (.drop (.drop (.keep (.keep .nil))))))))))))))))))) fun s61 => (run_ret (pu_cb1 b1_tuple (Pur.vw (pu_var rfl))) rfl rfl (wk_uns rfl))))))))))))))), rfl⟩
def m__law_asked (a_points a_q : PV) : Res PV := retF (seqF (S1 := Unit) (tryF ((((Res.val (PV.str "told")) >>= fun x6 => (((Res.val a_points) >>= fun x2 => (Res.val a_q) >>= fun x3 => m_interpolate x2 x3) >>= fun x4 => (Res.val []) >>= fun xs5 => Res.val (x4 :: xs5)) >>= fun xs7 => Res.val (x6 :: xs7)) >>= mkT) >>= fun v8 => Res.val (.rt v8 [])) hit_BadPoints ((((Res.val (PV.str "points")) >>= fun x9 => (Res.val []) >>= fun xs10 => Res.val (x9 :: xs10)) >>= mkT) >>= fun v11 => Res.val (.rt v11 []))) fun s1 => (Res.val (.nx ())))
theorem ok__law_asked (T : Top K mg) : FnOk P w K mg base (L2.CX P w) 3 T.f__law_asked T.d__law_asked ["points", "q"] (spP K (clT T) (ap2 m__law_asked)) := by
  have G_interpolate := ok_interpolate (P := P) (w := w) (base := base) T
  refine fnP T.F__law_asked scLasked rfl takn2 fun cdv A outer s H E hr qs hq => ?_
  match qs, hq with
  | [a_points, a_q], _ => exact ⟨_, (pss_one (ps_try_only rfl rfl ⟨rfl, by decide, (.inl T.m_BadPoints)⟩ (takes_of rfl rfl rfl rfl) (fun W pn xe tk pw => (pss_one (ps_ret (pe_tup (pa_cons pe_str (pa_cons (pe_callS G_interpolate (hr.mono (by decide)) (by rfl) T.m_interpolate T.F_interpolate.kp T.b_interpolate (fun σ => passAt tk σ) (pa_cons (pv 0) (pa_cons (pv 1) pa_nil))) pa_nil)))))) (fun a oe cls d pn _ _ => (pss_one (ps_ret (pe_tup (pa_cons pe_str pa_nil))))))),
    _, run_one (run_seq (ρj := fun (s1 : Unit) => [(.fz a_points), (.fz a_q)]) (run_try (ρh := [(.fz a_points), (.fz a_q)]) T.hit_BadPoints (wk_uns rfl) (fun W' => run_one (run_ret (pu_tup (pl_cons pu_str (pl_cons (pu_call2 (pu_var rfl) (pu_var rfl)) pl_nil))) rfl rfl (.keep (.keep .nil)))) (fun a cls d => run_one (run_ret (pu_tup (pl_cons pu_str pl_nil)) rfl rfl (wk_uns rfl)))) fun s1 => (run_next (s := ()) (wk_uns rfl))), rfl⟩
def m__law_great (mo : MO) : Res (PV × MO) := match mo with
  | .lst a_box => retR (noX ((fun (s1 : List PV) => (fun (s2 : List PV) => noX (((Res.val (PV.int 1)) >>= fun x9 => ((Res.val (PV.int 3)) >>= fun x7 => ((Res.val (PV.int 20)) >>= fun x5 => ((Res.val (PV.int 50)) >>= fun x3 => (Res.val []) >>= fun xs4 => Res.val (x3 :: xs4)) >>= fun xs6 => Res.val (x5 :: xs6)) >>= fun xs8 => Res.val (x7 :: xs8)) >>= fun xs10 => Res.val (x9 :: xs10)) >>= mkL) >>= fun v11 => Res.val (v11, s2)) s1 >>= fun x22 => (fun (s12 : List PV) => (fun (s16 : List PV) => (fun (s13 : List PV) => noX (Res.val (PV.int 4)) >>= fun v14 => Res.val (v14, s13)) s16 >>= fun x17 => (fun (s15 : List PV) => Res.val (([] : List PV), s15)) x17.2 >>= fun xs18 => Res.val (x17.1 :: xs18.1, xs18.2)) s12 >>= fun x19 => (apR1 m__law_draw) (MO.lst x19.2) x19.1 >>= fun r20 => ((fun (s12 : List PV) (mo : MO) => moL mo >>= fun l => Res.val l) x19.2 r20.2) >>= fun s21 => Res.val (r20.1, s21)) x22.2 >>= fun x23 => noX (ixP x22.1 x23.1) >>= fun z24 => Res.val (z24, x23.2)) a_box) >>= fun r27 => (fun (x25 : PV) (s26 : List PV) => ((Res.val (PV.int 0)) >>= fun x28 => (seqF (S1 := PV × List PV) (((Res.val x25) >>= rng1) >>= fun ps53 => forF (fun (x54 : PV) (s29 : PV × List PV) => (fun x => Res.val x) x54 >>= fun (a30 : PV) => (noX ((fun (s31 : List PV) => (fun (s32 : List PV) => noX ((Res.val s29.1) >>= fun x33 => (Res.val (PV.int 10)) >>= fun x34 => mulP x33 x34) >>= fun v35 => Res.val (v35, s32)) s31 >>= fun x46 => (fun (s36 : List PV) => (fun (s40 : List PV) => (fun (s37 : List PV) => noX (Res.val (PV.int 10)) >>= fun v38 => Res.val (v38, s37)) s40 >>= fun x41 => (fun (s39 : List PV) => Res.val (([] : List PV), s39)) x41.2 >>= fun xs42 => Res.val (x41.1 :: xs42.1, xs42.2)) s36 >>= fun x43 => (apR1 m__law_draw) (MO.lst x43.2) x43.1 >>= fun r44 => ((fun (s36 : List PV) (mo : MO) => moL mo >>= fun l => Res.val l) x43.2 r44.2) >>= fun s45 => Res.val (r44.1, s45)) x46.2 >>= fun x47 => noX (addP x46.1 x47.1) >>= fun z48 => Res.val (z48, x47.2)) s29.2) >>= fun r51 => (fun (x49 : PV) (s50 : List PV) => (Res.val (.nx (x49, s50)))) r51.1 r51.2)) ps53 (x28, s26)) fun s55 => (noX ((fun (s56 : List PV) => (fun (s57 : List PV) => noX (((Res.val s55.1) >>= fun x62 => (((Res.val (PV.int 0)) >>= fun x58 => (Res.val s55.1) >>= fun x59 => subP x58 x59) >>= fun x60 => (Res.val []) >>= fun xs61 => Res.val (x60 :: xs61)) >>= fun xs63 => Res.val (x62 :: xs63)) >>= mkL) >>= fun v64 => Res.val (v64, s57)) s56 >>= fun x75 => (fun (s65 : List PV) => (fun (s69 : List PV) => (fun (s66 : List PV) => noX (Res.val (PV.int 2)) >>= fun v67 => Res.val (v67, s66)) s69 >>= fun x70 => (fun (s68 : List PV) => Res.val (([] : List PV), s68)) x70.2 >>= fun xs71 => Res.val (x70.1 :: xs71.1, xs71.2)) s65 >>= fun x72 => (apR1 m__law_draw) (MO.lst x72.2) x72.1 >>= fun r73 => ((fun (s65 : List PV) (mo : MO) => moL mo >>= fun l => Res.val l) x72.2 r73.2) >>= fun s74 => Res.val (r73.1, s74)) x75.2 >>= fun x76 => noX (ixP x75.1 x76.1) >>= fun z77 => Res.val (z77, x76.2)) s55.2) >>= fun r78 => Res.val (.rt r78.1 ((fun (s79 : List PV) => [.lst s79]) r78.2)))))) r27.1 r27.2)
  | _ => .stuck
theorem ok__law_great (T : Top K mg) : FnOk P w K mg base (L2.CX P w) 3 T.f__law_great T.d__law_great ["box"] (spR K (clT T) (apR0 m__law_great)) := by
  have G__law_draw := ok__law_draw (P := P) (w := w) (base := base) T
  refine fnR T.F__law_great scLgreat rfl taknR0 fun cdv A outer s H E hr mo qs hq => ?_
  match mo, qs, hq with
  | .dct _, [], _ => exact .inl rfl
  | .ob _ _, [], _ => exact .inl rfl
  | .lst a_box, [], _ => exact .inr ⟨_, (pss_cons (ps_set (i := 1) scLgreat.nd rfl (Or.inl rfl) (pe_ix (ix_VK K rfl) (pe_lst (pa_cons pe_int (pa_cons pe_int (pa_cons pe_int (pa_cons pe_int pa_nil))))) (pe_callS G__law_draw (hr.mono (by decide)) (by rfl) T.m__law_draw T.F__law_draw.kp T.b__law_draw (fun σ => passAt (takes_of rfl rfl rfl rfl) σ) (pa_cons (pv 0) (pa_cons pe_int pa_nil))) (fun _ _ => rfl)))
      (pss_cons (ps_set (i := 2) scLgreat.nd rfl (Or.inl rfl) pe_int)
      (pss_cons (ps_for (passes_of rfl) rfl (pi_range1 (by rfl) T.z_range (pa_cons (pv 1) pa_nil)) (pg_name (i := 3) scLgreat.nd rfl (Or.inl rfl)) (pss_one (ps_set (i := 2) scLgreat.nd rfl (Or.inl rfl) (pe_op (op_addV K rfl) (pe_op op_mulV (pv 2) pe_int) (pe_callS G__law_draw (hr.mono (by decide)) (by rfl) T.m__law_draw T.F__law_draw.kp T.b__law_draw (fun σ => passAt (takes_of rfl rfl rfl rfl) σ) (pa_cons (pv 0) (pa_cons pe_int pa_nil)))))))
      (pss_one (ps_ret (pe_ix (ix_VK K rfl) (pe_lst (pa_cons (pv 2) (pa_cons (pe_op op_sub pe_int (pv 2)) pa_nil))) (pe_callS G__law_draw (hr.mono (by decide)) (by rfl) T.m__law_draw T.F__law_draw.kp T.b__law_draw (fun σ => passAt (takes_of rfl rfl rfl rfl) σ) (pa_cons (pv 0) (pa_cons pe_int pa_nil))) (fun _ _ => rfl))))))),
    _, run_one (run_assoc (run_setE (i := 1) (ρs := (fun (s81 : List PV) => [(.rf 0 (.lst s81)), .un, .un, .un])) (s0 := a_box) (ef_op o2_ix (ef_pure (W := (fun c d _ H' => E c d H')) fun s2 => (pu_lst (pl_cons pu_int (pl_cons pu_int (pl_cons pu_int (pl_cons pu_int pl_nil)))))) (ef_callR (i := 0) (sl := (fun (s12 : List PV) => (.rf 0 (.lst s12)))) (get := (fun (s12 : List PV) => MO.lst s12)) (put := (fun (s12 : List PV) (mo : MO) => moL mo >>= fun l => Res.val l)) (fun _ => rfl) (fun _ => Or.inr ⟨_, rfl⟩) (fun s mo s' h => by cases mo <;> first | (cases h; rfl) | cases h) (el_cons (ef_pure (W := (fun c d _ H' => E c d H')) fun s13 => pu_int) el_nil))) rfl (fun _ => rfl) fun x25 s26 => (run_assoc (run_set (i := 2) pu_int rfl (wk_uns rfl) fun x28 => (run_assoc (run_seq (ρj := fun (s55 : PV × List PV) => [(.rf 0 (.lst s55.2)), (.fz x25), (.fz s55.1), .un]) (run_for (ρs := fun (s29 : PV × List PV) => [(.rf 0 (.lst s29.2)), (.fz x25), (.fz s29.1), .un]) (s0 := (x28, s26)) (ρe := fun (s29 : PV × List PV) (a30 : PV) => [(.rf 0 (.lst s29.2)), (.fz x25), (.fz s29.1), (.fz a30)]) (it_rng1 (Pur.vw (pu_var rfl))) (.keep (.keep (.keep (.keep .nil)))) (wk_uns rfl) (fun s29 => (tg_name (i := 3) rfl (Or.inl rfl))) (fun a30 s29 => run_one (run_setE (i := 2) (ρs := (fun (s52 : List PV) => [(.rf 0 (.lst s52)), (.fz x25), (.fz s29.1), (.fz a30)])) (s0 := s29.2) (ef_op o2_add (ef_pure (W := (fun c d _ H' => E c d H')) fun s32 => (pu_op o2_mul (Pur.vw (pu_var rfl)) (Pur.vw pu_int))) (ef_callR (i := 0) (sl := (fun (s36 : List PV) => (.rf 0 (.lst s36)))) (get := (fun (s36 : List PV) => MO.lst s36)) (put := (fun (s36 : List PV) (mo : MO) => moL mo >>= fun l => Res.val l)) (fun _ => rfl) (fun _ => Or.inr ⟨_, rfl⟩) (fun s mo s' h => by cases mo <;> first | (cases h; rfl) | cases h) (el_cons (ef_pure (W := (fun c d _ H' => E c d H')) fun s37 => pu_int) el_nil))) rfl (fun _ => rfl) fun x49 s50 => (run_next (s := (x49, s50)) (.keep (.keep (.keep (.drop .nil)))))))) fun s55 => (run_retE (ρs := (fun (s80 : List PV) => [(.rf 0 (.lst s80)), (.fz x25), (.fz s55.1), .un])) (s0 := s55.2) (r := fun (s79 : List PV) => [.lst s79]) (ef_op o2_ix (ef_pure (W := (fun c d _ H' => E c d H')) fun s57 => (pu_lst (pl_cons (pu_var rfl) (pl_cons (pu_op o2_sub (Pur.vw pu_int) (Pur.vw (pu_var rfl))) pl_nil)))) (ef_callR (i := 0) (sl := (fun (s65 : List PV) => (.rf 0 (.lst s65)))) (get := (fun (s65 : List PV) => MO.lst s65)) (put := (fun (s65 : List PV) (mo : MO) => moL mo >>= fun l => Res.val l)) (fun _ => rfl) (fun _ => Or.inr ⟨_, rfl⟩) (fun s mo s' h => by cases mo <;> first | (cases h; rfl) | cases h) (el_cons (ef_pure (W := (fun c d _ H' => E c d H')) fun s66 => pu_int) el_nil))) rfl (fun _ => rfl) (fun _ => rfl)))))))), rfl⟩
def m__law_places (mo : MO) (a_q : PV) (a_many : PV) : Res (PV × MO) := match mo with
  | .lst a_box => retR ((((Res.val a_q) >>= rng1) >>= fun ps2 => sized ps2.length >>= fun _ => lcF (fun x => Res.val x) (fun (a1 : PV) => (Res.val true)) (fun (a1 : PV) => (Res.val a1)) ps2) >>= fun l3 => (((Res.val []) >>= mkN) >>= fun l4 => (seqF (S1 := List PV × List PV × List PV) (((Res.val a_many) >>= rng1) >>= fun ps86 => forF (fun (x87 : PV) (s5 : List PV × List PV × List PV) => (fun x => Res.val x) x87 >>= fun (a6 : PV) => (noX ((fun (s7 : List PV × List PV) => (fun (s8 : List PV × List PV) => (fun (s12 : List PV × List PV) => (fun (s9 : List PV × List PV) => noX ((Res.val (PV.lst s9.1)) >>= lenP) >>= fun v10 => Res.val (v10, s9)) s12 >>= fun x13 => (fun (s11 : List PV × List PV) => Res.val (([] : List PV), s11)) x13.2 >>= fun xs14 => Res.val (x13.1 :: xs14.1, xs14.2)) s8 >>= fun x15 => (apR1 m__law_draw) (MO.lst x15.2.2) x15.1 >>= fun r16 => ((fun (s8 : List PV × List PV) (mo : MO) => moL mo >>= fun l => Res.val (s8.1, l)) x15.2 r16.2) >>= fun s17 => Res.val (r16.1, s17)) s7 >>= fun k18 => popL k18.2.1 k18.1 >>= fun r19 => Res.val (r19.1, (r19.2, k18.2.2))) (s5.1, s5.2.1)) >>= fun r22 => (fun (x20 : PV) (s21 : List PV × List PV) => (noX ((fun (s23 : List PV × List PV) => (fun (s24 : List PV × List PV) => noX (Res.val x20) >>= fun v25 => Res.val (v25, s24)) s23 >>= fun x78 => (fun (s26 : List PV × List PV) => (fun (s27 : List PV × List PV) => (fun (s60 : List PV × List PV) => (fun (s28 : List PV × List PV) => noX (Res.val (PV.int 0)) >>= fun v29 => Res.val (v29, s28)) s60 >>= fun x61 => (fun (s57 : List PV × List PV) => (fun (s30 : List PV × List PV) => noX (Res.val (PV.int 0)) >>= fun v31 => Res.val (v31, s30)) s57 >>= fun x58 => (fun (s54 : List PV × List PV) => (fun (s32 : List PV × List PV) => noX (Res.val a_q) >>= fun v33 => Res.val (v33, s32)) s54 >>= fun x55 => (fun (s51 : List PV × List PV) => (fun (s34 : List PV × List PV) => noX ((Res.val a_q) >>= negP) >>= fun v35 => Res.val (v35, s34)) s51 >>= fun x52 => (fun (s48 : List PV × List PV) => (fun (s36 : List PV × List PV) => (fun (s37 : List PV × List PV) => noX (Res.val a_q) >>= fun v38 => Res.val (v38, s37)) s36 >>= fun x44 => (fun (s39 : List PV × List PV) => (fun (s40 : List PV × List PV) => Res.val (([] : List PV), s40)) s39 >>= fun x41 => (apR0 m__law_great) (MO.lst x41.2.1) x41.1 >>= fun r42 => ((fun (s39 : List PV × List PV) (mo : MO) => moL mo >>= fun l => Res.val (l, s39.2)) x41.2 r42.2) >>= fun s43 => Res.val (r42.1, s43)) x44.2 >>= fun x45 => noX (mulP x44.1 x45.1) >>= fun z46 => Res.val (z46, x45.2)) s48 >>= fun x49 => (fun (s47 : List PV × List PV) => Res.val (([] : List PV), s47)) x49.2 >>= fun xs50 => Res.val (x49.1 :: xs50.1, xs50.2)) x52.2 >>= fun xs53 => Res.val (x52.1 :: xs53.1, xs53.2)) x55.2 >>= fun xs56 => Res.val (x55.1 :: xs56.1, xs56.2)) x58.2 >>= fun xs59 => Res.val (x58.1 :: xs59.1, xs59.2)) x61.2 >>= fun xs62 => Res.val (x61.1 :: xs62.1, xs62.2)) s27 >>= fun x63 => mkL x63.1 >>= fun z64 => Res.val (z64, x63.2)) s26 >>= fun x75 => (fun (s65 : List PV × List PV) => (fun (s69 : List PV × List PV) => (fun (s66 : List PV × List PV) => noX (Res.val (PV.int 5)) >>= fun v67 => Res.val (v67, s66)) s69 >>= fun x70 => (fun (s68 : List PV × List PV) => Res.val (([] : List PV), s68)) x70.2 >>= fun xs71 => Res.val (x70.1 :: xs71.1, xs71.2)) s65 >>= fun x72 => (apR1 m__law_draw) (MO.lst x72.2.1) x72.1 >>= fun r73 => ((fun (s65 : List PV × List PV) (mo : MO) => moL mo >>= fun l => Res.val (l, s65.2)) x72.2 r73.2) >>= fun s74 => Res.val (r73.1, s74)) x75.2 >>= fun x76 => noX (ixP x75.1 x76.1) >>= fun z77 => Res.val (z77, x76.2)) x78.2 >>= fun x79 => noX (addP x78.1 x79.1) >>= fun z80 => Res.val (z80, x79.2)) (s21.2, s5.2.2)) >>= fun r83 => sized ((r83.2.2).length + 1) >>= fun _ => (fun (s82 : List PV × List PV) (x81 : PV) => (Res.val (.nx (s21.1, s82.1, (s82.2 ++ [x81]))))) r83.2 r83.1)) r22.1 r22.2)) ps86 (l3, a_box, l4)) fun s88 => ((Res.val (PV.lst s88.2.2)) >>= fun v89 => Res.val (.rt v89 [.lst s88.2.1])))))
  | _ => .stuck
theorem ok__law_places (T : Top K mg) : FnOk P w K mg base (L2.CX P w) 4 T.f__law_places T.d__law_places ["box", "q", "many"] (spR K (clT T) (apR2 m__law_places)) := by
  have G__law_draw := ok__law_draw (P := P) (w := w) (base := base) T
  have G__law_great := ok__law_great (P := P) (w := w) (base := base) T
  refine fnR T.F__law_places scLplaces rfl taknR2 fun cdv A outer s H E hr mo qs hq => ?_
  match mo, qs, hq with
  | .dct _, [_, _], _ => exact .inl rfl
  | .ob _ _, [_, _], _ => exact .inl rfl
  | .lst a_box, [a_q, a_many], _ => exact .inr ⟨_, (pss_cons (ps_setLc (i := 3) (own := [("x", 4)]) (g := gName 4) (tt := tYes) rfl scLplaces.nd rfl rfl (sw_true rfl rfl rfl (by decide +kernel)) (pi_range1 (by rfl) T.z_range (pa_cons (pv 1) pa_nil)) (blkOk_by (own := [("x", 4)]) (N := ["box", "q", "many", "left", "x", "places", "k", "place"]) (sc := defScope s_Lplaces) (by decide +kernel)) (fun _ _ _ _ _ => (pg_name (i := 4) scLplaces.nd rfl (Or.inl rfl))) (fun _ _ _ _ _ => pts_nil) (fun _ _ _ _ _ => (pv 4)))
      (pss_cons (ps_set (i := 5) scLplaces.nd rfl (Or.inl rfl) (pe_lst pa_nil))
      (pss_cons (ps_for (passes_of rfl) rfl (pi_range1 (by rfl) T.z_range (pa_cons (pv 2) pa_nil)) (pg_name (i := 6) scLplaces.nd rfl (Or.inl rfl)) (pss_cons (ps_set (i := 7) scLplaces.nd rfl (Or.inl rfl) (pe_bm PySem.F.plainAttrs_list PySem.F.slot_list_pop PySem.F.type_list_pop mt_popAt (pv 3) (pa_cons (pe_callS G__law_draw (hr.mono (by decide)) (by rfl) T.m__law_draw T.F__law_draw.kp T.b__law_draw (fun σ => passAt (takes_of rfl rfl rfl rfl) σ) (pa_cons (pv 0) (pa_cons (pe_callB (call_lenVK K rfl) (by rfl) T.z_len PySem.boot_len (pa_cons (pv 3) pa_nil)) pa_nil))) pa_nil)))
      (pss_one (ps_expr (pe_bm PySem.F.plainAttrs_list PySem.F.slot_list_append PySem.F.type_list_append mt_append (pv 5) (pa_cons (pe_op (op_addV K rfl) (pv 7) (pe_ix (ix_VK K rfl) (pe_lst (pa_cons pe_int (pa_cons pe_int (pa_cons (pv 1) (pa_cons (pe_un un_neg (pv 1)) (pa_cons (pe_op op_mulV (pv 1) (pe_callS G__law_great (hr.mono (by decide)) (by rfl) T.m__law_great T.F__law_great.kp T.b__law_great (fun σ => passAt (takes_of rfl rfl rfl rfl) σ) (pa_cons (pv 0) pa_nil))) pa_nil)))))) (pe_callS G__law_draw (hr.mono (by decide)) (by rfl) T.m__law_draw T.F__law_draw.kp T.b__law_draw (fun σ => passAt (takes_of rfl rfl rfl rfl) σ) (pa_cons (pv 0) (pa_cons pe_int pa_nil))) (fun _ _ => rfl))) pa_nil))))))
      (pss_one (ps_ret (pv 5)))))),
    _, run_one (run_assoc (run_setow (i := 3) (nw_lc (ρe := fun (a1 : PV) => [(.rf 0 (.lst a_box)), (.fz a_q), (.fz a_many), .un, (.fz a1), .un, .un, .un]) (Iter.view (it_rng1 (Pur.vw (pu_var rfl)))) rfl (by decide) (tg_name (i := 4) rfl (Or.inr (by decide))) (fun a1 => ts_yes) (fun a1 => (pu_var rfl))) rfl (wk_uns rfl) fun l3 => (run_assoc (run_setow (i := 5) (nw_lst pl_nil) rfl (wk_uns rfl) fun l4 => (run_assoc (run_seq (ρj := fun (s88 : List PV × List PV × List PV) => [(.rf 0 (.lst s88.2.1)), (.fz a_q), (.fz a_many), (.ow (.lst s88.1)), .un, (.ow (.lst s88.2.2)), .un, .un]) (run_for (ρs := fun (s5 : List PV × List PV × List PV) => [(.rf 0 (.lst s5.2.1)), (.fz a_q), (.fz a_many), (.ow (.lst s5.1)), .un, (.ow (.lst s5.2.2)), .un, .un]) (s0 := (l3, a_box, l4)) (ρe := fun (s5 : List PV × List PV × List PV) (a6 : PV) => [(.rf 0 (.lst s5.2.1)), (.fz a_q), (.fz a_many), (.ow (.lst s5.1)), .un, (.ow (.lst s5.2.2)), (.fz a6), .un]) (it_rng1 (Pur.vw (pu_var rfl))) (.keep (.keep (.keep (.keep (.keep (.keep (.keep (.keep .nil)))))))) (wk_uns rfl) (fun s5 => (tg_name (i := 6) rfl (Or.inl rfl))) (fun a6 s5 => run_one (run_assoc (run_setE (i := 7) (ρs := (fun (s85 : List PV × List PV) => [(.rf 0 (.lst s85.2)), (.fz a_q), (.fz a_many), (.ow (.lst s85.1)), .un, (.ow (.lst s5.2.2)), (.fz a6), .un])) (s0 := (s5.1, s5.2.1)) (ef_pop (i := 3) (sl := (fun (s7 : List PV × List PV) => (.ow (.lst s7.1)))) (get := (fun (s7 : List PV × List PV) => s7.1)) (put := (fun (s7 : List PV × List PV) (l : List PV) => (l, s7.2))) (fun _ => rfl) (fun _ => Or.inl rfl) (fun _ _ => rfl) (ef_callR (i := 0) (sl := (fun (s8 : List PV × List PV) => (.rf 0 (.lst s8.2)))) (get := (fun (s8 : List PV × List PV) => MO.lst s8.2)) (put := (fun (s8 : List PV × List PV) (mo : MO) => moL mo >>= fun l => Res.val (s8.1, l))) (fun _ => rfl) (fun _ => Or.inr ⟨_, rfl⟩) (fun s mo s' h => by cases mo <;> first | (cases h; rfl) | cases h) (el_cons (ef_pure (W := (fun c d _ H' => E c d H')) fun s9 => (pu_cb1 b1_len (vw_own rfl))) el_nil))) rfl (fun _ => rfl) fun x20 s21 => (run_appendE (i := 5) (ρs := (fun (s84 : List PV × List PV) => [(.rf 0 (.lst s84.1)), (.fz a_q), (.fz a_many), (.ow (.lst s21.1)), .un, (.ow (.lst s84.2)), (.fz a6), (.fz x20)])) (s0 := (s21.2, s5.2.2)) (sl := (fun (s82 : List PV × List PV) => (.ow (.lst s82.2)))) (get := (fun (s82 : List PV × List PV) => s82.2)) (fun _ => rfl) (fun _ => Or.inl rfl) (ef_op o2_add (ef_pure (W := (fun c d _ H' => E c d H')) fun s24 => (pu_var rfl)) (ef_op o2_ix (ef_lst (el_cons (ef_pure (W := (fun c d _ H' => E c d H')) fun s28 => pu_int) (el_cons (ef_pure (W := (fun c d _ H' => E c d H')) fun s30 => pu_int) (el_cons (ef_pure (W := (fun c d _ H' => E c d H')) fun s32 => (pu_var rfl)) (el_cons (ef_pure (W := (fun c d _ H' => E c d H')) fun s34 => (pu_un o1_neg (Pur.vw (pu_var rfl)))) (el_cons (ef_op o2_mul (ef_pure (W := (fun c d _ H' => E c d H')) fun s37 => (pu_var rfl)) (ef_callR (i := 0) (sl := (fun (s39 : List PV × List PV) => (.rf 0 (.lst s39.1)))) (get := (fun (s39 : List PV × List PV) => MO.lst s39.1)) (put := (fun (s39 : List PV × List PV) (mo : MO) => moL mo >>= fun l => Res.val (l, s39.2))) (fun _ => rfl) (fun _ => Or.inr ⟨_, rfl⟩) (fun s mo s' h => by cases mo <;> first | (cases h; rfl) | cases h) el_nil)) el_nil)))))) (ef_callR (i := 0) (sl := (fun (s65 : List PV × List PV) => (.rf 0 (.lst s65.1)))) (get := (fun (s65 : List PV × List PV) => MO.lst s65.1)) (put := (fun (s65 : List PV × List PV) (mo : MO) => moL mo >>= fun l => Res.val (l, s65.2))) (fun _ => rfl) (fun _ => Or.inr ⟨_, rfl⟩) (fun s mo s' h => by cases mo <;> first | (cases h; rfl) | cases h) (el_cons (ef_pure (W := (fun c d _ H' => E c d H')) fun s66 => pu_int) el_nil)))) rfl fun s82 x81 => (run_next (s := (s21.1, s82.1, (s82.2 ++ [x81]))) (.keep (.keep (.keep (.keep (.keep (.keep (.drop (.drop .nil)))))))))))))) fun s88 => (run_wk (.keep (.keep (.keep (.keep (.keep (.ice (.keep (.keep .nil)))))))) (run_ret (pu_var rfl) rfl rfl (wk_uns rfl))))))))), rfl⟩
def m__law_refused (mo : MO) (a_q : PV) : Res (PV × MO) := match mo with
  | .lst a_box => retR (noX ((fun (s1 : List PV) => (fun (s2 : List PV) => noX (Res.val (PV.int 1)) >>= fun v3 => Res.val (v3, s2)) s1 >>= fun x14 => (fun (s4 : List PV) => (fun (s8 : List PV) => (fun (s5 : List PV) => noX (Res.val (PV.int 6)) >>= fun v6 => Res.val (v6, s5)) s8 >>= fun x9 => (fun (s7 : List PV) => Res.val (([] : List PV), s7)) x9.2 >>= fun xs10 => Res.val (x9.1 :: xs10.1, xs10.2)) s4 >>= fun x11 => (apR1 m__law_draw) (MO.lst x11.2) x11.1 >>= fun r12 => ((fun (s4 : List PV) (mo : MO) => moL mo >>= fun l => Res.val l) x11.2 r12.2) >>= fun s13 => Res.val (r12.1, s13)) x14.2 >>= fun x15 => noX (addP x14.1 x15.1) >>= fun z16 => Res.val (z16, x15.2)) a_box) >>= fun r19 => (fun (x17 : PV) (s18 : List PV) => (seqF (S1 := PV) ((((Res.val x17) >>= fun x20 => (Res.val a_q) >>= fun x21 => gtP x20 x21) >>= asB) >>= fun b22 => if b22 = true then ((Res.val a_q) >>= fun x24 => (Res.val (.nx x24))) else (Res.val (.nx x17))) fun s23 => (noX ((fun (s70 : List PV) => (fun (s25 : List PV) => (fun (s28 : List PV) => (fun (s37 : List PV) => (fun (s29 : List PV) => noX (Res.val a_q) >>= fun v30 => Res.val (v30, s29)) s37 >>= fun x38 => (fun (s34 : List PV) => (fun (s31 : List PV) => noX (Res.val s23) >>= fun v32 => Res.val (v32, s31)) s34 >>= fun x35 => (fun (s33 : List PV) => Res.val (([] : List PV), s33)) x35.2 >>= fun xs36 => Res.val (x35.1 :: xs36.1, xs36.2)) x38.2 >>= fun xs39 => Res.val (x38.1 :: xs39.1, xs39.2)) s28 >>= fun x40 => (apR2 m__law_places) (MO.lst x40.2) x40.1 >>= fun r41 => ((fun (s28 : List PV) (mo : MO) => moL mo >>= fun l => Res.val l) x40.2 r41.2) >>= fun s42 => Res.val (r41.1, s42)) s25 >>= fun x26 => asSq x26.1 >>= fun z27 => Res.val (z27, x26.2)) s70 >>= fun ps68 => sized ps68.1.length >>= fun _ => lcE (fun x => Res.val x) (fun (a43 : PV) => (fun (s45 : List PV) => Res.val (true, s45))) (fun (a43 : PV) => (fun (s46 : List PV) => (fun (s63 : List PV) => (fun (s47 : List PV) => noX (Res.val a43) >>= fun v48 => Res.val (v48, s47)) s63 >>= fun x64 => (fun (s60 : List PV) => (fun (s49 : List PV) => (fun (s53 : List PV) => (fun (s50 : List PV) => noX (Res.val a_q) >>= fun v51 => Res.val (v51, s50)) s53 >>= fun x54 => (fun (s52 : List PV) => Res.val (([] : List PV), s52)) x54.2 >>= fun xs55 => Res.val (x54.1 :: xs55.1, xs55.2)) s49 >>= fun x56 => (apR1 m__law_draw) (MO.lst x56.2) x56.1 >>= fun r57 => ((fun (s49 : List PV) (mo : MO) => moL mo >>= fun l => Res.val l) x56.2 r57.2) >>= fun s58 => Res.val (r57.1, s58)) s60 >>= fun x61 => (fun (s59 : List PV) => Res.val (([] : List PV), s59)) x61.2 >>= fun xs62 => Res.val (x61.1 :: xs62.1, xs62.2)) x64.2 >>= fun xs65 => Res.val (x64.1 :: xs65.1, xs65.2)) s46 >>= fun x66 => mkT x66.1 >>= fun z67 => Res.val (z67, x66.2))) ps68.1 ps68.2 >>= fun r69 => Res.val (MO.lst r69.1, r69.2)) s18) >>= fun r73 => moL r73.1 >>= fun d71 => (fun (d71 : List PV) (s72 : List PV) => (noX ((fun (s74 : List PV) => (fun (s75 : List PV) => (fun (s79 : List PV) => (fun (s76 : List PV) => noX (Res.val s23) >>= fun v77 => Res.val (v77, s76)) s79 >>= fun x80 => (fun (s78 : List PV) => Res.val (([] : List PV), s78)) x80.2 >>= fun xs81 => Res.val (x80.1 :: xs81.1, xs81.2)) s75 >>= fun x82 => (apR1 m__law_draw) (MO.lst x82.2) x82.1 >>= fun r83 => ((fun (s75 : List PV) (mo : MO) => moL mo >>= fun l => Res.val l) x82.2 r83.2) >>= fun s84 => Res.val (r83.1, s84)) s74 >>= fun x85 => noX (ixP (PV.lst ((fun (s88 : List PV) => d71) x85.2)) x85.1) >>= fun z86 => Res.val (z86, x85.2)) s72) >>= fun r91 => (fun (x89 : PV) (s90 : List PV) => (noX ((fun (s92 : List PV) => (fun (s169 : List PV) => (fun (s93 : List PV) => (fun (s94 : List PV) => noX ((Res.val x89) >>= fun x95 => (Res.val (PV.int 0)) >>= fun x96 => ixP x95 x96) >>= fun v97 => Res.val (v97, s94)) s93 >>= fun x124 => (fun (s98 : List PV) => (fun (s99 : List PV) => noX (((Res.val (PV.int 0)) >>= fun x108 => ((Res.val a_q) >>= fun x106 => (((Res.val a_q) >>= negP) >>= fun x104 => (((Res.val (PV.int 5)) >>= fun x100 => (Res.val a_q) >>= fun x101 => mulP x100 x101) >>= fun x102 => (Res.val []) >>= fun xs103 => Res.val (x102 :: xs103)) >>= fun xs105 => Res.val (x104 :: xs105)) >>= fun xs107 => Res.val (x106 :: xs107)) >>= fun xs109 => Res.val (x108 :: xs109)) >>= mkL) >>= fun v110 => Res.val (v110, s99)) s98 >>= fun x121 => (fun (s111 : List PV) => (fun (s115 : List PV) => (fun (s112 : List PV) => noX (Res.val (PV.int 4)) >>= fun v113 => Res.val (v113, s112)) s115 >>= fun x116 => (fun (s114 : List PV) => Res.val (([] : List PV), s114)) x116.2 >>= fun xs117 => Res.val (x116.1 :: xs117.1, xs117.2)) s111 >>= fun x118 => (apR1 m__law_draw) (MO.lst x118.2) x118.1 >>= fun r119 => ((fun (s111 : List PV) (mo : MO) => moL mo >>= fun l => Res.val l) x118.2 r119.2) >>= fun s120 => Res.val (r119.1, s120)) x121.2 >>= fun x122 => noX (ixP x121.1 x122.1) >>= fun z123 => Res.val (z123, x122.2)) x124.2 >>= fun x125 => noX (addP x124.1 x125.1) >>= fun z126 => Res.val (z126, x125.2)) s169 >>= fun x170 => (fun (s166 : List PV) => (fun (s127 : List PV) => (fun (s128 : List PV) => (fun (s147 : List PV) => (fun (s129 : List PV) => noX ((Res.val x89) >>= fun x130 => (Res.val (PV.int 1)) >>= fun x131 => ixP x130 x131) >>= fun v132 => Res.val (v132, s129)) s147 >>= fun x148 => (fun (s144 : List PV) => (fun (s133 : List PV) => (fun (s137 : List PV) => (fun (s134 : List PV) => noX (Res.val a_q) >>= fun v135 => Res.val (v135, s134)) s137 >>= fun x138 => (fun (s136 : List PV) => Res.val (([] : List PV), s136)) x138.2 >>= fun xs139 => Res.val (x138.1 :: xs139.1, xs139.2)) s133 >>= fun x140 => (apR1 m__law_draw) (MO.lst x140.2) x140.1 >>= fun r141 => ((fun (s133 : List PV) (mo : MO) => moL mo >>= fun l => Res.val l) x140.2 r141.2) >>= fun s142 => Res.val (r141.1, s142)) s144 >>= fun x145 => (fun (s143 : List PV) => Res.val (([] : List PV), s143)) x145.2 >>= fun xs146 => Res.val (x145.1 :: xs146.1, xs146.2)) x148.2 >>= fun xs149 => Res.val (x148.1 :: xs149.1, xs149.2)) s128 >>= fun x150 => mkL x150.1 >>= fun z151 => Res.val (z151, x150.2)) s127 >>= fun x162 => (fun (s152 : List PV) => (fun (s156 : List PV) => (fun (s153 : List PV) => noX (Res.val (PV.int 2)) >>= fun v154 => Res.val (v154, s153)) s156 >>= fun x157 => (fun (s155 : List PV) => Res.val (([] : List PV), s155)) x157.2 >>= fun xs158 => Res.val (x157.1 :: xs158.1, xs158.2)) s152 >>= fun x159 => (apR1 m__law_draw) (MO.lst x159.2) x159.1 >>= fun r160 => ((fun (s152 : List PV) (mo : MO) => moL mo >>= fun l => Res.val l) x159.2 r160.2) >>= fun s161 => Res.val (r160.1, s161)) x162.2 >>= fun x163 => noX (ixP x162.1 x163.1) >>= fun z164 => Res.val (z164, x163.2)) s166 >>= fun x167 => (fun (s165 : List PV) => Res.val (([] : List PV), s165)) x167.2 >>= fun xs168 => Res.val (x167.1 :: xs168.1, xs168.2)) x170.2 >>= fun xs171 => Res.val (x170.1 :: xs171.1, xs171.2)) s92 >>= fun x172 => mkT x172.1 >>= fun z173 => Res.val (z173, x172.2)) s90) >>= fun r176 => (fun (x174 : PV) (s175 : List PV) => (noX ((fun (s195 : List PV × List PV) => (fun (s177 : List PV × List PV) => (fun (s183 : List PV × List PV) => (fun (s178 : List PV × List PV) => noX ((Res.val s23) >>= fun x179 => (Res.val (PV.int 1)) >>= fun x180 => addP x179 x180) >>= fun v181 => Res.val (v181, s178)) s183 >>= fun x184 => (fun (s182 : List PV × List PV) => Res.val (([] : List PV), s182)) x184.2 >>= fun xs185 => Res.val (x184.1 :: xs185.1, xs185.2)) s177 >>= fun x186 => (apR1 m__law_draw) (MO.lst x186.2.1) x186.1 >>= fun r187 => ((fun (s177 : List PV × List PV) (mo : MO) => moL mo >>= fun l => Res.val (l, s177.2)) x186.2 r187.2) >>= fun s188 => Res.val (r187.1, s188)) s195 >>= fun x196 => (fun (s192 : List PV × List PV) => (fun (s189 : List PV × List PV) => noX (Res.val x174) >>= fun v190 => Res.val (v190, s189)) s192 >>= fun x193 => (fun (s191 : List PV × List PV) => Res.val (([] : List PV), s191)) x193.2 >>= fun xs194 => Res.val (x193.1 :: xs194.1, xs194.2)) x196.2 >>= fun xs197 => Res.val (x196.1 :: xs197.1, xs197.2)) (s175, d71)) >>= fun r200 => insL r200.2.2 r200.1 >>= (fun (s199 : List PV × List PV) (qs198 : List PV) => (((((Res.val (PV.lst qs198)) >>= tupleP) >>= fun x201 => (Res.val a_q) >>= fun x202 => m__law_asked x201 x202) >>= fun x205 => (((Res.val (PV.str "points")) >>= fun x203 => (Res.val []) >>= fun xs204 => Res.val (x203 :: xs204)) >>= mkT) >>= fun x206 => (m__law_alike 5) x205 x206) >>= fun v207 => Res.val (.rt v207 [.lst s199.1]))) r200.2)) r176.1 r176.2)) r91.1 r91.2)) d71 r73.2))) r19.1 r19.2)
  | _ => .stuck
theorem ok__law_refused (T : Top K mg) : FnOk P w K mg base (L2.CX P w) 7 T.f__law_refused T.d__law_refused ["box", "q"] (spR K (clT T) (apR1 m__law_refused)) := by
  have G__law_alike := ok__law_alike (P := P) (w := w) (base := base) T 5
  have G__law_draw := ok__law_draw (P := P) (w := w) (base := base) T
  have G__law_asked := ok__law_asked (P := P) (w := w) (base := base) T
  have G__law_places := ok__law_places (P := P) (w := w) (base := base) T
  refine fnR T.F__law_refused scLrefused rfl taknR1 fun cdv A outer s H E hr mo qs hq => ?_
  match mo, qs, hq with
  | .dct _, [_], _ => exact .inl rfl
  | .ob _ _, [_], _ => exact .inl rfl
  | .lst a_box, [a_q], _ => exact .inr ⟨_, (pss_cons (ps_set (i := 2) scLrefused.nd rfl (Or.inl rfl) (pe_op (op_addV K rfl) pe_int (pe_callS G__law_draw (hr.mono (by decide)) (by rfl) T.m__law_draw T.F__law_draw.kp T.b__law_draw (fun σ => passAt (takes_of rfl rfl rfl rfl) σ) (pa_cons (pv 0) (pa_cons pe_int pa_nil)))))
      (pss_cons (ps_if (pt_cmpR op_gt (pv 2) (pv 1) (nomark _)) (pss_one (ps_set (i := 2) scLrefused.nd rfl (Or.inl rfl) (pv 1))) pss_nil)
      (pss_cons (ps_setLc (i := 3) (own := [("x", 4)]) (g := gName 4) (tt := tYes) rfl scLrefused.nd rfl rfl (sw_true rfl rfl rfl (by decide +kernel)) (pi_seqV K rfl (pe_callS G__law_places (hr.mono (by decide)) (by rfl) T.m__law_places T.F__law_places.kp T.b__law_places (fun σ => passAt (takes_of rfl rfl rfl rfl) σ) (pa_cons (pv 0) (pa_cons (pv 1) (pa_cons (pv 2) pa_nil))))) (blkOk_by (own := [("x", 4)]) (N := ["box", "q", "many", "points", "x", "twice", "other"]) (sc := defScope s_Lrefused) (by decide +kernel)) (fun _ _ _ _ _ => (pg_name (i := 4) scLrefused.nd rfl (Or.inl rfl))) (fun _ _ _ _ _ => pts_nil) (fun _ _ _ _ _ => (pe_tup (pa_cons (pv 4) (pa_cons (pe_callS G__law_draw (hr.mono (by decide)) (by rfl) T.m__law_draw T.F__law_draw.kp T.b__law_draw (fun σ => passAt takes0 σ) (pa_cons (pv 0) (pa_cons (pv 1) pa_nil))) pa_nil)))))
      (pss_cons (ps_set (i := 5) scLrefused.nd rfl (Or.inl rfl) (pe_ix (ix_VK K rfl) (pv 3) (pe_callS G__law_draw (hr.mono (by decide)) (by rfl) T.m__law_draw T.F__law_draw.kp T.b__law_draw (fun σ => passAt (takes_of rfl rfl rfl rfl) σ) (pa_cons (pv 0) (pa_cons (pv 2) pa_nil))) (fun _ _ => rfl)))
      (pss_cons (ps_set (i := 6) scLrefused.nd rfl (Or.inl rfl) (pe_tup (pa_cons (pe_op (op_addV K rfl) (pe_ix (ix_VK K rfl) (pv 5) pe_int (fun _ _ => rfl)) (pe_ix (ix_VK K rfl) (pe_lst (pa_cons pe_int (pa_cons (pv 1) (pa_cons (pe_un un_neg (pv 1)) (pa_cons (pe_op op_mulV pe_int (pv 1)) pa_nil))))) (pe_callS G__law_draw (hr.mono (by decide)) (by rfl) T.m__law_draw T.F__law_draw.kp T.b__law_draw (fun σ => passAt (takes_of rfl rfl rfl rfl) σ) (pa_cons (pv 0) (pa_cons pe_int pa_nil))) (fun _ _ => rfl))) (pa_cons (pe_ix (ix_VK K rfl) (pe_lst (pa_cons (pe_ix (ix_VK K rfl) (pv 5) pe_int (fun _ _ => rfl)) (pa_cons (pe_callS G__law_draw (hr.mono (by decide)) (by rfl) T.m__law_draw T.F__law_draw.kp T.b__law_draw (fun σ => passAt (takes_of rfl rfl rfl rfl) σ) (pa_cons (pv 0) (pa_cons (pv 1) pa_nil))) pa_nil))) (pe_callS G__law_draw (hr.mono (by decide)) (by rfl) T.m__law_draw T.F__law_draw.kp T.b__law_draw (fun σ => passAt (takes_of rfl rfl rfl rfl) σ) (pa_cons (pv 0) (pa_cons pe_int pa_nil))) (fun _ _ => rfl)) pa_nil))))
      (pss_cons (ps_expr (pe_bm PySem.F.plainAttrs_list PySem.F.slot_list_insert PySem.F.type_list_insert mt_ins (pv 3) (pa_cons (pe_callS G__law_draw (hr.mono (by decide)) (by rfl) T.m__law_draw T.F__law_draw.kp T.b__law_draw (fun σ => passAt (takes_of rfl rfl rfl rfl) σ) (pa_cons (pv 0) (pa_cons (pe_op (op_addV K rfl) (pv 2) pe_int) pa_nil))) (pa_cons (pv 6) pa_nil))))
      (pss_one (ps_ret (pe_callS G__law_alike (hr.mono (by decide)) (by rfl) T.m__law_alike T.F__law_alike.kp T.b__law_alike (fun σ => passAt (takes_of rfl rfl rfl rfl) σ) (pa_cons (pe_callS G__law_asked (hr.mono (by decide)) (by rfl) T.m__law_asked T.F__law_asked.kp T.b__law_asked (fun σ => passAt (takes_of rfl rfl rfl rfl) σ) (pa_cons (pe_callTy (call_tupleV K rfl) (by rfl) T.z_tuple (by decide +kernel) (pa_cons (pv 3) pa_nil)) (pa_cons (pv 1) pa_nil))) (pa_cons (pe_tup (pa_cons pe_str pa_nil)) pa_nil))))))))))),
    _, run_one (run_assoc (run_setE (i := 2) (ρs := (fun (s212 : List PV) => [(.rf 0 (.lst s212)), (.fz a_q), .un, .un, .un, .un, .un])) (s0 := a_box) (ef_op o2_add (ef_pure (W := (fun c d _ H' => E c d H')) fun s2 => pu_int) (ef_callR (i := 0) (sl := (fun (s4 : List PV) => (.rf 0 (.lst s4)))) (get := (fun (s4 : List PV) => MO.lst s4)) (put := (fun (s4 : List PV) (mo : MO) => moL mo >>= fun l => Res.val l)) (fun _ => rfl) (fun _ => Or.inr ⟨_, rfl⟩) (fun s mo s' h => by cases mo <;> first | (cases h; rfl) | cases h) (el_cons (ef_pure (W := (fun c d _ H' => E c d H')) fun s5 => pu_int) el_nil))) rfl (fun _ => rfl) fun x17 s18 => (run_assoc (run_seq (ρj := fun (s23 : PV) => [(.rf 0 (.lst s18)), (.fz a_q), (.fz s23), .un, .un, .un, .un]) (run_one (run_if (ts_cmp (Pur.vw (pu_op o2_gt (Pur.vw (pu_var rfl)) (Pur.vw (pu_var rfl))))) (wk_uns rfl) (run_set (i := 2) (pu_var rfl) rfl (wk_uns rfl) fun x24 => (run_next (s := x24) (.keep (.keep (.keep (.keep (.keep (.keep (.keep .nil))))))))) (run_skip (run_next (s := x17) (.keep (.keep (.keep (.keep (.keep (.keep (.keep .nil))))))))))) fun s23 => (run_assoc (run_setoEl (i := 3) (ρs := (fun (s211 : List PV) => [(.rf 0 (.lst s211)), (.fz a_q), (.fz s23), .un, .un, .un, .un])) (s0 := s18) (ef_lcN (ρe := fun (a43 : PV) (s44 : List PV) => [(.rf 0 (.lst s44)), (.fz a_q), (.fz s23), .un, (.fz a43), .un, .un]) (ei_seq (ef_callR (i := 0) (sl := (fun (s28 : List PV) => (.rf 0 (.lst s28)))) (get := (fun (s28 : List PV) => MO.lst s28)) (put := (fun (s28 : List PV) (mo : MO) => moL mo >>= fun l => Res.val l)) (fun _ => rfl) (fun _ => Or.inr ⟨_, rfl⟩) (fun s mo s' h => by cases mo <;> first | (cases h; rfl) | cases h) (el_cons (ef_pure (W := (fun c d _ H' => E c d H')) fun s29 => (pu_var rfl)) (el_cons (ef_pure (W := (fun c d _ H' => E c d H')) fun s31 => (pu_var rfl)) el_nil)))) (fun _ => rfl) (by decide) (fun _ => (tg_name (i := 4) rfl (Or.inr (by decide)))) (fun _ _ => rfl) (fun _ _ => rfl) (fun a43 => et_yes) (fun a43 => (ef_tup (el_cons (ef_pure (W := (fun _ _ _ _ => False)) fun s47 => (pu_var rfl)) (el_cons (ef_callR (i := 0) (sl := (fun (s49 : List PV) => (.rf 0 (.lst s49)))) (get := (fun (s49 : List PV) => MO.lst s49)) (put := (fun (s49 : List PV) (mo : MO) => moL mo >>= fun l => Res.val l)) (fun _ => rfl) (fun _ => Or.inr ⟨_, rfl⟩) (fun s mo s' h => by cases mo <;> first | (cases h; rfl) | cases h) (el_cons (ef_pure (W := (fun _ _ _ _ => False)) fun s50 => (pu_var rfl)) el_nil)) el_nil))))) rfl (fun _ => rfl) fun d71 s72 => (run_assoc (run_setE (i := 5) (ρs := (fun (s210 : List PV) => [(.rf 0 (.lst s210)), (.fz a_q), (.fz s23), (.ow (.lst d71)), .un, .un, .un])) (s0 := s72) (ef_ixO (i := 3) (sl := (fun (s87 : List PV) => (.ow (.lst d71)))) (get := (fun (s88 : List PV) => d71)) (fun _ => rfl) (fun _ => Or.inl rfl) (ef_callR (i := 0) (sl := (fun (s75 : List PV) => (.rf 0 (.lst s75)))) (get := (fun (s75 : List PV) => MO.lst s75)) (put := (fun (s75 : List PV) (mo : MO) => moL mo >>= fun l => Res.val l)) (fun _ => rfl) (fun _ => Or.inr ⟨_, rfl⟩) (fun s mo s' h => by cases mo <;> first | (cases h; rfl) | cases h) (el_cons (ef_pure (W := (fun c d _ H' => E c d H')) fun s76 => (pu_var rfl)) el_nil))) rfl (fun _ => rfl) fun x89 s90 => (run_assoc (run_setE (i := 6) (ρs := (fun (s209 : List PV) => [(.rf 0 (.lst s209)), (.fz a_q), (.fz s23), (.ow (.lst d71)), .un, (.fz x89), .un])) (s0 := s90) (ef_tup (el_cons (ef_op o2_add (ef_pure (W := (fun c d _ H' => E c d H')) fun s94 => (pu_op o2_ix (Pur.vw (pu_var rfl)) (Pur.vw pu_int))) (ef_op o2_ix (ef_pure (W := (fun c d _ H' => E c d H')) fun s99 => (pu_lst (pl_cons pu_int (pl_cons (pu_var rfl) (pl_cons (pu_un o1_neg (Pur.vw (pu_var rfl))) (pl_cons (pu_op o2_mul (Pur.vw pu_int) (Pur.vw (pu_var rfl))) pl_nil)))))) (ef_callR (i := 0) (sl := (fun (s111 : List PV) => (.rf 0 (.lst s111)))) (get := (fun (s111 : List PV) => MO.lst s111)) (put := (fun (s111 : List PV) (mo : MO) => moL mo >>= fun l => Res.val l)) (fun _ => rfl) (fun _ => Or.inr ⟨_, rfl⟩) (fun s mo s' h => by cases mo <;> first | (cases h; rfl) | cases h) (el_cons (ef_pure (W := (fun c d _ H' => E c d H')) fun s112 => pu_int) el_nil)))) (el_cons (ef_op o2_ix (ef_lst (el_cons (ef_pure (W := (fun c d _ H' => E c d H')) fun s129 => (pu_op o2_ix (Pur.vw (pu_var rfl)) (Pur.vw pu_int))) (el_cons (ef_callR (i := 0) (sl := (fun (s133 : List PV) => (.rf 0 (.lst s133)))) (get := (fun (s133 : List PV) => MO.lst s133)) (put := (fun (s133 : List PV) (mo : MO) => moL mo >>= fun l => Res.val l)) (fun _ => rfl) (fun _ => Or.inr ⟨_, rfl⟩) (fun s mo s' h => by cases mo <;> first | (cases h; rfl) | cases h) (el_cons (ef_pure (W := (fun c d _ H' => E c d H')) fun s134 => (pu_var rfl)) el_nil)) el_nil))) (ef_callR (i := 0) (sl := (fun (s152 : List PV) => (.rf 0 (.lst s152)))) (get := (fun (s152 : List PV) => MO.lst s152)) (put := (fun (s152 : List PV) (mo : MO) => moL mo >>= fun l => Res.val l)) (fun _ => rfl) (fun _ => Or.inr ⟨_, rfl⟩) (fun s mo s' h => by cases mo <;> first | (cases h; rfl) | cases h) (el_cons (ef_pure (W := (fun c d _ H' => E c d H')) fun s153 => pu_int) el_nil))) el_nil))) rfl (fun _ => rfl) fun x174 s175 => (run_assoc (run_insertE (i := 3) (ρs := (fun (s208 : List PV × List PV) => [(.rf 0 (.lst s208.1)), (.fz a_q), (.fz s23), (.ow (.lst s208.2)), .un, (.fz x89), (.fz x174)])) (s0 := (s175, d71)) (sl := (fun (s199 : List PV × List PV) => (.ow (.lst s199.2)))) (get := (fun (s199 : List PV × List PV) => s199.2)) (fun _ => rfl) (fun _ => Or.inl rfl) (el_cons (ef_callR (i := 0) (sl := (fun (s177 : List PV × List PV) => (.rf 0 (.lst s177.1)))) (get := (fun (s177 : List PV × List PV) => MO.lst s177.1)) (put := (fun (s177 : List PV × List PV) (mo : MO) => moL mo >>= fun l => Res.val (l, s177.2))) (fun _ => rfl) (fun _ => Or.inr ⟨_, rfl⟩) (fun s mo s' h => by cases mo <;> first | (cases h; rfl) | cases h) (el_cons (ef_pure (W := (fun c d _ H' => E c d H')) fun s178 => (pu_op o2_add (Pur.vw (pu_var rfl)) (Pur.vw pu_int))) el_nil)) (el_cons (ef_pure (W := (fun c d _ H' => E c d H')) fun s189 => (pu_var rfl)) el_nil)) rfl fun s199 qs198 => (run_ret (pu_call2 (pu_call2 (pu_cb1 b1_tuple (vw_own rfl)) (pu_var rfl)) (pu_tup (pl_cons pu_str pl_nil))) rfl rfl (wk_uns rfl)))))))))))))), rfl⟩
def m__law_value (a_coefficients a_x a_q : PV) : Res PV := retF ((Res.val (PV.int 0)) >>= fun x1 => (seqF (S1 := PV) ((((((Res.val a_coefficients) >>= lenP) >>= partP >>= fun i2 => Res.val ((0 : Int), i2)) >>= fun x4 => rgL x4.1 x4.2 >>= fun l5 => Res.val (PV.lst l5)) >>= asSq >>= fun ps6 => Res.val ps6.reverse) >>= fun ps18 => forF (fun (x19 : PV) (s7 : PV) => (fun x => Res.val x) x19 >>= fun (a8 : PV) => ((((((Res.val s7) >>= fun x9 => (Res.val a_x) >>= fun x10 => mulP x9 x10) >>= fun x13 => ((Res.val a_coefficients) >>= fun x11 => (Res.val a8) >>= fun x12 => ixP x11 x12) >>= fun x14 => addP x13 x14) >>= intP) >>= fun x15 => (Res.val a_q) >>= fun x16 => modP x15 x16) >>= fun x17 => (Res.val (.nx x17)))) ps18 x1) fun s20 => ((Res.val s20) >>= fun v21 => Res.val (.rt v21 []))))
theorem ok__law_value (T : Top K mg) : FnOk P w K mg base (L2.CX P w) 1 T.f__law_value T.d__law_value ["coefficients", "x", "q"] (spP K (clT T) (ap3 m__law_value)) := by
  refine fnP T.F__law_value scLvalue rfl takn3 fun cdv A outer s H E hr qs hq => ?_
  match qs, hq with
  | [a_coefficients, a_x, a_q], _ => exact ⟨_, (pss_cons (ps_set (i := 3) scLvalue.nd rfl (Or.inl rfl) pe_int)
      (pss_cons (ps_for (passes_of rfl) rfl (pi_revK K rfl (by rfl) T.z_reversed (pe_listRg rfl (by rfl) T.z_list (prg_1 (by rfl) T.z_range (pe_callB (call_lenVK K rfl) (by rfl) T.z_len PySem.boot_len (pa_cons (pv 0) pa_nil))))) (pg_name (i := 4) scLvalue.nd rfl (Or.inl rfl)) (pss_one (ps_set (i := 3) scLvalue.nd rfl (Or.inl rfl) (pe_op op_modN (pe_callTy call_intV (by rfl) T.z_int (by decide +kernel) (pa_cons (pe_op (op_addV K rfl) (pe_op op_mulV (pv 3) (pv 1)) (pe_ix (ix_VK K rfl) (pv 0) (pv 4) (fun _ _ => rfl))) pa_nil)) (pv 2)))))
      (pss_one (ps_ret (pv 3))))),
    _, run_one (run_assoc (run_set (i := 3) pu_int rfl (wk_uns rfl) fun x1 => (run_assoc (run_seq (ρj := fun (s20 : PV) => [(.fz a_coefficients), (.fz a_x), (.fz a_q), (.fz s20), .un]) (run_for (ρs := fun (s7 : PV) => [(.fz a_coefficients), (.fz a_x), (.fz a_q), (.fz s7), .un]) (s0 := x1) (ρe := fun (s7 : PV) (a8 : PV) => [(.fz a_coefficients), (.fz a_x), (.fz a_q), (.fz s7), (.fz a8)]) (it_rev (New.pur' (nw_listRg (rg_1 (Pur.vw (pu_cb1 b1_len (Pur.vw (pu_var rfl)))))))) (.keep (.keep (.keep (.keep (.keep .nil))))) (wk_uns rfl) (fun s7 => (tg_name (i := 4) rfl (Or.inl rfl))) (fun a8 s7 => run_one (run_set (i := 3) (pu_op o2_mod (Pur.vw (pu_cb1 b1_int (Pur.vw (pu_op o2_add (Pur.vw (pu_op o2_mul (Pur.vw (pu_var rfl)) (Pur.vw (pu_var rfl)))) (Pur.vw (pu_op o2_ix (Pur.vw (pu_var rfl)) (Pur.vw (pu_var rfl)))))))) (Pur.vw (pu_var rfl))) rfl (wk_uns rfl) fun x17 => (run_next (s := x17) (.keep (.keep (.keep (.keep (.drop .nil))))))))) fun s20 => (run_ret (pu_var rfl) rfl rfl (wk_uns rfl)))))), rfl⟩
def m__law_meets (mo : MO) (a_q : PV) : Res (PV × MO) := match mo with
  | .lst a_box => retR (noX ((fun (s1 : List PV) => (fun (s25 : List PV) => (fun (s2 : List PV) => (fun (s3 : List PV) => noX (((Res.val (PV.int 4)) >>= fun x8 => ((Res.val (PV.int 9)) >>= fun x6 => ((Res.val (PV.int 31)) >>= fun x4 => (Res.val []) >>= fun xs5 => Res.val (x4 :: xs5)) >>= fun xs7 => Res.val (x6 :: xs7)) >>= fun xs9 => Res.val (x8 :: xs9)) >>= mkL) >>= fun v10 => Res.val (v10, s3)) s2 >>= fun x21 => (fun (s11 : List PV) => (fun (s15 : List PV) => (fun (s12 : List PV) => noX (Res.val (PV.int 3)) >>= fun v13 => Res.val (v13, s12)) s15 >>= fun x16 => (fun (s14 : List PV) => Res.val (([] : List PV), s14)) x16.2 >>= fun xs17 => Res.val (x16.1 :: xs17.1, xs17.2)) s11 >>= fun x18 => (apR1 m__law_draw) (MO.lst x18.2) x18.1 >>= fun r19 => ((fun (s11 : List PV) (mo : MO) => moL mo >>= fun l => Res.val l) x18.2 r19.2) >>= fun s20 => Res.val (r19.1, s20)) x21.2 >>= fun x22 => noX (ixP x21.1 x22.1) >>= fun z23 => Res.val (z23, x22.2)) s25 >>= fun x26 => (fun (s24 : List PV) => Res.val (([] : List PV), s24)) x26.2 >>= fun xs27 => Res.val (x26.1 :: xs27.1, xs27.2)) s1 >>= fun x28 => (apR1 m__law_draw) (MO.lst x28.2) x28.1 >>= fun r29 => ((fun (s1 : List PV) (mo : MO) => moL mo >>= fun l => Res.val l) x28.2 r29.2) >>= fun s30 => Res.val (r29.1, s30)) a_box) >>= fun r33 => (fun (x31 : PV) (s32 : List PV) => (seqF (S1 := PV) ((((Res.val x31) >>= fun x34 => (Res.val a_q) >>= fun x35 => gtP x34 x35) >>= asB) >>= fun b36 => if b36 = true then ((Res.val a_q) >>= fun x38 => (Res.val (.nx x38))) else (Res.val (.nx x31))) fun s37 => (noX ((fun (s39 : List PV) => (fun (s59 : List PV) => (fun (s41 : List PV) => noX ((Res.val s37) >>= rng1) >>= fun z43 => Res.val (z43, s41)) s59 >>= fun ps57 => sized ps57.1.length >>= fun _ => lcE (fun x => Res.val x) (fun (a44 : PV) => (fun (s46 : List PV) => Res.val (true, s46))) (fun (a44 : PV) => (fun (s47 : List PV) => (fun (s51 : List PV) => (fun (s48 : List PV) => noX (Res.val a_q) >>= fun v49 => Res.val (v49, s48)) s51 >>= fun x52 => (fun (s50 : List PV) => Res.val (([] : List PV), s50)) x52.2 >>= fun xs53 => Res.val (x52.1 :: xs53.1, xs53.2)) s47 >>= fun x54 => (apR1 m__law_draw) (MO.lst x54.2) x54.1 >>= fun r55 => ((fun (s47 : List PV) (mo : MO) => moL mo >>= fun l => Res.val l) x54.2 r55.2) >>= fun s56 => Res.val (r55.1, s56))) ps57.1 ps57.2 >>= fun r58 => Res.val (PV.lst r58.1, r58.2)) s39 >>= fun x60 => noX (tupleP x60.1) >>= fun z61 => Res.val (z61, x60.2)) s32) >>= fun r64 => (fun (x62 : PV) (s63 : List PV) => (noX ((fun (s65 : List PV) => (fun (s99 : List PV) => (fun (s67 : List PV) => (fun (s70 : List PV) => (fun (s79 : List PV) => (fun (s71 : List PV) => noX (Res.val a_q) >>= fun v72 => Res.val (v72, s71)) s79 >>= fun x80 => (fun (s76 : List PV) => (fun (s73 : List PV) => noX (Res.val s37) >>= fun v74 => Res.val (v74, s73)) s76 >>= fun x77 => (fun (s75 : List PV) => Res.val (([] : List PV), s75)) x77.2 >>= fun xs78 => Res.val (x77.1 :: xs78.1, xs78.2)) x80.2 >>= fun xs81 => Res.val (x80.1 :: xs81.1, xs81.2)) s70 >>= fun x82 => (apR2 m__law_places) (MO.lst x82.2) x82.1 >>= fun r83 => ((fun (s70 : List PV) (mo : MO) => moL mo >>= fun l => Res.val l) x82.2 r83.2) >>= fun s84 => Res.val (r83.1, s84)) s67 >>= fun x68 => asSq x68.1 >>= fun z69 => Res.val (z69, x68.2)) s99 >>= fun ps97 => sized ps97.1.length >>= fun _ => lcE (fun x => Res.val x) (fun (a85 : PV) => (fun (s87 : List PV) => Res.val (true, s87))) (fun (a85 : PV) => (fun (s88 : List PV) => noX (((Res.val a85) >>= fun x94 => (((Res.val x62) >>= fun x89 => (Res.val a85) >>= fun x90 => (Res.val a_q) >>= fun x91 => m__law_value x89 x90 x91) >>= fun x92 => (Res.val []) >>= fun xs93 => Res.val (x92 :: xs93)) >>= fun xs95 => Res.val (x94 :: xs95)) >>= mkT) >>= fun v96 => Res.val (v96, s88))) ps97.1 ps97.2 >>= fun r98 => Res.val (PV.lst r98.1, r98.2)) s65 >>= fun x100 => noX (tupleP x100.1) >>= fun z101 => Res.val (z101, x100.2)) s63) >>= fun r104 => (fun (x102 : PV) (s103 : List PV) => ((((((Res.val x102) >>= fun x105 => (Res.val a_q) >>= fun x106 => m__law_asked x105 x106) >>= fun x111 => (((Res.val (PV.str "told")) >>= fun x109 => ((Res.val x62) >>= fun x107 => (Res.val []) >>= fun xs108 => Res.val (x107 :: xs108)) >>= fun xs110 => Res.val (x109 :: xs110)) >>= mkT) >>= fun x112 => (m__law_alike 5) x111 x112) >>= asB) >>= fun b113 => Res.val (!b113)) >>= fun b114 => if b114 = true then ((Res.val (PV.bl false)) >>= fun v115 => Res.val (.rt v115 [.lst s103])) else (noX ((fun (s116 : List PV) => (fun (s138 : List PV) => (fun (s117 : List PV) => noX (Res.val (PV.int 0)) >>= fun v118 => Res.val (v118, s117)) s138 >>= fun x139 => (fun (s135 : List PV) => (fun (s119 : List PV) => noX (Res.val (PV.int 1)) >>= fun v120 => Res.val (v120, s119)) s135 >>= fun x136 => (fun (s132 : List PV) => (fun (s121 : List PV) => noX ((Res.val (PV.int 1)) >>= negP) >>= fun v122 => Res.val (v122, s121)) s132 >>= fun x133 => (fun (s129 : List PV) => (fun (s123 : List PV) => (fun (s124 : List PV) => Res.val (([] : List PV), s124)) s123 >>= fun x125 => (apR0 m__law_great) (MO.lst x125.2) x125.1 >>= fun r126 => ((fun (s123 : List PV) (mo : MO) => moL mo >>= fun l => Res.val l) x125.2 r126.2) >>= fun s127 => Res.val (r126.1, s127)) s129 >>= fun x130 => (fun (s128 : List PV) => Res.val (([] : List PV), s128)) x130.2 >>= fun xs131 => Res.val (x130.1 :: xs131.1, xs131.2)) x133.2 >>= fun xs134 => Res.val (x133.1 :: xs134.1, xs134.2)) x136.2 >>= fun xs137 => Res.val (x136.1 :: xs137.1, xs137.2)) x139.2 >>= fun xs140 => Res.val (x139.1 :: xs140.1, xs140.2)) s116 >>= fun x141 => mkL x141.1 >>= fun z142 => Res.val (z142, x141.2)) s103) >>= fun r145 => (fun (x143 : PV) (s144 : List PV) => (noX ((fun (s200 : List PV) => (fun (s147 : List PV) => noX (((Res.val x102) >>= listP) >>= asSq >>= fun ps150 => Res.val ps150.reverse) >>= fun z149 => Res.val (z149, s147)) s200 >>= fun ps198 => sized ps198.1.length >>= fun _ => lcE (fun x => Res.val x) (fun (a151 : PV) => (fun (s153 : List PV) => Res.val (true, s153))) (fun (a151 : PV) => (fun (s154 : List PV) => (fun (s193 : List PV) => (fun (s155 : List PV) => noX ((Res.val a151) >>= fun x156 => (Res.val (PV.int 0)) >>= fun x157 => ixP x156 x157) >>= fun v158 => Res.val (v158, s155)) s193 >>= fun x194 => (fun (s190 : List PV) => (fun (s159 : List PV) => (fun (s160 : List PV) => noX ((Res.val a151) >>= fun x161 => (Res.val (PV.int 1)) >>= fun x162 => ixP x161 x162) >>= fun v163 => Res.val (v163, s160)) s159 >>= fun x186 => (fun (s164 : List PV) => (fun (s165 : List PV) => noX (Res.val a_q) >>= fun v166 => Res.val (v166, s165)) s164 >>= fun x183 => (fun (s167 : List PV) => (fun (s168 : List PV) => noX (Res.val x143) >>= fun v169 => Res.val (v169, s168)) s167 >>= fun x180 => (fun (s170 : List PV) => (fun (s174 : List PV) => (fun (s171 : List PV) => noX (Res.val (PV.int 4)) >>= fun v172 => Res.val (v172, s171)) s174 >>= fun x175 => (fun (s173 : List PV) => Res.val (([] : List PV), s173)) x175.2 >>= fun xs176 => Res.val (x175.1 :: xs176.1, xs176.2)) s170 >>= fun x177 => (apR1 m__law_draw) (MO.lst x177.2) x177.1 >>= fun r178 => ((fun (s170 : List PV) (mo : MO) => moL mo >>= fun l => Res.val l) x177.2 r178.2) >>= fun s179 => Res.val (r178.1, s179)) x180.2 >>= fun x181 => noX (ixP x180.1 x181.1) >>= fun z182 => Res.val (z182, x181.2)) x183.2 >>= fun x184 => noX (mulP x183.1 x184.1) >>= fun z185 => Res.val (z185, x184.2)) x186.2 >>= fun x187 => noX (addP x186.1 x187.1) >>= fun z188 => Res.val (z188, x187.2)) s190 >>= fun x191 => (fun (s189 : List PV) => Res.val (([] : List PV), s189)) x191.2 >>= fun xs192 => Res.val (x191.1 :: xs192.1, xs192.2)) x194.2 >>= fun xs195 => Res.val (x194.1 :: xs195.1, xs195.2)) s154 >>= fun x196 => mkT x196.1 >>= fun z197 => Res.val (z197, x196.2))) ps198.1 ps198.2 >>= fun r199 => Res.val (PV.lst r199.1, r199.2)) s144) >>= fun r203 => (fun (x201 : PV) (s202 : List PV) => ((((((Res.val []) >>= fun ps208 => ((Res.val a_q) >>= fun x206 => (((Res.val x201) >>= tupleP) >>= fun x204 => (Res.val []) >>= fun xs205 => Res.val (x204 :: xs205)) >>= fun xs207 => Res.val (x206 :: xs207)) >>= fun qs209 => ap2 m_interpolate (g_interpolate_0_q_points ps208 qs209)) >>= fun x210 => (Res.val x62) >>= fun x211 => (m__law_alike 5) x210 x211) >>= asB) >>= fun b212 => Res.val (!b212)) >>= fun b213 => if b213 = true then ((Res.val (PV.bl false)) >>= fun v214 => Res.val (.rt v214 [.lst s202])) else (seqF (S1 := List PV) (noX ((fun (s215 : List PV) => (fun (s218 : List PV) => (fun (s258 : List PV) => (fun (s219 : List PV) => noX (Res.val (PV.int 0)) >>= fun v220 => Res.val (v220, s219)) s258 >>= fun x259 => (fun (s255 : List PV) => (fun (s221 : List PV) => noX (Res.val (PV.int 1)) >>= fun v222 => Res.val (v222, s221)) s255 >>= fun x256 => (fun (s252 : List PV) => (fun (s223 : List PV) => noX ((Res.val (PV.int 1)) >>= negP) >>= fun v224 => Res.val (v224, s223)) s252 >>= fun x253 => (fun (s249 : List PV) => (fun (s225 : List PV) => noX (Res.val a_q) >>= fun v226 => Res.val (v226, s225)) s249 >>= fun x250 => (fun (s246 : List PV) => (fun (s227 : List PV) => (fun (s228 : List PV) => Res.val (([] : List PV), s228)) s227 >>= fun x229 => (apR0 m__law_great) (MO.lst x229.2) x229.1 >>= fun r230 => ((fun (s227 : List PV) (mo : MO) => moL mo >>= fun l => Res.val l) x229.2 r230.2) >>= fun s231 => Res.val (r230.1, s231)) s246 >>= fun x247 => (fun (s243 : List PV) => (fun (s232 : List PV) => (fun (s236 : List PV) => (fun (s233 : List PV) => noX (Res.val a_q) >>= fun v234 => Res.val (v234, s233)) s236 >>= fun x237 => (fun (s235 : List PV) => Res.val (([] : List PV), s235)) x237.2 >>= fun xs238 => Res.val (x237.1 :: xs238.1, xs238.2)) s232 >>= fun x239 => (apR1 m__law_draw) (MO.lst x239.2) x239.1 >>= fun r240 => ((fun (s232 : List PV) (mo : MO) => moL mo >>= fun l => Res.val l) x239.2 r240.2) >>= fun s241 => Res.val (r240.1, s241)) s243 >>= fun x244 => (fun (s242 : List PV) => Res.val (([] : List PV), s242)) x244.2 >>= fun xs245 => Res.val (x244.1 :: xs245.1, xs245.2)) x247.2 >>= fun xs248 => Res.val (x247.1 :: xs248.1, xs248.2)) x250.2 >>= fun xs251 => Res.val (x250.1 :: xs251.1, xs251.2)) x253.2 >>= fun xs254 => Res.val (x253.1 :: xs254.1, xs254.2)) x256.2 >>= fun xs257 => Res.val (x256.1 :: xs257.1, xs257.2)) x259.2 >>= fun xs260 => Res.val (x259.1 :: xs260.1, xs260.2)) s218 >>= fun x261 => mkL x261.1 >>= fun z262 => Res.val (z262, x261.2)) s215 >>= fun x216 => asSq x216.1 >>= fun z217 => Res.val (z217, x216.2)) s202) >>= fun r356 => forF (fun (x355 : PV) (s264 : List PV) => (fun x => Res.val x) x355 >>= fun (a265 : PV) => (((Res.val x62) >>= fun x266 => (Res.val a265) >>= fun x267 => (Res.val a_q) >>= fun x268 => m__law_value x266 x267 x268) >>= fun x269 => ((((((Res.val x62) >>= fun x270 => (Res.val a265) >>= fun x271 => (Res.val a_q) >>= fun x272 => m_value_at x270 x271 x272) >>= fun x273 => (Res.val x269) >>= fun x274 => (m__law_alike 5) x273 x274) >>= asB) >>= fun b275 => Res.val (!b275)) >>= fun b276 => if b276 = true then ((Res.val (PV.bl false)) >>= fun v277 => Res.val (.rt v277 [.lst s264])) else ((((((Res.val []) >>= fun ps292 => ((Res.val a265) >>= fun x286 => ((Res.val a_q) >>= fun x284 => (((Res.val x62) >>= fun x280 => (((Res.val (PV.int 0)) >>= fun x278 => (Res.val []) >>= fun xs279 => Res.val (x278 :: xs279)) >>= mkT) >>= fun x281 => addP x280 x281) >>= fun x282 => (Res.val []) >>= fun xs283 => Res.val (x282 :: xs283)) >>= fun xs285 => Res.val (x284 :: xs285)) >>= fun xs287 => Res.val (x286 :: xs287)) >>= fun qs293 => ap3 m_value_at (g_value_at_0_x_q_coefficients ps292 qs293)) >>= fun x294 => (Res.val x269) >>= fun x295 => (m__law_alike 5) x294 x295) >>= asB) >>= fun b296 => Res.val (!b296)) >>= fun b297 => if b297 = true then ((Res.val (PV.bl false)) >>= fun v298 => Res.val (.rt v298 [.lst s264])) else (noX ((fun (s299 : List PV) => (fun (s339 : List PV) => (fun (s301 : List PV) => noX ((Res.val x62) >>= asSq) >>= fun z303 => Res.val (z303, s301)) s339 >>= fun ps337 => sized ps337.1.length >>= fun _ => lcE (fun x => Res.val x) (fun (a304 : PV) => (fun (s306 : List PV) => Res.val (true, s306))) (fun (a304 : PV) => (fun (s307 : List PV) => (fun (s308 : List PV) => (fun (s309 : List PV) => noX (Res.val a304) >>= fun v310 => Res.val (v310, s309)) s308 >>= fun x327 => (fun (s311 : List PV) => (fun (s312 : List PV) => noX (Res.val a_q) >>= fun v313 => Res.val (v313, s312)) s311 >>= fun x324 => (fun (s314 : List PV) => (fun (s318 : List PV) => (fun (s315 : List PV) => noX (Res.val (PV.int 5)) >>= fun v316 => Res.val (v316, s315)) s318 >>= fun x319 => (fun (s317 : List PV) => Res.val (([] : List PV), s317)) x319.2 >>= fun xs320 => Res.val (x319.1 :: xs320.1, xs320.2)) s314 >>= fun x321 => (apR1 m__law_draw) (MO.lst x321.2) x321.1 >>= fun r322 => ((fun (s314 : List PV) (mo : MO) => moL mo >>= fun l => Res.val l) x321.2 r322.2) >>= fun s323 => Res.val (r322.1, s323)) x324.2 >>= fun x325 => noX (mulP x324.1 x325.1) >>= fun z326 => Res.val (z326, x325.2)) x327.2 >>= fun x328 => noX (addP x327.1 x328.1) >>= fun z329 => Res.val (z329, x328.2)) s307 >>= fun x334 => (fun (s330 : List PV) => noX ((Res.val (PV.int 2)) >>= fun x331 => (Res.val a_q) >>= fun x332 => mulP x331 x332) >>= fun v333 => Res.val (v333, s330)) x334.2 >>= fun x335 => noX (subP x334.1 x335.1) >>= fun z336 => Res.val (z336, x335.2))) ps337.1 ps337.2 >>= fun r338 => Res.val (PV.lst r338.1, r338.2)) s299 >>= fun x340 => noX (tupleP x340.1) >>= fun z341 => Res.val (z341, x340.2)) s264) >>= fun r344 => (fun (x342 : PV) (s343 : List PV) => ((((((Res.val x342) >>= fun x345 => (Res.val a265) >>= fun x346 => (Res.val a_q) >>= fun x347 => m_value_at x345 x346 x347) >>= fun x348 => (Res.val x269) >>= fun x349 => (m__law_alike 5) x348 x349) >>= asB) >>= fun b350 => Res.val (!b350)) >>= fun b351 => if b351 = true then ((Res.val (PV.bl false)) >>= fun v352 => Res.val (.rt v352 [.lst s343])) else (Res.val (.nx s343)))) r344.1 r344.2))))) r356.1 ((fun (s263 : List PV) => s263) r356.2)) fun s358 => ((((Res.val s37) >>= fun x359 => (Res.val (PV.int 0)) >>= fun x360 => gtP x359 x360) >>= asB) >>= fun b361 => if b361 = true then (noX ((fun (s362 : List PV) => (fun (s366 : List PV) => (fun (s363 : List PV) => noX (Res.val s37) >>= fun v364 => Res.val (v364, s363)) s366 >>= fun x367 => (fun (s365 : List PV) => Res.val (([] : List PV), s365)) x367.2 >>= fun xs368 => Res.val (x367.1 :: xs368.1, xs368.2)) s362 >>= fun x369 => (apR1 m__law_draw) (MO.lst x369.2) x369.1 >>= fun r370 => ((fun (s362 : List PV) (mo : MO) => moL mo >>= fun l => Res.val l) x369.2 r370.2) >>= fun s371 => Res.val (r370.1, s371)) s358) >>= fun r374 => (fun (x372 : PV) (s373 : List PV) => (noX ((fun (s375 : List PV) => (fun (s376 : List PV) => (fun (s377 : List PV) => (fun (s378 : List PV) => noX ((((Res.val x102) >>= fun x379 => (Res.val x372) >>= fun x380 => ixP x379 x380) >>= fun x381 => (Res.val (PV.int 1)) >>= fun x382 => ixP x381 x382) >>= fun x383 => (Res.val (PV.int 1)) >>= fun x384 => addP x383 x384) >>= fun v385 => Res.val (v385, s378)) s377 >>= fun x398 => (fun (s386 : List PV) => (fun (s392 : List PV) => (fun (s387 : List PV) => noX ((Res.val a_q) >>= fun x388 => (Res.val (PV.int 1)) >>= fun x389 => subP x388 x389) >>= fun v390 => Res.val (v390, s387)) s392 >>= fun x393 => (fun (s391 : List PV) => Res.val (([] : List PV), s391)) x393.2 >>= fun xs394 => Res.val (x393.1 :: xs394.1, xs394.2)) s386 >>= fun x395 => (apR1 m__law_draw) (MO.lst x395.2) x395.1 >>= fun r396 => ((fun (s386 : List PV) (mo : MO) => moL mo >>= fun l => Res.val l) x395.2 r396.2) >>= fun s397 => Res.val (r396.1, s397)) x398.2 >>= fun x399 => noX (addP x398.1 x399.1) >>= fun z400 => Res.val (z400, x399.2)) s376 >>= fun x401 => noX (intP x401.1) >>= fun z402 => Res.val (z402, x401.2)) s375 >>= fun x405 => (fun (s403 : List PV) => noX (Res.val a_q) >>= fun v404 => Res.val (v404, s403)) x405.2 >>= fun x406 => noX (modP x405.1 x406.1) >>= fun z407 => Res.val (z407, x406.2)) s373) >>= fun r410 => (fun (x408 : PV) (s409 : List PV) => (((((Res.val x102) >>= fun x412 => (Res.val none) >>= fun lo413 => ((Res.val x372) >>= partP >>= fun i411 => Res.val (some i411)) >>= fun hi414 => slP x412 lo413 hi414) >>= fun x425 => (((((((Res.val x102) >>= fun x417 => (Res.val x372) >>= fun x418 => ixP x417 x418) >>= fun x419 => (Res.val (PV.int 0)) >>= fun x420 => ixP x419 x420) >>= fun x421 => ((Res.val x408) >>= fun x415 => (Res.val []) >>= fun xs416 => Res.val (x415 :: xs416)) >>= fun xs422 => Res.val (x421 :: xs422)) >>= mkT) >>= fun x423 => (Res.val []) >>= fun xs424 => Res.val (x423 :: xs424)) >>= mkT) >>= fun x426 => addP x425 x426) >>= fun x433 => ((Res.val x102) >>= fun x430 => (((Res.val x372) >>= fun x427 => (Res.val (PV.int 1)) >>= fun x428 => addP x427 x428) >>= partP >>= fun i429 => Res.val (some i429)) >>= fun lo431 => (Res.val none) >>= fun hi432 => slP x430 lo431 hi432) >>= fun x434 => addP x433 x434) >>= fun x435 => (((Res.val x435) >>= fun x436 => (Res.val a_q) >>= fun x437 => m_interpolate x436 x437) >>= fun x438 => ((((((Res.val x438) >>= fun x444 => (Res.val (PV.ty "tuple")) >>= fun x445 => isiP x444 x445) >>= asB) >>= fun b446 => Res.val (!b446)) >>= fun b447 => if b447 = true then Res.val true else (((((Res.val x438) >>= lenP) >>= fun x441 => (Res.val s37) >>= fun x442 => neP x441 x442) >>= asB) >>= fun b443 => if b443 = true then Res.val true else (((Res.val x438) >>= fun x439 => (Res.val x62) >>= fun x440 => (m__law_alike 5) x439 x440) >>= asB))) >>= fun b448 => if b448 = true then ((Res.val (PV.bl false)) >>= fun v449 => Res.val (.rt v449 [.lst s409])) else (seqF (S1 := Unit) (((Res.val x438) >>= asSq) >>= fun ps466 => forF (fun (x467 : PV) (s450 : Unit) => (fun x => Res.val x) x467 >>= fun (a451 : PV) => ((((((Res.val a451) >>= fun x460 => (Res.val (PV.ty "int")) >>= fun x461 => isiP x460 x461) >>= asB) >>= fun b462 => Res.val (!b462)) >>= fun b463 => if b463 = true then Res.val true else ((((Res.val a451) >>= fun x457 => (Res.val (PV.ty "bool")) >>= fun x458 => isiP x457 x458) >>= asB) >>= fun b459 => if b459 = true then Res.val true else (((((Res.val a451) >>= intP) >>= fun x454 => (Res.val (PV.int 0)) >>= fun x455 => ltP x454 x455) >>= asB) >>= fun b456 => if b456 = true then Res.val true else ((((Res.val a451) >>= intP) >>= fun x452 => (Res.val a_q) >>= fun x453 => geP x452 x453) >>= asB)))) >>= fun b464 => if b464 = true then ((Res.val (PV.bl false)) >>= fun v465 => Res.val (.rt v465 [.lst s409])) else (Res.val (.nx ())))) ps466 ()) fun s468 => ((((((Res.val x435) >>= asSq) >>= fun ps479 => sized ps479.length >>= fun _ => lcF (fun x => Res.val x) (fun (a469 : PV) => (Res.val true)) (fun (a469 : PV) => (((Res.val x438) >>= fun x472 => ((Res.val a469) >>= fun x470 => (Res.val (PV.int 0)) >>= fun x471 => ixP x470 x471) >>= fun x473 => (Res.val a_q) >>= fun x474 => m__law_value x472 x473 x474) >>= fun x477 => ((Res.val a469) >>= fun x475 => (Res.val (PV.int 1)) >>= fun x476 => ixP x475 x476) >>= fun x478 => eqP x477 x478)) ps479) >>= fun ps480 => Res.val (PV.lst ps480)) >>= allP) >>= fun v481 => Res.val (.rt v481 [.lst s409]))))))) r410.1 r410.2)) r374.1 r374.2) else ((Res.val (PV.bl true)) >>= fun v484 => Res.val (.rt v484 [.lst s358])))))) r203.1 r203.2)) r145.1 r145.2))) r104.1 r104.2)) r64.1 r64.2))) r33.1 r33.2)
  | _ => .stuck
theorem ok__law_meets (T : Top K mg) : FnOk P w K mg base (L2.CX P w) 7 T.f__law_meets T.d__law_meets ["box", "q"] (spR K (clT T) (apR1 m__law_meets)) := by
  have G__law_draw := ok__law_draw (P := P) (w := w) (base := base) T
  have G__law_alike := ok__law_alike (P := P) (w := w) (base := base) T 5
  have G__law_great := ok__law_great (P := P) (w := w) (base := base) T
  have G__law_value := ok__law_value (P := P) (w := w) (base := base) T
  have G_interpolate := ok_interpolate (P := P) (w := w) (base := base) T
  have G__law_asked := ok__law_asked (P := P) (w := w) (base := base) T
  have G__law_places := ok__law_places (P := P) (w := w) (base := base) T
  have G_value_at := ok_value_at (P := P) (w := w) (base := base) T
  refine fnR T.F__law_meets scLmeets rfl taknR1 fun cdv A outer s H E hr mo qs hq => ?_
  match mo, qs, hq with
  | .dct _, [_], _ => exact .inl rfl
  | .ob _ _, [_], _ => exact .inl rfl
  | .lst a_box, [a_q], _ => exact .inr ⟨_, (pss_cons (ps_set (i := 2) scLmeets.nd rfl (Or.inl rfl) (pe_callS G__law_draw (hr.mono (by decide)) (by rfl) T.m__law_draw T.F__law_draw.kp T.b__law_draw (fun σ => passAt (takes_of rfl rfl rfl rfl) σ) (pa_cons (pv 0) (pa_cons (pe_ix (ix_VK K rfl) (pe_lst (pa_cons pe_int (pa_cons pe_int (pa_cons pe_int pa_nil)))) (pe_callS G__law_draw (hr.mono (by decide)) (by rfl) T.m__law_draw T.F__law_draw.kp T.b__law_draw (fun σ => passAt (takes_of rfl rfl rfl rfl) σ) (pa_cons (pv 0) (pa_cons pe_int pa_nil))) (fun _ _ => rfl)) pa_nil))))
      (pss_cons (ps_if (pt_cmpR op_gt (pv 2) (pv 1) (nomark _)) (pss_one (ps_set (i := 2) scLmeets.nd rfl (Or.inl rfl) (pv 1))) pss_nil)
      (pss_cons (ps_set (i := 3) scLmeets.nd rfl (Or.inr rfl) (pe_callTy (call_tupleV K rfl) (by rfl) T.z_tuple (by decide +kernel) (pa_cons (pe_lc (own := [("k", 4)]) (g := gName 4) (tt := tYes) rfl scLmeets.nd (pi_range1 (by rfl) T.z_range (pa_cons (pv 2) pa_nil)) (blkOk_by (own := [("k", 4)]) (N := ["box", "q", "many", "coefficients", "k", "points", "x", "more", "wide", "point", "due", "wider", "part", "at", "value", "told"]) (sc := defScope s_Lmeets) (by decide +kernel)) (fun _ _ _ _ _ => (pg_name (i := 4) scLmeets.nd rfl (Or.inl rfl))) (fun _ _ _ _ _ => pts_nil) (fun _ _ _ _ _ => (pe_callS G__law_draw (hr.mono (by decide)) (by rfl) T.m__law_draw T.F__law_draw.kp T.b__law_draw (fun σ => passAt takes0 σ) (pa_cons (pv 0) (pa_cons (pv 1) pa_nil))))) pa_nil)))
      (pss_cons (ps_set (i := 5) scLmeets.nd rfl (Or.inl rfl) (pe_callTy (call_tupleV K rfl) (by rfl) T.z_tuple (by decide +kernel) (pa_cons (pe_lc (own := [("x", 6)]) (g := gName 6) (tt := tYes) rfl scLmeets.nd (pi_seqV K rfl (pe_callS G__law_places (hr.mono (by decide)) (by rfl) T.m__law_places T.F__law_places.kp T.b__law_places (fun σ => passAt (takes_of rfl rfl rfl rfl) σ) (pa_cons (pv 0) (pa_cons (pv 1) (pa_cons (pv 2) pa_nil))))) (blkOk_by (own := [("x", 6)]) (N := ["box", "q", "many", "coefficients", "k", "points", "x", "more", "wide", "point", "due", "wider", "part", "at", "value", "told"]) (sc := defScope s_Lmeets) (by decide +kernel)) (fun _ _ _ _ _ => (pg_name (i := 6) scLmeets.nd rfl (Or.inl rfl))) (fun _ _ _ _ _ => pts_nil) (fun _ _ _ _ _ => (pe_tup (pa_cons (pv 6) (pa_cons (pe_callS G__law_value (hr.mono (by decide)) (by rfl) T.m__law_value T.F__law_value.kp T.b__law_value (fun σ => passAt takes0 σ) (pa_cons (pv 3) (pa_cons (pv 6) (pa_cons (pv 1) pa_nil)))) pa_nil))))) pa_nil)))
      (pss_cons (ps_if (pt_not (pt_val (pe_callS G__law_alike (hr.mono (by decide)) (by rfl) T.m__law_alike T.F__law_alike.kp T.b__law_alike (fun σ => passAt (takes_of rfl rfl rfl rfl) σ) (pa_cons (pe_callS G__law_asked (hr.mono (by decide)) (by rfl) T.m__law_asked T.F__law_asked.kp T.b__law_asked (fun σ => passAt (takes_of rfl rfl rfl rfl) σ) (pa_cons (pv 5) (pa_cons (pv 1) pa_nil))) (pa_cons (pe_tup (pa_cons pe_str (pa_cons (pv 3) pa_nil))) pa_nil))))) (pss_one (ps_ret pe_bl)) pss_nil)
      (pss_cons (ps_set (i := 7) scLmeets.nd rfl (Or.inr rfl) (pe_lst (pa_cons pe_int (pa_cons pe_int (pa_cons (pe_un un_neg pe_int) (pa_cons (pe_callS G__law_great (hr.mono (by decide)) (by rfl) T.m__law_great T.F__law_great.kp T.b__law_great (fun σ => passAt (takes_of rfl rfl rfl rfl) σ) (pa_cons (pv 0) pa_nil)) pa_nil))))))
      (pss_cons (ps_setLc (i := 8) (own := [("point", 9)]) (g := gName 9) (tt := tYes) rfl scLmeets.nd rfl rfl (sw_true rfl rfl rfl (by decide +kernel)) (pi_revK K rfl (by rfl) T.z_reversed (pe_callTy (call_listV K rfl) (by rfl) T.z_list (by decide +kernel) (pa_cons (pv 5) pa_nil))) (blkOk_by (own := [("point", 9)]) (N := ["box", "q", "many", "coefficients", "k", "points", "x", "more", "wide", "point", "due", "wider", "part", "at", "value", "told"]) (sc := defScope s_Lmeets) (by decide +kernel)) (fun _ _ _ _ _ => (pg_name (i := 9) scLmeets.nd rfl (Or.inl rfl))) (fun _ _ _ _ _ => pts_nil) (fun _ _ _ _ _ => (pe_tup (pa_cons (pe_ix (ix_VK K rfl) (pv 9) pe_int (fun _ _ => rfl)) (pa_cons (pe_op (op_addV K rfl) (pe_ix (ix_VK K rfl) (pv 9) pe_int (fun _ _ => rfl)) (pe_op op_mulV (pv 1) (pe_ix (ix_VK K rfl) (pv 7) (pe_callS G__law_draw (hr.mono (by decide)) (by rfl) T.m__law_draw T.F__law_draw.kp T.b__law_draw (fun σ => passAt takes0 σ) (pa_cons (pv 0) (pa_cons pe_int pa_nil))) (fun _ _ => rfl)))) pa_nil)))))
      (pss_cons (ps_if (pt_not (pt_val (pe_callS G__law_alike (hr.mono (by decide)) (by rfl) T.m__law_alike T.F__law_alike.kp T.b__law_alike (fun σ => passAt (takes_of rfl rfl rfl rfl) σ) (pa_cons (pe_callKS0 G_interpolate (hr.mono (by decide)) rfl T.m_interpolate T.F_interpolate.kp T.k_interpolate_0_q_points (fun σ => passAt (takes_of rfl rfl rfl rfl) σ) (pk_cons (pv 1) (pk_cons (pe_callTy (call_tupleV K rfl) (by rfl) T.z_tuple (by decide +kernel) (pa_cons (pv 8) pa_nil)) pk_nil))) (pa_cons (pv 3) pa_nil))))) (pss_one (ps_ret pe_bl)) pss_nil)
      (pss_cons (ps_for (passes_of rfl) rfl (pi_seqV K rfl (pe_lst (pa_cons pe_int (pa_cons pe_int (pa_cons (pe_un un_neg pe_int) (pa_cons (pv 1) (pa_cons (pe_callS G__law_great (hr.mono (by decide)) (by rfl) T.m__law_great T.F__law_great.kp T.b__law_great (fun σ => passAt (takes_of rfl rfl rfl rfl) σ) (pa_cons (pv 0) pa_nil)) (pa_cons (pe_callS G__law_draw (hr.mono (by decide)) (by rfl) T.m__law_draw T.F__law_draw.kp T.b__law_draw (fun σ => passAt (takes_of rfl rfl rfl rfl) σ) (pa_cons (pv 0) (pa_cons (pv 1) pa_nil))) pa_nil)))))))) (pg_name (i := 6) scLmeets.nd rfl (Or.inl rfl)) (pss_cons (ps_set (i := 10) scLmeets.nd rfl (Or.inl rfl) (pe_callS G__law_value (hr.mono (by decide)) (by rfl) T.m__law_value T.F__law_value.kp T.b__law_value (fun σ => passAt (takes_of rfl rfl rfl rfl) σ) (pa_cons (pv 3) (pa_cons (pv 6) (pa_cons (pv 1) pa_nil)))))
      (pss_cons (ps_if (pt_not (pt_val (pe_callS G__law_alike (hr.mono (by decide)) (by rfl) T.m__law_alike T.F__law_alike.kp T.b__law_alike (fun σ => passAt (takes_of rfl rfl rfl rfl) σ) (pa_cons (pe_callS G_value_at (hr.mono (by decide)) (by rfl) T.m_value_at T.F_value_at.kp T.b_value_at (fun σ => passAt (takes_of rfl rfl rfl rfl) σ) (pa_cons (pv 3) (pa_cons (pv 6) (pa_cons (pv 1) pa_nil)))) (pa_cons (pv 10) pa_nil))))) (pss_one (ps_ret pe_bl)) pss_nil)
      (pss_cons (ps_if (pt_not (pt_val (pe_callS G__law_alike (hr.mono (by decide)) (by rfl) T.m__law_alike T.F__law_alike.kp T.b__law_alike (fun σ => passAt (takes_of rfl rfl rfl rfl) σ) (pa_cons (pe_callKS0 G_value_at (hr.mono (by decide)) rfl T.m_value_at T.F_value_at.kp T.k_value_at_0_x_q_coefficients (fun σ => passAt (takes_of rfl rfl rfl rfl) σ) (pk_cons (pv 6) (pk_cons (pv 1) (pk_cons (pe_op (op_addV K rfl) (pv 3) (pe_tup (pa_cons pe_int pa_nil))) pk_nil)))) (pa_cons (pv 10) pa_nil))))) (pss_one (ps_ret pe_bl)) pss_nil)
      (pss_cons (ps_set (i := 11) scLmeets.nd rfl (Or.inl rfl) (pe_callTy (call_tupleV K rfl) (by rfl) T.z_tuple (by decide +kernel) (pa_cons (pe_lc (own := [("part", 12)]) (g := gName 12) (tt := tYes) rfl scLmeets.nd (pi_seqV K rfl (pv 3)) (blkOk_by (own := [("part", 12)]) (N := ["box", "q", "many", "coefficients", "k", "points", "x", "more", "wide", "point", "due", "wider", "part", "at", "value", "told"]) (sc := defScope s_Lmeets) (by decide +kernel)) (fun _ _ _ _ _ => (pg_name (i := 12) scLmeets.nd rfl (Or.inl rfl))) (fun _ _ _ _ _ => pts_nil) (fun _ _ _ _ _ => (pe_op op_sub (pe_op (op_addV K rfl) (pv 12) (pe_op op_mulV (pv 1) (pe_callS G__law_draw (hr.mono (by decide)) (by rfl) T.m__law_draw T.F__law_draw.kp T.b__law_draw (fun σ => passAt takes0 σ) (pa_cons (pv 0) (pa_cons pe_int pa_nil))))) (pe_op op_mulV pe_int (pv 1))))) pa_nil)))
      (pss_one (ps_if (pt_not (pt_val (pe_callS G__law_alike (hr.mono (by decide)) (by rfl) T.m__law_alike T.F__law_alike.kp T.b__law_alike (fun σ => passAt (takes_of rfl rfl rfl rfl) σ) (pa_cons (pe_callS G_value_at (hr.mono (by decide)) (by rfl) T.m_value_at T.F_value_at.kp T.b_value_at (fun σ => passAt (takes_of rfl rfl rfl rfl) σ) (pa_cons (pv 11) (pa_cons (pv 6) (pa_cons (pv 1) pa_nil)))) (pa_cons (pv 10) pa_nil))))) (pss_one (ps_ret pe_bl)) pss_nil)))))))
      (pss_cons (ps_if (pt_cmpR op_gt (pv 2) pe_int (nomark _)) (pss_cons (ps_set (i := 13) scLmeets.nd rfl (Or.inl rfl) (pe_callS G__law_draw (hr.mono (by decide)) (by rfl) T.m__law_draw T.F__law_draw.kp T.b__law_draw (fun σ => passAt (takes_of rfl rfl rfl rfl) σ) (pa_cons (pv 0) (pa_cons (pv 2) pa_nil))))
      (pss_cons (ps_set (i := 14) scLmeets.nd rfl (Or.inl rfl) (pe_op op_modN (pe_callTy call_intV (by rfl) T.z_int (by decide +kernel) (pa_cons (pe_op (op_addV K rfl) (pe_op (op_addV K rfl) (pe_ix (ix_VK K rfl) (pe_ix (ix_VK K rfl) (pv 5) (pv 13) (fun _ _ => rfl)) pe_int (fun _ _ => rfl)) pe_int) (pe_callS G__law_draw (hr.mono (by decide)) (by rfl) T.m__law_draw T.F__law_draw.kp T.b__law_draw (fun σ => passAt (takes_of rfl rfl rfl rfl) σ) (pa_cons (pv 0) (pa_cons (pe_op op_sub (pv 1) pe_int) pa_nil)))) pa_nil)) (pv 1)))
      (pss_cons (ps_set (i := 5) scLmeets.nd rfl (Or.inl rfl) (pe_op (op_addV K rfl) (pe_op (op_addV K rfl) (pe_slice (sl_V K rfl) (pv 5) po_none (po_some (pv 13))) (pe_tup (pa_cons (pe_tup (pa_cons (pe_ix (ix_VK K rfl) (pe_ix (ix_VK K rfl) (pv 5) (pv 13) (fun _ _ => rfl)) pe_int (fun _ _ => rfl)) (pa_cons (pv 14) pa_nil))) pa_nil))) (pe_slice (sl_V K rfl) (pv 5) (po_some (pe_op (op_addV K rfl) (pv 13) pe_int)) po_none)))
      (pss_cons (ps_set (i := 15) scLmeets.nd rfl (Or.inr rfl) (pe_callS G_interpolate (hr.mono (by decide)) (by rfl) T.m_interpolate T.F_interpolate.kp T.b_interpolate (fun σ => passAt (takes_of rfl rfl rfl rfl) σ) (pa_cons (pv 5) (pa_cons (pv 1) pa_nil))))
      (pss_cons (ps_if (PW.pt (pw_or (pt_not (pt_val (pe_callB (call_isiV K rfl) (by rfl) T.z_isinstance (by decide +kernel) (pa_cons (pv 15) (pa_cons (pe_bltn (v := .ty "tuple") (by rfl) T.z_tuple (by decide +kernel) rfl) pa_nil))))) (pw_or (pt_cmpR (op_neV K rfl hr.units) (pe_callB (call_lenVK K rfl) (by rfl) T.z_len PySem.boot_len (pa_cons (pv 15) pa_nil)) (pv 2) (nomark _)) (pw_or1 (pt_val (pe_callS G__law_alike (hr.mono (by decide)) (by rfl) T.m__law_alike T.F__law_alike.kp T.b__law_alike (fun σ => passAt (takes_of rfl rfl rfl rfl) σ) (pa_cons (pv 15) (pa_cons (pv 3) pa_nil)))))))) (pss_one (ps_ret pe_bl)) pss_nil)
      (pss_cons (ps_for (passes_of rfl) rfl (pi_seqV K rfl (pv 15)) (pg_name (i := 12) scLmeets.nd rfl (Or.inl rfl)) (pss_one (ps_if (PW.pt (pw_or (pt_not (pt_val (pe_callB (call_isiV K rfl) (by rfl) T.z_isinstance (by decide +kernel) (pa_cons (pv 12) (pa_cons (pe_bltn (v := .ty "int") (by rfl) T.z_int (by decide +kernel) rfl) pa_nil))))) (pw_or (pt_val (pe_callB (call_isiV K rfl) (by rfl) T.z_isinstance (by decide +kernel) (pa_cons (pv 12) (pa_cons (pe_bltn (v := .ty "bool") (by rfl) T.z_bool (by decide +kernel) rfl) pa_nil)))) (pw_or (pt_cmpR op_lt (pe_callTy call_intV (by rfl) T.z_int (by decide +kernel) (pa_cons (pv 12) pa_nil)) pe_int (nomark _)) (pw_or1 (pt_cmpR op_ge (pe_callTy call_intV (by rfl) T.z_int (by decide +kernel) (pa_cons (pv 12) pa_nil)) (pv 1) (nomark _))))))) (pss_one (ps_ret pe_bl)) pss_nil)))
      (pss_one (ps_ret (pe_callB (cr_allV K rfl rfl) (by rfl) T.z_all (by decide +kernel) (pa_cons (pe_lc (own := [("point", 9)]) (g := gName 9) (tt := tYes) rfl scLmeets.nd (pi_seqV K rfl (pv 5)) (blkOk_by (own := [("point", 9)]) (N := ["box", "q", "many", "coefficients", "k", "points", "x", "more", "wide", "point", "due", "wider", "part", "at", "value", "told"]) (sc := defScope s_Lmeets) (by decide +kernel)) (fun _ _ _ _ _ => (pg_name (i := 9) scLmeets.nd rfl (Or.inl rfl))) (fun _ _ _ _ _ => pts_nil) (fun _ _ _ _ _ => (pe_cmpR (op_eqV K rfl hr.units) (pe_callS G__law_value (hr.mono (by decide)) (by rfl) T.m__law_value T.F__law_value.kp T.b__law_value (fun σ => passAt takes0 σ) (pa_cons (pv 15) (pa_cons (pe_ix (ix_VK K rfl) (pv 9) pe_int (fun _ _ => rfl)) (pa_cons (pv 1) pa_nil)))) (pe_ix (ix_VK K rfl) (pv 9) pe_int (fun _ _ => rfl)) (nomark _)))) pa_nil)))))))))) pss_nil)
      (pss_one (ps_ret pe_bl)))))))))))),
    _, run_one (run_assoc (run_setE (i := 2) (ρs := (fun (s489 : List PV) => [(.rf 0 (.lst s489)), (.fz a_q), .un, .un, .un, .un, .un, .un, .un, .un, .un, .un, .un, .un, .un, .un])) (s0 := a_box) (ef_callR (i := 0) (sl := (fun (s1 : List PV) => (.rf 0 (.lst s1)))) (get := (fun (s1 : List PV) => MO.lst s1)) (put := (fun (s1 : List PV) (mo : MO) => moL mo >>= fun l => Res.val l)) (fun _ => rfl) (fun _ => Or.inr ⟨_, rfl⟩) (fun s mo s' h => by cases mo <;> first | (cases h; rfl) | cases h) (el_cons (ef_op o2_ix (ef_pure (W := (fun c d _ H' => E c d H')) fun s3 => (pu_lst (pl_cons pu_int (pl_cons pu_int (pl_cons pu_int pl_nil))))) (ef_callR (i := 0) (sl := (fun (s11 : List PV) => (.rf 0 (.lst s11)))) (get := (fun (s11 : List PV) => MO.lst s11)) (put := (fun (s11 : List PV) (mo : MO) => moL mo >>= fun l => Res.val l)) (fun _ => rfl) (fun _ => Or.inr ⟨_, rfl⟩) (fun s mo s' h => by cases mo <;> first | (cases h; rfl) | cases h) (el_cons (ef_pure (W := (fun c d _ H' => E c d H')) fun s12 => pu_int) el_nil))) el_nil)) rfl (fun _ => rfl) fun x31 s32 => (run_assoc (run_seq (ρj := fun (s37 : PV) => [(.rf 0 (.lst s32)), (.fz a_q), (.fz s37), .un, .un, .un, .un, .un, .un, .un, .un, .un, .un, .un, .un, .un]) (run_one (run_if (ts_cmp (Pur.vw (pu_op o2_gt (Pur.vw (pu_var rfl)) (Pur.vw (pu_var rfl))))) (wk_uns rfl) (run_set (i := 2) (pu_var rfl) rfl (wk_uns rfl) fun x38 => (run_next (s := x38) (.keep (.keep (.keep (.keep (.keep (.keep (.keep (.keep (.keep (.keep (.keep (.keep (.keep (.keep (.keep (.keep .nil)))))))))))))))))) (run_skip (run_next (s := x31) (.keep (.keep (.keep (.keep (.keep (.keep (.keep (.keep (.keep (.keep (.keep (.keep (.keep (.keep (.keep (.keep .nil)))))))))))))))))))) fun s37 => (run_assoc (run_setE (i := 3) (ρs := (fun (s488 : List PV) => [(.rf 0 (.lst s488)), (.fz a_q), (.fz s37), .un, .un, .un, .un, .un, .un, .un, .un, .un, .un, .un, .un, .un])) (s0 := s32) (ef_cb1 b1_tuple (ef_lc (ρe := fun (a44 : PV) (s45 : List PV) => [(.rf 0 (.lst s45)), (.fz a_q), (.fz s37), .un, (.fz a44), .un, .un, .un, .un, .un, .un, .un, .un, .un, .un, .un]) (ei_pure (W := (fun c d _ H' => E c d H')) fun s41 => (it_rng1 (Pur.vw (pu_var rfl)))) (fun _ => rfl) (by decide) (fun _ => (tg_name (i := 4) rfl (Or.inr (by decide)))) (fun _ _ => rfl) (fun _ _ => rfl) (fun a44 => et_yes) (fun a44 => (ef_callR (i := 0) (sl := (fun (s47 : List PV) => (.rf 0 (.lst s47)))) (get := (fun (s47 : List PV) => MO.lst s47)) (put := (fun (s47 : List PV) (mo : MO) => moL mo >>= fun l => Res.val l)) (fun _ => rfl) (fun _ => Or.inr ⟨_, rfl⟩) (fun s mo s' h => by cases mo <;> first | (cases h; rfl) | cases h) (el_cons (ef_pure (W := (fun _ _ _ _ => False)) fun s48 => (pu_var rfl)) el_nil))))) rfl (fun _ => rfl) fun x62 s63 => (run_assoc (run_setE (i := 5) (ρs := (fun (s487 : List PV) => [(.rf 0 (.lst s487)), (.fz a_q), (.fz s37), (.fz x62), .un, .un, .un, .un, .un, .un, .un, .un, .un, .un, .un, .un])) (s0 := s63) (ef_cb1 b1_tuple (ef_lc (ρe := fun (a85 : PV) (s86 : List PV) => [(.rf 0 (.lst s86)), (.fz a_q), (.fz s37), (.fz x62), .un, .un, (.fz a85), .un, .un, .un, .un, .un, .un, .un, .un, .un]) (ei_seq (ef_callR (i := 0) (sl := (fun (s70 : List PV) => (.rf 0 (.lst s70)))) (get := (fun (s70 : List PV) => MO.lst s70)) (put := (fun (s70 : List PV) (mo : MO) => moL mo >>= fun l => Res.val l)) (fun _ => rfl) (fun _ => Or.inr ⟨_, rfl⟩) (fun s mo s' h => by cases mo <;> first | (cases h; rfl) | cases h) (el_cons (ef_pure (W := (fun c d _ H' => E c d H')) fun s71 => (pu_var rfl)) (el_cons (ef_pure (W := (fun c d _ H' => E c d H')) fun s73 => (pu_var rfl)) el_nil)))) (fun _ => rfl) (by decide) (fun _ => (tg_name (i := 6) rfl (Or.inr (by decide)))) (fun _ _ => rfl) (fun _ _ => rfl) (fun a85 => et_yes) (fun a85 => (ef_pure (W := (fun _ _ _ _ => False)) fun s88 => (pu_tup (pl_cons (pu_var rfl) (pl_cons (pu_call3 (pu_var rfl) (pu_var rfl) (pu_var rfl)) pl_nil))))))) rfl (fun _ => rfl) fun x102 s103 => (run_assoc (run_if (ts_not (ts_val (Pur.vw (pu_call2 (pu_call2 (pu_var rfl) (pu_var rfl)) (pu_tup (pl_cons pu_str (pl_cons (pu_var rfl) pl_nil))))))) (wk_uns rfl) (run_ret pu_bl rfl rfl (wk_uns rfl)) (run_skip (run_assoc (run_setE (i := 7) (ρs := (fun (s486 : List PV) => [(.rf 0 (.lst s486)), (.fz a_q), (.fz s37), (.fz x62), .un, (.fz x102), .un, .un, .un, .un, .un, .un, .un, .un, .un, .un])) (s0 := s103) (ef_lst (el_cons (ef_pure (W := (fun c d _ H' => E c d H')) fun s117 => pu_int) (el_cons (ef_pure (W := (fun c d _ H' => E c d H')) fun s119 => pu_int) (el_cons (ef_pure (W := (fun c d _ H' => E c d H')) fun s121 => (pu_un o1_neg (Pur.vw pu_int))) (el_cons (ef_callR (i := 0) (sl := (fun (s123 : List PV) => (.rf 0 (.lst s123)))) (get := (fun (s123 : List PV) => MO.lst s123)) (put := (fun (s123 : List PV) (mo : MO) => moL mo >>= fun l => Res.val l)) (fun _ => rfl) (fun _ => Or.inr ⟨_, rfl⟩) (fun s mo s' h => by cases mo <;> first | (cases h; rfl) | cases h) el_nil) el_nil))))) rfl (fun _ => rfl) fun x143 s144 => (run_assoc (run_setE (i := 8) (ρs := (fun (s485 : List PV) => [(.rf 0 (.lst s485)), (.fz a_q), (.fz s37), (.fz x62), .un, (.fz x102), .un, (.fz x143), .un, .un, .un, .un, .un, .un, .un, .un])) (s0 := s144) (ef_lc (ρe := fun (a151 : PV) (s152 : List PV) => [(.rf 0 (.lst s152)), (.fz a_q), (.fz s37), (.fz x62), .un, (.fz x102), .un, (.fz x143), .un, (.fz a151), .un, .un, .un, .un, .un, .un]) (ei_pure (W := (fun c d _ H' => E c d H')) fun s147 => (it_rev (pu_cb1 b1_list (Pur.vw (pu_var rfl))))) (fun _ => rfl) (by decide) (fun _ => (tg_name (i := 9) rfl (Or.inr (by decide)))) (fun _ _ => rfl) (fun _ _ => rfl) (fun a151 => et_yes) (fun a151 => (ef_tup (el_cons (ef_pure (W := (fun _ _ _ _ => False)) fun s155 => (pu_op o2_ix (Pur.vw (pu_var rfl)) (Pur.vw pu_int))) (el_cons (ef_op o2_add (ef_pure (W := (fun _ _ _ _ => False)) fun s160 => (pu_op o2_ix (Pur.vw (pu_var rfl)) (Pur.vw pu_int))) (ef_op o2_mul (ef_pure (W := (fun _ _ _ _ => False)) fun s165 => (pu_var rfl)) (ef_op o2_ix (ef_pure (W := (fun _ _ _ _ => False)) fun s168 => (pu_var rfl)) (ef_callR (i := 0) (sl := (fun (s170 : List PV) => (.rf 0 (.lst s170)))) (get := (fun (s170 : List PV) => MO.lst s170)) (put := (fun (s170 : List PV) (mo : MO) => moL mo >>= fun l => Res.val l)) (fun _ => rfl) (fun _ => Or.inr ⟨_, rfl⟩) (fun s mo s' h => by cases mo <;> first | (cases h; rfl) | cases h) (el_cons (ef_pure (W := (fun _ _ _ _ => False)) fun s171 => pu_int) el_nil))))) el_nil))))) rfl (fun _ => rfl) fun x201 s202 => (run_assoc (run_if (ts_not (ts_val (Pur.vw (pu_call2 (pu_callKS g_interpolate_0_q_points_is pl_nil (pl_cons (pu_var rfl) (pl_cons (pu_cb1 b1_tuple (Pur.vw (pu_var rfl))) pl_nil))) (pu_var rfl))))) (wk_uns rfl) (run_ret pu_bl rfl rfl (wk_uns rfl)) (run_skip (run_assoc (run_seq (ρj := fun (s358 : List PV) => [(.rf 0 (.lst s358)), (.fz a_q), (.fz s37), (.fz x62), .un, (.fz x102), .un, (.fz x143), (.fz x201), .un, .un, .un, .un, .un, .un, .un]) (run_forE (ρs := (fun (s357 : List PV) => [(.rf 0 (.lst s357)), (.fz a_q), (.fz s37), (.fz x62), .un, (.fz x102), .un, (.fz x143), (.fz x201), .un, .un, .un, .un, .un, .un, .un])) (s0 := s202) (st := (fun (s263 : List PV) => s263)) (ρs' := fun (s264 : List PV) => [(.rf 0 (.lst s264)), (.fz a_q), (.fz s37), (.fz x62), .un, (.fz x102), .un, (.fz x143), (.fz x201), .un, .un, .un, .un, .un, .un, .un]) (ρe := fun (s264 : List PV) (a265 : PV) => [(.rf 0 (.lst s264)), (.fz a_q), (.fz s37), (.fz x62), .un, (.fz x102), (.fz a265), (.fz x143), (.fz x201), .un, .un, .un, .un, .un, .un, .un]) (ei_seq (ef_lst (el_cons (ef_pure (W := (fun c d _ H' => E c d H')) fun s219 => pu_int) (el_cons (ef_pure (W := (fun c d _ H' => E c d H')) fun s221 => pu_int) (el_cons (ef_pure (W := (fun c d _ H' => E c d H')) fun s223 => (pu_un o1_neg (Pur.vw pu_int))) (el_cons (ef_pure (W := (fun c d _ H' => E c d H')) fun s225 => (pu_var rfl)) (el_cons (ef_callR (i := 0) (sl := (fun (s227 : List PV) => (.rf 0 (.lst s227)))) (get := (fun (s227 : List PV) => MO.lst s227)) (put := (fun (s227 : List PV) (mo : MO) => moL mo >>= fun l => Res.val l)) (fun _ => rfl) (fun _ => Or.inr ⟨_, rfl⟩) (fun s mo s' h => by cases mo <;> first | (cases h; rfl) | cases h) el_nil) (el_cons (ef_callR (i := 0) (sl := (fun (s232 : List PV) => (.rf 0 (.lst s232)))) (get := (fun (s232 : List PV) => MO.lst s232)) (put := (fun (s232 : List PV) (mo : MO) => moL mo >>= fun l => Res.val l)) (fun _ => rfl) (fun _ => Or.inr ⟨_, rfl⟩) (fun s mo s' h => by cases mo <;> first | (cases h; rfl) | cases h) (el_cons (ef_pure (W := (fun c d _ H' => E c d H')) fun s233 => (pu_var rfl)) el_nil)) el_nil)))))))) rfl (fun s263 => (.keep (.keep (.keep (.keep (.keep (.keep (.keep (.keep (.keep (.keep (.keep (.keep (.keep (.keep (.keep (.keep .nil))))))))))))))))) (fun s264 => (tg_name (i := 6) rfl (Or.inl rfl))) (fun a265 s264 => run_one (run_assoc (run_set (i := 10) (pu_call3 (pu_var rfl) (pu_var rfl) (pu_var rfl)) rfl (wk_uns rfl) fun x269 => (run_assoc (run_if (ts_not (ts_val (Pur.vw (pu_call2 (pu_call3 (pu_var rfl) (pu_var rfl) (pu_var rfl)) (pu_var rfl))))) (wk_uns rfl) (run_ret pu_bl rfl rfl (wk_uns rfl)) (run_skip (run_assoc (run_if (ts_not (ts_val (Pur.vw (pu_call2 (pu_callKS g_value_at_0_x_q_coefficients_is pl_nil (pl_cons (pu_var rfl) (pl_cons (pu_var rfl) (pl_cons (pu_op o2_add (Pur.vw (pu_var rfl)) (Pur.vw (pu_tup (pl_cons pu_int pl_nil)))) pl_nil)))) (pu_var rfl))))) (wk_uns rfl) (run_ret pu_bl rfl rfl (wk_uns rfl)) (run_skip (run_assoc (run_setE (i := 11) (ρs := (fun (s353 : List PV) => [(.rf 0 (.lst s353)), (.fz a_q), (.fz s37), (.fz x62), .un, (.fz x102), (.fz a265), (.fz x143), (.fz x201), .un, (.fz x269), .un, .un, .un, .un, .un])) (s0 := s264) (ef_cb1 b1_tuple (ef_lc (ρe := fun (a304 : PV) (s305 : List PV) => [(.rf 0 (.lst s305)), (.fz a_q), (.fz s37), (.fz x62), .un, (.fz x102), (.fz a265), (.fz x143), (.fz x201), .un, (.fz x269), .un, (.fz a304), .un, .un, .un]) (ei_pure (W := (fun c d _ H' => E c d H')) fun s301 => (it_seq (pu_var rfl))) (fun _ => rfl) (by decide) (fun _ => (tg_name (i := 12) rfl (Or.inr (by decide)))) (fun _ _ => rfl) (fun _ _ => rfl) (fun a304 => et_yes) (fun a304 => (ef_op o2_sub (ef_op o2_add (ef_pure (W := (fun _ _ _ _ => False)) fun s309 => (pu_var rfl)) (ef_op o2_mul (ef_pure (W := (fun _ _ _ _ => False)) fun s312 => (pu_var rfl)) (ef_callR (i := 0) (sl := (fun (s314 : List PV) => (.rf 0 (.lst s314)))) (get := (fun (s314 : List PV) => MO.lst s314)) (put := (fun (s314 : List PV) (mo : MO) => moL mo >>= fun l => Res.val l)) (fun _ => rfl) (fun _ => Or.inr ⟨_, rfl⟩) (fun s mo s' h => by cases mo <;> first | (cases h; rfl) | cases h) (el_cons (ef_pure (W := (fun _ _ _ _ => False)) fun s315 => pu_int) el_nil)))) (ef_pure (W := (fun _ _ _ _ => False)) fun s330 => (pu_op o2_mul (Pur.vw pu_int) (Pur.vw (pu_var rfl)))))))) rfl (fun _ => rfl) fun x342 s343 => (run_if (ts_not (ts_val (Pur.vw (pu_call2 (pu_call3 (pu_var rfl) (pu_var rfl) (pu_var rfl)) (pu_var rfl))))) (wk_uns rfl) (run_ret pu_bl rfl rfl (wk_uns rfl)) (run_skip (run_next (s := s343) (.keep (.keep (.keep (.keep (.keep (.keep (.drop (.keep (.keep (.keep (.drop (.drop (.keep (.keep (.keep (.keep .nil))))))))))))))))))))))))))))))) fun s358 => (run_assoc (run_if (ts_cmp (Pur.vw (pu_op o2_gt (Pur.vw (pu_var rfl)) (Pur.vw pu_int)))) (wk_uns rfl) (run_assoc (run_setE (i := 13) (ρs := (fun (s483 : List PV) => [(.rf 0 (.lst s483)), (.fz a_q), (.fz s37), (.fz x62), .un, (.fz x102), .un, (.fz x143), (.fz x201), .un, .un, .un, .un, .un, .un, .un])) (s0 := s358) (ef_callR (i := 0) (sl := (fun (s362 : List PV) => (.rf 0 (.lst s362)))) (get := (fun (s362 : List PV) => MO.lst s362)) (put := (fun (s362 : List PV) (mo : MO) => moL mo >>= fun l => Res.val l)) (fun _ => rfl) (fun _ => Or.inr ⟨_, rfl⟩) (fun s mo s' h => by cases mo <;> first | (cases h; rfl) | cases h) (el_cons (ef_pure (W := (fun c d _ H' => E c d H')) fun s363 => (pu_var rfl)) el_nil)) rfl (fun _ => rfl) fun x372 s373 => (run_assoc (run_setE (i := 14) (ρs := (fun (s482 : List PV) => [(.rf 0 (.lst s482)), (.fz a_q), (.fz s37), (.fz x62), .un, (.fz x102), .un, (.fz x143), (.fz x201), .un, .un, .un, .un, (.fz x372), .un, .un])) (s0 := s373) (ef_op o2_mod (ef_cb1 b1_int (ef_op o2_add (ef_pure (W := (fun c d _ H' => E c d H')) fun s378 => (pu_op o2_add (Pur.vw (pu_op o2_ix (Pur.vw (pu_op o2_ix (Pur.vw (pu_var rfl)) (Pur.vw (pu_var rfl)))) (Pur.vw pu_int))) (Pur.vw pu_int))) (ef_callR (i := 0) (sl := (fun (s386 : List PV) => (.rf 0 (.lst s386)))) (get := (fun (s386 : List PV) => MO.lst s386)) (put := (fun (s386 : List PV) (mo : MO) => moL mo >>= fun l => Res.val l)) (fun _ => rfl) (fun _ => Or.inr ⟨_, rfl⟩) (fun s mo s' h => by cases mo <;> first | (cases h; rfl) | cases h) (el_cons (ef_pure (W := (fun c d _ H' => E c d H')) fun s387 => (pu_op o2_sub (Pur.vw (pu_var rfl)) (Pur.vw pu_int))) el_nil)))) (ef_pure (W := (fun c d _ H' => E c d H')) fun s403 => (pu_var rfl))) rfl (fun _ => rfl) fun x408 s409 => (run_assoc (run_set (i := 5) (pu_op o2_add (Pur.vw (pu_op o2_add (Pur.vw (pu_sl (Pur.vw (pu_var rfl)) pr_none (pr_some (Pur.vw (pu_var rfl))))) (Pur.vw (pu_tup (pl_cons (pu_tup (pl_cons (pu_op o2_ix (Pur.vw (pu_op o2_ix (Pur.vw (pu_var rfl)) (Pur.vw (pu_var rfl)))) (Pur.vw pu_int)) (pl_cons (pu_var rfl) pl_nil))) pl_nil))))) (Pur.vw (pu_sl (Pur.vw (pu_var rfl)) (pr_some (Pur.vw (pu_op o2_add (Pur.vw (pu_var rfl)) (Pur.vw pu_int)))) pr_none))) rfl (wk_uns rfl) fun x435 => (run_assoc (run_set (i := 15) (pu_call2 (pu_var rfl) (pu_var rfl)) rfl (wk_uns rfl) fun x438 => (run_assoc (run_if (ts_or (ts_not (ts_val (Pur.vw (pu_cb2 b2_isi (Pur.vw (pu_var rfl)) (Pur.vw pu_ty))))) (ts_or (ts_cmp (Pur.vw (pu_op o2_ne (Pur.vw (pu_cb1 b1_len (Pur.vw (pu_var rfl)))) (Pur.vw (pu_var rfl))))) (ts_val (Pur.vw (pu_call2 (pu_var rfl) (pu_var rfl)))))) (wk_uns rfl) (run_ret pu_bl rfl rfl (wk_uns rfl)) (run_skip (run_assoc (run_seq (ρj := fun (s468 : Unit) => [(.rf 0 (.lst s409)), (.fz a_q), (.fz s37), (.fz x62), .un, (.fz x435), .un, (.fz x143), (.fz x201), .un, .un, .un, .un, (.fz x372), (.fz x408), (.fz x438)]) (run_for (ρs := fun (s450 : Unit) => [(.rf 0 (.lst s409)), (.fz a_q), (.fz s37), (.fz x62), .un, (.fz x435), .un, (.fz x143), (.fz x201), .un, .un, .un, .un, (.fz x372), (.fz x408), (.fz x438)]) (s0 := ()) (ρe := fun (s450 : Unit) (a451 : PV) => [(.rf 0 (.lst s409)), (.fz a_q), (.fz s37), (.fz x62), .un, (.fz x435), .un, (.fz x143), (.fz x201), .un, .un, .un, (.fz a451), (.fz x372), (.fz x408), (.fz x438)]) (it_seq (pu_var rfl)) (.keep (.keep (.keep (.keep (.keep (.keep (.keep (.keep (.keep (.keep (.keep (.keep (.keep (.keep (.keep (.keep .nil)))))))))))))))) (wk_uns rfl) (fun s450 => (tg_name (i := 12) rfl (Or.inl rfl))) (fun a451 s450 => run_one (run_if (ts_or (ts_not (ts_val (Pur.vw (pu_cb2 b2_isi (Pur.vw (pu_var rfl)) (Pur.vw pu_ty))))) (ts_or (ts_val (Pur.vw (pu_cb2 b2_isi (Pur.vw (pu_var rfl)) (Pur.vw pu_ty)))) (ts_or (ts_cmp (Pur.vw (pu_op o2_lt (Pur.vw (pu_cb1 b1_int (Pur.vw (pu_var rfl)))) (Pur.vw pu_int)))) (ts_cmp (Pur.vw (pu_op o2_ge (Pur.vw (pu_cb1 b1_int (Pur.vw (pu_var rfl)))) (Pur.vw (pu_var rfl)))))))) (wk_uns rfl) (run_ret pu_bl rfl rfl (wk_uns rfl)) (run_skip (run_next (s := ()) (.keep (.keep (.keep (.keep (.keep (.keep (.keep (.keep (.keep (.keep (.keep (.keep (.drop (.keep (.keep (.keep .nil))))))))))))))))))))) fun s468 => (run_ret (pu_cb1 b1_all (Pur.vw (New.pur (nw_lc (ρe := fun (a469 : PV) => [(.rf 0 (.lst s409)), (.fz a_q), (.fz s37), (.fz x62), .un, (.fz x435), .un, (.fz x143), (.fz x201), (.fz a469), .un, .un, .un, (.fz x372), (.fz x408), (.fz x438)]) (Iter.view (it_seq (pu_var rfl))) rfl (by decide) (tg_name (i := 9) rfl (Or.inr (by decide))) (fun a469 => ts_yes) (fun a469 => (pu_op o2_eq (Pur.vw (pu_call3 (pu_var rfl) (pu_op o2_ix (Pur.vw (pu_var rfl)) (Pur.vw pu_int)) (pu_var rfl))) (Pur.vw (pu_op o2_ix (Pur.vw (pu_var rfl)) (Pur.vw pu_int))))))))) rfl rfl (wk_uns rfl))))))))))))))) (run_skip (run_ret pu_bl rfl rfl (wk_uns rfl))))))))))))))))))))))))), rfl⟩
def m_law (ns : List Int) : Res PV := retF ((((Res.val (PV.fls (List.map PV.int ns))) >>= fun x3 => ((Res.val (PV.int 0)) >>= fun x1 => (Res.val []) >>= fun xs2 => Res.val (x1 :: xs2)) >>= fun xs4 => Res.val (x3 :: xs4)) >>= fun ps5 => noX (apN2 m__law_box ps5) >>= moL) >>= fun l6 => ((((Res.val (PV.fls (List.map PV.int ns))) >>= fun x9 => ((Res.val (PV.int 1)) >>= fun x7 => (Res.val []) >>= fun xs8 => Res.val (x7 :: xs8)) >>= fun xs10 => Res.val (x9 :: xs10)) >>= fun ps11 => noX (apN2 m__law_box ps11) >>= moL) >>= fun l12 => (noX ((fun (s13 : List PV) => (fun (s22 : List PV) => (fun (s14 : List PV) => noX (Res.val (PV.int 3)) >>= fun v15 => Res.val (v15, s14)) s22 >>= fun x23 => (fun (s19 : List PV) => (fun (s16 : List PV) => noX (Res.val (PV.int 127)) >>= fun v17 => Res.val (v17, s16)) s19 >>= fun x20 => (fun (s18 : List PV) => Res.val (([] : List PV), s18)) x20.2 >>= fun xs21 => Res.val (x20.1 :: xs21.1, xs21.2)) x23.2 >>= fun xs24 => Res.val (x23.1 :: xs24.1, xs24.2)) s13 >>= fun x25 => (apR2 m__law_prime) (MO.lst x25.2) x25.1 >>= fun r26 => ((fun (s13 : List PV) (mo : MO) => moL mo >>= fun l => Res.val l) x25.2 r26.2) >>= fun s27 => Res.val (r26.1, s27)) l6) >>= fun r30 => (fun (x28 : PV) (s29 : List PV) => (noX ((fun (s86 : List PV × List PV) => (fun (s70 : List PV × List PV) => (fun (s73 : List PV × List PV) => (fun (s76 : List PV × List PV) => (fun (s80 : List PV × List PV) => (fun (s77 : List PV × List PV) => noX (Res.val x28) >>= fun v78 => Res.val (v78, s77)) s80 >>= fun x81 => (fun (s79 : List PV × List PV) => Res.val (([] : List PV), s79)) x81.2 >>= fun xs82 => Res.val (x81.1 :: xs82.1, xs82.2)) s76 >>= fun x83 => (apR1 m__law_meets) (MO.lst x83.2.1) x83.1 >>= fun r84 => ((fun (s76 : List PV × List PV) (mo : MO) => moL mo >>= fun l => Res.val (l, s76.2)) x83.2 r84.2) >>= fun s85 => Res.val (r84.1, s85)) s73 >>= fun x74 => asB x74.1 >>= fun b75 => Res.val (b75, x74.2)) s70 >>= fun x71 => Res.val (!x71.1, x71.2)) s86 >>= fun b87 => if b87.1 = true then Res.val (true, b87.2) else (fun (s34 : List PV × List PV) => (fun (s37 : List PV × List PV) => (fun (s40 : List PV × List PV) => (fun (s64 : List PV × List PV) => (fun (s41 : List PV × List PV) => (fun (s42 : List PV × List PV) => noX (((Res.val (PV.int 3)) >>= fun x47 => ((Res.val (PV.int 5)) >>= fun x45 => ((Res.val (PV.int 7)) >>= fun x43 => (Res.val []) >>= fun xs44 => Res.val (x43 :: xs44)) >>= fun xs46 => Res.val (x45 :: xs46)) >>= fun xs48 => Res.val (x47 :: xs48)) >>= mkL) >>= fun v49 => Res.val (v49, s42)) s41 >>= fun x60 => (fun (s50 : List PV × List PV) => (fun (s54 : List PV × List PV) => (fun (s51 : List PV × List PV) => noX (Res.val (PV.int 3)) >>= fun v52 => Res.val (v52, s51)) s54 >>= fun x55 => (fun (s53 : List PV × List PV) => Res.val (([] : List PV), s53)) x55.2 >>= fun xs56 => Res.val (x55.1 :: xs56.1, xs56.2)) s50 >>= fun x57 => (apR1 m__law_draw) (MO.lst x57.2.2) x57.1 >>= fun r58 => ((fun (s50 : List PV × List PV) (mo : MO) => moL mo >>= fun l => Res.val (s50.1, l)) x57.2 r58.2) >>= fun s59 => Res.val (r58.1, s59)) x60.2 >>= fun x61 => noX (ixP x60.1 x61.1) >>= fun z62 => Res.val (z62, x61.2)) s64 >>= fun x65 => (fun (s63 : List PV × List PV) => Res.val (([] : List PV), s63)) x65.2 >>= fun xs66 => Res.val (x65.1 :: xs66.1, xs66.2)) s40 >>= fun x67 => (apR1 m__law_meets) (MO.lst x67.2.2) x67.1 >>= fun r68 => ((fun (s40 : List PV × List PV) (mo : MO) => moL mo >>= fun l => Res.val (s40.1, l)) x67.2 r68.2) >>= fun s69 => Res.val (r68.1, s69)) s37 >>= fun x38 => asB x38.1 >>= fun b39 => Res.val (b39, x38.2)) s34 >>= fun x35 => Res.val (!x35.1, x35.2)) b87.2) (s29, l12)) >>= fun b88 => if b88.1 = true then (fun (s89 : List PV × List PV) => ((Res.val (PV.bl false)) >>= fun v91 => Res.val (.rt v91 []))) b88.2 else (fun (s89 : List PV × List PV) => ((((((((Res.val []) >>= mkT) >>= fun x98 => (Res.val x28) >>= fun x99 => m__law_asked x98 x99) >>= fun x104 => (((Res.val (PV.str "told")) >>= fun x102 => (((Res.val []) >>= mkT) >>= fun x100 => (Res.val []) >>= fun xs101 => Res.val (x100 :: xs101)) >>= fun xs103 => Res.val (x102 :: xs103)) >>= mkT) >>= fun x105 => (m__law_alike 5) x104 x105) >>= asB) >>= fun b106 => Res.val (!b106)) >>= fun b107 => if b107 = true then Res.val true else ((((((Res.val []) >>= mkT) >>= fun x92 => (Res.val (PV.int 5)) >>= fun x93 => (Res.val x28) >>= fun x94 => m_value_at x92 x93 x94) >>= fun x95 => (Res.val (PV.int 0)) >>= fun x96 => (m__law_alike 5) x95 x96) >>= asB) >>= fun b97 => Res.val (!b97))) >>= fun b108 => if b108 = true then ((Res.val (PV.bl false)) >>= fun v109 => Res.val (.rt v109 [])) else (noX ((fun (s131 : List PV) => (fun (s121 : List PV) => (fun (s125 : List PV) => (fun (s122 : List PV) => noX (Res.val x28) >>= fun v123 => Res.val (v123, s122)) s125 >>= fun x126 => (fun (s124 : List PV) => Res.val (([] : List PV), s124)) x126.2 >>= fun xs127 => Res.val (x126.1 :: xs127.1, xs127.2)) s121 >>= fun x128 => (apR1 m__law_refused) (MO.lst x128.2) x128.1 >>= fun r129 => ((fun (s121 : List PV) (mo : MO) => moL mo >>= fun l => Res.val l) x128.2 r129.2) >>= fun s130 => Res.val (r129.1, s130)) s131 >>= fun x132 => asB x132.1 >>= fun b133 => if b133 = true then (fun (s111 : List PV) => (fun (s115 : List PV) => (fun (s112 : List PV) => noX (Res.val (PV.int 3)) >>= fun v113 => Res.val (v113, s112)) s115 >>= fun x116 => (fun (s114 : List PV) => Res.val (([] : List PV), s114)) x116.2 >>= fun xs117 => Res.val (x116.1 :: xs117.1, xs117.2)) s111 >>= fun x118 => (apR1 m__law_refused) (MO.lst x118.2) x118.1 >>= fun r119 => ((fun (s111 : List PV) (mo : MO) => moL mo >>= fun l => Res.val l) x118.2 r119.2) >>= fun s120 => Res.val (r119.1, s120)) x132.2 else Res.val (PV.bl false, x132.2)) s89.2) >>= fun r134 => Res.val (.rt r134.1 ((fun (s135 : List PV) => []) r134.2))))) b88.2)) r30.1 r30.2)))
theorem ok_law (T : Top K mg) (hl : ∀ ns : List Int, ns.length ≤ 63 → m_law ns = .val (.bl true)) : FnOk P w K mg base CX0 8 T.f_law T.d_law ["script"] (spLaw K) := by
  have G__law_box := ok__law_box (P := P) (w := w) (base := base) T
  have G__law_prime := ok__law_prime (P := P) (w := w) (base := base) T
  have G__law_refused := ok__law_refused (P := P) (w := w) (base := base) T
  have G__law_meets := ok__law_meets (P := P) (w := w) (base := base) T
  have G__law_alike := ok__law_alike (P := P) (w := w) (base := base) T 5
  have G__law_asked := ok__law_asked (P := P) (w := w) (base := base) T
  have G_value_at := ok_value_at (P := P) (w := w) (base := base) T
  have G__law_draw := ok__law_draw (P := P) (w := w) (base := base) T
  refine fnLaw (cl := clT T) T.F_law sclaw hl fun cdv A outer s H E hr ns => ?_
  exact ⟨_, (pss_cons (ps_set (i := 1) sclaw.nd rfl (Or.inl rfl) (pe_callS G__law_box (hr.mono (by decide)) (by rfl) T.m__law_box T.F__law_box.kp T.b__law_box (fun σ => passAt takes0 σ) (pa_cons (pv 0) (pa_cons pe_int pa_nil))))
      (pss_cons (ps_set (i := 2) sclaw.nd rfl (Or.inl rfl) (pe_callS G__law_box (hr.mono (by decide)) (by rfl) T.m__law_box T.F__law_box.kp T.b__law_box (fun σ => passAt takes0 σ) (pa_cons (pv 0) (pa_cons pe_int pa_nil))))
      (pss_cons (ps_set (i := 3) sclaw.nd rfl (Or.inl rfl) (pe_callS G__law_prime (hr.mono (by decide)) (by rfl) T.m__law_prime T.F__law_prime.kp T.b__law_prime (fun σ => passAt takes0 σ) (pa_cons (pv 1) (pa_cons pe_int (pa_cons pe_int pa_nil)))))
      (pss_cons (ps_if (PW.pt (pw_or (pt_not (pt_val (pe_callS G__law_meets (hr.mono (by decide)) (by rfl) T.m__law_meets T.F__law_meets.kp T.b__law_meets (fun σ => passAt takes0 σ) (pa_cons (pv 1) (pa_cons (pv 3) pa_nil))))) (pw_or1 (pt_not (pt_val (pe_callS G__law_meets (hr.mono (by decide)) (by rfl) T.m__law_meets T.F__law_meets.kp T.b__law_meets (fun σ => passAt takes0 σ) (pa_cons (pv 2) (pa_cons (pe_ix (ix_VK K rfl) (pe_lst (pa_cons pe_int (pa_cons pe_int (pa_cons pe_int pa_nil)))) (pe_callS G__law_draw (hr.mono (by decide)) (by rfl) T.m__law_draw T.F__law_draw.kp T.b__law_draw (fun σ => passAt takes0 σ) (pa_cons (pv 2) (pa_cons pe_int pa_nil))) (fun _ _ => rfl)) pa_nil)))))))) (pss_one (ps_ret pe_bl)) pss_nil)
      (pss_cons (ps_if (PW.pt (pw_or (pt_not (pt_val (pe_callS G__law_alike (hr.mono (by decide)) (by rfl) T.m__law_alike T.F__law_alike.kp T.b__law_alike (fun σ => passAt takes0 σ) (pa_cons (pe_callS G__law_asked (hr.mono (by decide)) (by rfl) T.m__law_asked T.F__law_asked.kp T.b__law_asked (fun σ => passAt takes0 σ) (pa_cons (pe_tup pa_nil) (pa_cons (pv 3) pa_nil))) (pa_cons (pe_tup (pa_cons pe_str (pa_cons (pe_tup pa_nil) pa_nil))) pa_nil))))) (pw_or1 (pt_not (pt_val (pe_callS G__law_alike (hr.mono (by decide)) (by rfl) T.m__law_alike T.F__law_alike.kp T.b__law_alike (fun σ => passAt takes0 σ) (pa_cons (pe_callS G_value_at (hr.mono (by decide)) (by rfl) T.m_value_at T.F_value_at.kp T.b_value_at (fun σ => passAt takes0 σ) (pa_cons (pe_tup pa_nil) (pa_cons pe_int (pa_cons (pv 3) pa_nil)))) (pa_cons pe_int pa_nil)))))))) (pss_one (ps_ret pe_bl)) pss_nil)
      (pss_one (ps_ret (pe_and (pe_callS G__law_refused (hr.mono (by decide)) (by rfl) T.m__law_refused T.F__law_refused.kp T.b__law_refused (fun σ => passAt takes0 σ) (pa_cons (pv 2) (pa_cons (pv 3) pa_nil))) (pe_one (pe_callS G__law_refused (hr.mono (by decide)) (by rfl) T.m__law_refused T.F__law_refused.kp T.b__law_refused (fun σ => passAt takes0 σ) (pa_cons (pv 2) (pa_cons pe_int pa_nil)))))))))))),
    _, run_one (run_assoc (run_setow (i := 1) (nw_callN (pl_cons (pu_var rfl) (pl_cons pu_int pl_nil))) rfl (wk_uns rfl) fun l6 => (run_assoc (run_setow (i := 2) (nw_callN (pl_cons (pu_var rfl) (pl_cons pu_int pl_nil))) rfl (wk_uns rfl) fun l12 => (run_assoc (run_setE (i := 3) (ρs := (fun (s137 : List PV) => [(.fz (PV.fls (List.map PV.int ns))), (.ow (.lst s137)), (.ow (.lst l12)), .un])) (s0 := l6) (ef_callR (i := 1) (sl := (fun (s13 : List PV) => (.ow (.lst s13)))) (get := (fun (s13 : List PV) => MO.lst s13)) (put := (fun (s13 : List PV) (mo : MO) => moL mo >>= fun l => Res.val l)) (fun _ => rfl) (fun _ => Or.inl rfl) (fun s mo s' h => by cases mo <;> first | (cases h; rfl) | cases h) (el_cons (ef_pure (W := (fun _ _ _ _ => False)) fun s14 => pu_int) (el_cons (ef_pure (W := (fun _ _ _ _ => False)) fun s16 => pu_int) el_nil))) rfl (fun _ => rfl) fun x28 s29 => (run_assoc (run_ifE (ρs := (fun (s90 : List PV × List PV) => [(.fz (PV.fls (List.map PV.int ns))), (.ow (.lst s90.1)), (.ow (.lst s90.2)), (.fz x28)])) (s0 := (s29, l12)) (et_or (et_not (et_val (ef_callR (i := 1) (sl := (fun (s76 : List PV × List PV) => (.ow (.lst s76.1)))) (get := (fun (s76 : List PV × List PV) => MO.lst s76.1)) (put := (fun (s76 : List PV × List PV) (mo : MO) => moL mo >>= fun l => Res.val (l, s76.2))) (fun _ => rfl) (fun _ => Or.inl rfl) (fun s mo s' h => by cases mo <;> first | (cases h; rfl) | cases h) (el_cons (ef_pure (W := (fun _ _ _ _ => False)) fun s77 => (pu_var rfl)) el_nil)))) (et_not (et_val (ef_callR (i := 2) (sl := (fun (s40 : List PV × List PV) => (.ow (.lst s40.2)))) (get := (fun (s40 : List PV × List PV) => MO.lst s40.2)) (put := (fun (s40 : List PV × List PV) (mo : MO) => moL mo >>= fun l => Res.val (s40.1, l))) (fun _ => rfl) (fun _ => Or.inl rfl) (fun s mo s' h => by cases mo <;> first | (cases h; rfl) | cases h) (el_cons (ef_op o2_ix (ef_pure (W := (fun _ _ _ _ => False)) fun s42 => (pu_lst (pl_cons pu_int (pl_cons pu_int (pl_cons pu_int pl_nil))))) (ef_callR (i := 2) (sl := (fun (s50 : List PV × List PV) => (.ow (.lst s50.2)))) (get := (fun (s50 : List PV × List PV) => MO.lst s50.2)) (put := (fun (s50 : List PV × List PV) (mo : MO) => moL mo >>= fun l => Res.val (s50.1, l))) (fun _ => rfl) (fun _ => Or.inl rfl) (fun s mo s' h => by cases mo <;> first | (cases h; rfl) | cases h) (el_cons (ef_pure (W := (fun _ _ _ _ => False)) fun s51 => pu_int) el_nil))) el_nil))))) rfl (fun s89 => (run_ret pu_bl rfl rfl (wk_uns rfl))) (fun s89 => (run_skip (run_assoc (run_if (ts_or (ts_not (ts_val (Pur.vw (pu_call2 (pu_call2 (pu_tup pl_nil) (pu_var rfl)) (pu_tup (pl_cons pu_str (pl_cons (pu_tup pl_nil) pl_nil))))))) (ts_not (ts_val (Pur.vw (pu_call2 (pu_call3 (pu_tup pl_nil) pu_int (pu_var rfl)) pu_int))))) (wk_uns rfl) (run_ret pu_bl rfl rfl (wk_uns rfl)) (run_skip (run_retE (ρs := (fun (s136 : List PV) => [(.fz (PV.fls (List.map PV.int ns))), (.ow (.lst s89.1)), (.ow (.lst s136)), (.fz x28)])) (s0 := s89.2) (r := fun (s135 : List PV) => []) (ef_andV (ef_callR (i := 2) (sl := (fun (s121 : List PV) => (.ow (.lst s121)))) (get := (fun (s121 : List PV) => MO.lst s121)) (put := (fun (s121 : List PV) (mo : MO) => moL mo >>= fun l => Res.val l)) (fun _ => rfl) (fun _ => Or.inl rfl) (fun s mo s' h => by cases mo <;> first | (cases h; rfl) | cases h) (el_cons (ef_pure (W := (fun _ _ _ _ => False)) fun s122 => (pu_var rfl)) el_nil)) (ef_callR (i := 2) (sl := (fun (s111 : List PV) => (.ow (.lst s111)))) (get := (fun (s111 : List PV) => MO.lst s111)) (put := (fun (s111 : List PV) (mo : MO) => moL mo >>= fun l => Res.val l)) (fun _ => rfl) (fun _ => Or.inl rfl) (fun s mo s' h => by cases mo <;> first | (cases h; rfl) | cases h) (el_cons (ef_pure (W := (fun _ _ _ _ => False)) fun s112 => pu_int) el_nil))) rfl (fun _ => rfl) (fun _ => rfl))))))))))))))), rfl⟩
end
/-! ### reckoning with mirrors -/
section
variable {S L S1 : Type}
@[simp] theorem retF_rt {v : PV} {r : List MO} : retF (.val (.rt v r)) = .val v := rfl
@[simp] theorem retF_nx : retF (.val (.nx ())) = .val .non := rfl
@[simp] theorem retF_exc {c : Str} : retF (.exc c) = .exc c := rfl
@[simp] theorem retR_rt {v : PV} {mo : MO} : retR (.val (.rt v [mo])) = .val (v, mo) := rfl
@[simp] theorem retR_nx {mo : MO} : retR (.val (.nx mo)) = .val (.non, mo) := rfl
@[simp] theorem retN_ro {mo : MO} {r : List MO} : retN (.val (.ro mo r)) = .val mo := rfl
@[simp] theorem seqF_nx {s : S1} {n : S1 → Res (Fl S L)} : seqF (.val (.nx s)) n = n s := rfl
@[simp] theorem seqF_rt {v : PV} {r : List MO} {n : S1 → Res (Fl S L)} : seqF (.val (.rt v r)) n = .val (.rt v r) := rfl
@[simp] theorem seqF_exc {c : Str} {n : S1 → Res (Fl S L)} : seqF (.exc c) n = .exc c := rfl
@[simp] theorem noX_val {α : Type} {a : α} : noX (.val a) = .val a := rfl
@[simp] theorem asB_bl {b : Bool} : asB (.bl b) = .val b := rfl
@[simp] theorem asSq_tup {l : List PV} : asSq (.tup l) = .val l := rfl
@[simp] theorem asSq_lst {l : List PV} : asSq (.lst l) = .val l := rfl
@[simp] theorem asSq_fls {l : List PV} : asSq (.fls l) = .val l := rfl
@[simp] theorem asLi_lst {l : List PV} : asLi (.lst l) = .val l := rfl
@[simp] theorem asTu_tup {l : List PV} : asTu (.tup l) = .val l := rfl
@[simp] theorem partP_int {i : Int} : partP (.int i) = .val i := rfl
@[simp] theorem moL_lst {l : List PV} : moL (.lst l) = .val l := rfl
@[simp] theorem moD_dct {l : List (Key × PV)} : moD (.dct l) = .val l := rfl
@[simp] theorem addP_int {a b : Int} : addP (.int a) (.int b) = .val (.int (a + b)) := rfl
@[simp] theorem subP_int {a b : Int} : subP (.int a) (.int b) = .val (.int (a - b)) := rfl
@[simp] theorem negP_int {a : Int} : negP (.int a) = .val (.int (-a)) := rfl
@[simp] theorem ltP_int {a b : Int} : ltP (.int a) (.int b) = .val (.bl (decide (a < b))) := rfl
@[simp] theorem leP_int {a b : Int} : leP (.int a) (.int b) = .val (.bl (decide (a ≤ b))) := rfl
@[simp] theorem gtP_int {a b : Int} : gtP (.int a) (.int b) = .val (.bl (decide (b < a))) := rfl
@[simp] theorem geP_int {a b : Int} : geP (.int a) (.int b) = .val (.bl (decide (b ≤ a))) := rfl
@[simp] theorem intP_int {a : Int} : intP (.int a) = .val (.int a) := rfl
@[simp] theorem intP_bl {b : Bool} : intP (.bl b) = .val (.int (if b then 1 else 0)) := rfl
@[simp] theorem listP_sq {l : List PV} : listP (.tup l) = .val (.lst l) := rfl
@[simp] theorem listP_lst {l : List PV} : listP (.lst l) = .val (.lst l) := rfl
@[simp] theorem listP_fls {l : List PV} : listP (.fls l) = .val (.lst l) := rfl
@[simp] theorem tupleP_lst {l : List PV} : tupleP (.lst l) = .val (.tup l) := rfl
@[simp] theorem tupleP_tup {l : List PV} : tupleP (.tup l) = .val (.tup l) := rfl
@[simp] theorem lenP_tup {l : List PV} : lenP (.tup l) = .val (.int l.length) := rfl
@[simp] theorem lenP_lst {l : List PV} : lenP (.lst l) = .val (.int l.length) := rfl
@[simp] theorem lenP_fls {l : List PV} : lenP (.fls l) = .val (.int l.length) := rfl
@[simp] theorem isP_non {p : PV} : isP p .non = .val (.bl (isNo p)) := rfl
@[simp] theorem isnP_non {p : PV} : isnP p .non = .val (.bl (!isNo p)) := rfl
@[simp] theorem ap1_one {f : PV → Res PV} {a : PV} : ap1 f [a] = f a := rfl
@[simp] theorem ap2_two {f : PV → PV → Res PV} {a b : PV} : ap2 f [a, b] = f a b := rfl
@[simp] theorem ap3_three {f : PV → PV → PV → Res PV} {a b c : PV} : ap3 f [a, b, c] = f a b c := rfl
@[simp] theorem ap4_four {f : PV → PV → PV → PV → Res PV} {a b c d : PV} : ap4 f [a, b, c, d] = f a b c d := rfl
@[simp] theorem ap5_five {f : PV → PV → PV → PV → PV → Res PV} {a b c d e : PV} : ap5 f [a, b, c, d, e] = f a b c d e := rfl
@[simp] theorem apR0_z {f : MO → Res (PV × MO)} {mo : MO} : apR0 f mo [] = f mo := rfl
@[simp] theorem apR1_o {f : MO → PV → Res (PV × MO)} {mo : MO} {a : PV} : apR1 f mo [a] = f mo a := rfl
@[simp] theorem apR2_t {f : MO → PV → PV → Res (PV × MO)} {mo : MO} {a b : PV} : apR2 f mo [a, b] = f mo a b := rfl
@[simp] theorem apR3_t {f : MO → PV → PV → PV → Res (PV × MO)} {mo : MO} {a b c : PV} : apR3 f mo [a, b, c] = f mo a b c := rfl
@[simp] theorem apN1_o {f : PV → Res MO} {a : PV} : apN1 f [a] = f a := rfl
@[simp] theorem apN2_t {f : PV → PV → Res MO} {a b : PV} : apN2 f [a, b] = f a b := rfl
theorem sized_ok {n : Nat} (h : n ≤ sizeLine) : sized n = .val () := if_pos h
theorem sized_small {n : Nat} (h : n ≤ 10000000) : sized n = .val () := if_pos (Nat.le_trans h (by unfold sizeLine; decide))
theorem mkT_ok {l : List PV} (h : l.length ≤ 10000000) : mkT l = .val (.tup l) := by unfold mkT; rw [sized_small h]; rfl
theorem mkL_ok {l : List PV} (h : l.length ≤ 10000000) : mkL l = .val (.lst l) := by unfold mkL; rw [sized_small h]; rfl
theorem mkN_ok {l : List PV} (h : l.length ≤ 10000000) : mkN l = .val l := by unfold mkN; rw [sized_small h]; rfl
theorem mulI_int {a b : Int} (h : CMul a b) : mulI (.int a) (.int b) = .val (.int (a * b)) := by
  unfold mulI orS ints2
  simp only [if_pos h]
theorem mulP_int {a b : Int} (h : CMul a b) : mulP (.int a) (.int b) = .val (.int (a * b)) := by
  unfold mulP orS
  rw [mulI_int h]
theorem mulP_intW {a b : Int} (h : CMulW a b) : mulP (.int a) (.int b) = .val (.int (a * b)) := by
  by_cases c : CMul a b
  · exact mulP_int c
  · unfold mulP mulI orS ints2
    simp only [if_neg c, if_pos h]
theorem mulP_l {a b : Int} (h1 : -(2 ^ 64) < a) (h2 : a < 2 ^ 64) : mulP (.int a) (.int b) = .val (.int (a * b)) := mulP_int (.inl ⟨h1, h2⟩)
theorem mulP_r {a b : Int} (h1 : -(2 ^ 64) < b) (h2 : b < 2 ^ 64) : mulP (.int a) (.int b) = .val (.int (a * b)) := mulP_int (.inr ⟨h1, h2⟩)
theorem mulPT_l {a b : Int} (h1 : -(2 ^ 64) < a) (h2 : a < 2 ^ 64) : mulPT (.int a) (.int b) = .val (.int (a * b)) := by unfold mulPT orS; rw [mulP_l h1 h2]
theorem modP_int {a b : Int} (h : b ≠ 0) : modP (.int a) (.int b) = .val (.int (a.fmod b)) := if_pos h
theorem modP_pos {a b : Int} (h : 0 < b) : modP (.int a) (.int b) = .val (.int (a % b)) := by
  rw [modP_int (by omega), Int.fmod_eq_emod_of_nonneg a (by omega)]
theorem fdivP_pos {a b : Int} (h : 0 < b) (h2 : b < 10000000000000000000000000000000000000000000000000000000000000000000000) : fdivP (.int a) (.int b) = .val (.int (a / b)) := by
  unfold fdivP orS ints2
  by_cases c : CDivN a b
  · simp only [if_pos c]
    rw [Int.fdiv_eq_ediv_of_nonneg a (by omega)]
  · have c2 : CDivW a b := ⟨h, Nat.lt_of_lt_of_le ((Nat.log2_lt (k := 250) (by omega)).mpr (Nat.lt_of_lt_of_le (show b.natAbs < 10000000000000000000000000000000000000000000000000000000000000000000000 by omega) (by decide))) (by decide)⟩
    simp only [if_neg c, if_pos c2]
theorem powP_int {a b : Int} (h : CPow a b) : powP (.int a) (.int b) = .val (.int (a ^ b.toNat)) := if_pos h
theorem shlP_int {a b : Int} (h : CPow a b) : shlP (.int a) (.int b) = .val (.int (a * 2 ^ b.toNat)) := if_pos h
theorem shrP_int {a b : Int} (h : 0 ≤ b) : shrP (.int a) (.int b) = .val (.int (a / 2 ^ b.toNat)) := if_pos h
theorem ixP_tup {l : List PV} {i : Nat} {p : PV} (h : l[i]? = some p) : ixP (.tup l) (.int (i : Nat)) = .val p := by
  unfold ixP
  have : atI l ((i : Nat) : Int) = some p := atI_nat h
  simp only [this]
theorem ixP_lst {l : List PV} {i : Nat} {p : PV} (h : l[i]? = some p) : ixP (.lst l) (.int (i : Nat)) = .val p := by
  unfold ixP
  have : atI l ((i : Nat) : Int) = some p := atI_nat h
  simp only [this]
theorem rng1_ok {j : Int} (h : 0 ≤ j) (h2 : j < 2 ^ 62) : rng1 (.int j) = .val (rngP 0 j) := if_pos ⟨by omega, h2⟩
theorem rng2_ok {i j : Int} (h : -(2 ^ 62) ≤ i ∧ i < 2 ^ 62 ∧ -(2 ^ 62) ≤ j ∧ j < 2 ^ 62) : rng2 (.int i) (.int j) = .val (rngP i j) := if_pos h
theorem sumPT_ints {is : List Int} : sumPT (.tup (is.map PV.int)) = .val (.int is.sum) := by
  unfold sumPT
  rw [asSq_tup, bind_val, allI_map]
theorem sumPT_lints {is : List Int} : sumPT (.lst (is.map PV.int)) = .val (.int is.sum) := by
  unfold sumPT
  rw [asSq_lst, bind_val, allI_map]
theorem allP_bls {bs : List Bool} : allP (.lst (bs.map PV.bl)) = .val (.bl (bs.all id)) := by
  unfold allP
  rw [asLi_lst, bind_val, allB_map]
theorem anyP_bls {bs : List Bool} : anyP (.lst (bs.map PV.bl)) = .val (.bl (bs.any id)) := by
  unfold anyP
  rw [asLi_lst, bind_val, allB_map]
/-! loops -/
theorem whileF_iter {c : S → Res Bool} {b : S → Res (Fl S S)} (f : Nat → S) (j : Nat) (hc : ∀ i, i < j → c (f i) = .val true) (hb : ∀ i, i < j → b (f i) = .val (.nx (f (i + 1)))) (he : c (f j) = .val false) : ∀ (n i : Nat), i ≤ j → j - i < n → whileF (L := L) c b n (f i) = .val (.nx (f j))
  | 0, i, _, h => by omega
  | n + 1, i, hi, h => by
    unfold whileF
    by_cases e : i = j
    · subst e
      rw [he]
      rfl
    · have hlt : i < j := by omega
      rw [hc i hlt, bind_val, if_pos rfl, hb i hlt]
      exact whileF_iter f j hc hb he n (i + 1) (by omega) (by omega)
theorem forF_iter {body : PV → S → Res (Fl S S)} : ∀ (ps : List PV) (f : Nat → S), (∀ i p, ps[i]? = some p → body p (f i) = .val (.nx (f (i + 1)))) → forF (L := L) body ps (f 0) = .val (.nx (f ps.length))
  | [], f, _ => rfl
  | p :: ps, f, h => by
    unfold forF
    rw [h 0 p rfl]
    exact forF_iter ps (fun i => f (i + 1)) fun i q hq => h (i + 1) q (by simpa using hq)
theorem forF_rng {body : PV → S → Res (Fl S S)} {lo hi : Int} (f : Nat → S) (h : ∀ i : Nat, i < (hi - lo).toNat → body (.int (lo + (i : Nat))) (f i) = .val (.nx (f (i + 1)))) : forF (L := L) body (rngP lo hi) (f 0) = .val (.nx (f (hi - lo).toNat)) := by
  have := forF_iter (L := L) (body := body) (rngP lo hi) f fun i p hp => by
    obtain ⟨h1, rfl⟩ := rng_get hp
    exact h i h1
  rw [rng_len] at this
  exact this
theorem lcF_val {c : PV → Res Bool} {e : PV → Res PV} {g : PV → PV} : ∀ {ps : List PV}, (∀ p, p ∈ ps → c p = .val true) → (∀ p, p ∈ ps → e p = .val (g p)) → lcF (fun x => Res.val x) c e ps = .val (ps.map g)
  | [], _, _ => rfl
  | p :: ps, hc, he => by
    unfold lcF
    rw [noX_val, bind_val, hc p List.mem_cons_self, noX_val, bind_val, if_pos rfl, he p List.mem_cons_self, noX_val, bind_val, lcF_val (fun q hq => hc q (List.mem_cons_of_mem _ hq)) (fun q hq => he q (List.mem_cons_of_mem _ hq))]
    rfl
theorem lcF_rng {e : PV → Res PV} {lo hi : Int} (g : Nat → PV) (h : ∀ i : Nat, i < (hi - lo).toNat → e (.int (lo + (i : Nat))) = .val (g i)) : lcF (fun x => Res.val x) (fun _ => Res.val true) e (rngP lo hi) = .val ((List.range (hi - lo).toNat).map g) := by
  have key : ∀ (l : List Nat), (∀ i, i ∈ l → i < (hi - lo).toNat) → lcF (fun x => Res.val x) (fun _ => Res.val true) e (l.map fun i => PV.int (lo + (i : Nat))) = .val (l.map g) := by
    intro l
    induction l with
    | nil => intro _; rfl
    | cons i l ih =>
      intro hl
      rw [List.map_cons]
      unfold lcF
      rw [noX_val, bind_val, noX_val, bind_val, if_pos rfl, h i (hl i List.mem_cons_self), noX_val, bind_val, ih fun j hj => hl j (List.mem_cons_of_mem _ hj)]
      rfl
  exact key _ fun i hi => List.mem_range.mp hi
/-- with a condition -/
theorem lcF_filter {c : PV → Res Bool} {e : PV → Res PV} {k : PV → Bool} {g : PV → PV} : ∀ {ps : List PV}, (∀ p, p ∈ ps → c p = .val (k p)) → (∀ p, p ∈ ps → k p = true → e p = .val (g p)) → lcF (fun x => Res.val x) c e ps = .val ((ps.filter k).map g)
  | [], _, _ => rfl
  | p :: ps, hc, he => by
    have ih := lcF_filter (ps := ps) (fun q hq => hc q (List.mem_cons_of_mem _ hq)) (fun q hq => he q (List.mem_cons_of_mem _ hq))
    unfold lcF
    rw [noX_val, bind_val, hc p List.mem_cons_self, noX_val, bind_val]
    cases hk : k p with
    | true =>
      rw [if_pos rfl, he p List.mem_cons_self hk, noX_val, bind_val, ih, List.filter_cons_of_pos hk]
      rfl
    | false =>
      rw [if_neg (by decide), ih, List.filter_cons_of_neg (by rw [hk]; decide)]
theorem lc_rng1 {e : PV → Res PV} {n : Nat} (g : Nat → PV) (hn : n ≤ 10000000) (h : ∀ i : Nat, i < n → e (.int (i : Nat)) = .val (g i)) : (rng1 (.int (n : Nat)) >>= fun ps => sized ps.length >>= fun _ => lcF (fun x => Res.val x) (fun _ => Res.val true) e ps) = .val ((List.range n).map g) := by
  have e1 : (((n : Nat) : Int) - 0).toNat = n := by omega
  rw [rng1_ok (by omega) (by omega), bind_val, rng_len, sized_small (by omega), bind_val, lcF_rng (lo := 0) (hi := (n : Nat)) g fun i hi => by rw [Int.zero_add]; exact h i (by omega), e1]
theorem forF_rng1 {S L : Type} {body : PV → S → Res (Fl S S)} {n : Nat} (f : Nat → S) (hn : n ≤ 10000000) (h : ∀ i : Nat, i < n → body (.int (i : Nat)) (f i) = .val (.nx (f (i + 1)))) : (rng1 (.int (n : Nat)) >>= fun ps => forF (L := L) body ps (f 0)) = .val (.nx (f n)) := by
  have e1 : (((n : Nat) : Int) - 0).toNat = n := by omega
  rw [rng1_ok (by omega) (by omega), bind_val, forF_rng (L := L) (lo := 0) (hi := (n : Nat)) f fun i hi => by rw [Int.zero_add]; exact h i (by omega), e1]
theorem shlP_nat {a : Int} {n : Nat} (h : CPow a (n : Int)) : shlP (.int a) (.int n) = .val (.int (a * 2 ^ n)) := by
  rw [shlP_int h]; rfl
theorem shrP_nat {a n : Nat} : shrP (.int a) (.int n) = .val (.int ((a / 2 ^ n : Nat) : Int)) := by
  rw [shrP_int (by omega)]
  simp
theorem modP_nat {a b : Nat} (h : 0 < b) : modP (.int a) (.int b) = .val (.int ((a % b : Nat) : Int)) := by
  rw [modP_pos (by omega)]; rfl
end
/-! ### more of reckoning -/
theorem eqB_int {a b : Int} : eqB (.int a) (.int b) = some (decide (a = b)) := by
  show (if SeqAt.shaped (.int a) = true ∧ SeqAt.shaped (.int b) = true then some (PyData.eqv (.int a) (.int b)) else none) = _
  rw [if_pos ⟨rfl, rfl⟩]
  unfold PyData.eqv
  rfl
theorem eqB_bl {a b : Bool} : eqB (.bl a) (.bl b) = some (decide (a = b)) := by
  show (if SeqAt.shaped (.bool a) = true ∧ SeqAt.shaped (.bool b) = true then some (PyData.eqv (.bool a) (.bool b)) else none) = _
  rw [if_pos ⟨rfl, rfl⟩]
  unfold PyData.eqv
  cases a <;> cases b <;> rfl
theorem eqB_str {a b : Str} (h : SeqAt.shaped (.str a) = true) (h2 : SeqAt.shaped (.str b) = true) : eqB (.str a) (.str b) = some (decide (a = b)) := by
  show (if SeqAt.shaped (.str a) = true ∧ SeqAt.shaped (.str b) = true then some (PyData.eqv (.str a) (.str b)) else none) = _
  rw [if_pos ⟨h, h2⟩]
  unfold PyData.eqv
  rfl
theorem eqP_int {a b : Int} : eqP (.int a) (.int b) = .val (.bl (decide (a = b))) := by unfold eqP; rw [eqB_int]
theorem neP_int {a b : Int} : neP (.int a) (.int b) = .val (.bl (!decide (a = b))) := by unfold neP; rw [eqB_int]
theorem eqP_bl {a b : Bool} : eqP (.bl a) (.bl b) = .val (.bl (decide (a = b))) := by unfold eqP; rw [eqB_bl]
theorem neP_bl {a b : Bool} : neP (.bl a) (.bl b) = .val (.bl (!decide (a = b))) := by unfold neP; rw [eqB_bl]
theorem eqP_str {a b : Str} (h : SeqAt.shaped (.str a) = true) (h2 : SeqAt.shaped (.str b) = true) : eqP (.str a) (.str b) = .val (.bl (decide (a = b))) := by unfold eqP; rw [eqB_str h h2]
theorem neP_str {a b : Str} (h : SeqAt.shaped (.str a) = true) (h2 : SeqAt.shaped (.str b) = true) : neP (.str a) (.str b) = .val (.bl (!decide (a = b))) := by unfold neP; rw [eqB_str h h2]
theorem exc_bind {α β : Type} {c : Str} {f : α → Res β} : (Res.exc c >>= f) = Res.exc c := rfl
theorem addP_tups {a b : List PV} (h : a.length + b.length ≤ 10000000) : addP (.tup a) (.tup b) = .val (.tup (a ++ b)) := by
  unfold addP orS ints2 catS catL catT
  simp only
  rw [if_pos (by exact Nat.le_trans h (by unfold sizeLine; decide))]
theorem addP_lsts {a b : List PV} (h : a.length + b.length ≤ 10000000) : addP (.lst a) (.lst b) = .val (.lst (a ++ b)) := by
  unfold addP orS ints2 catS catL
  simp only
  rw [if_pos (by exact Nat.le_trans h (by unfold sizeLine; decide))]
theorem fdivP_nat {a b : Nat} (h : 0 < b) (h2 : b < 10000000000000000000000000000000000000000000000000000000000000000000000) : fdivP (.int a) (.int b) = .val (.int ((a / b : Nat) : Int)) := by
  rw [fdivP_pos (by omega) (by omega)]; rfl
theorem forF_unit {L : Type} {body : PV → Unit → Res (Fl Unit Unit)} : ∀ {ps : List PV}, (∀ p, p ∈ ps → body p () = .val (.nx ())) → forF (L := L) body ps () = .val (.nx ())
  | [], _ => rfl
  | p :: ps, h => by
    unfold forF
    rw [h p List.mem_cons_self]
    exact forF_unit fun q hq => h q (List.mem_cons_of_mem _ hq)
theorem ixP_ints {l : List Int} {k : Nat} (h : k < l.length) : ixP (.tup (l.map PV.int)) (.int (k : Nat)) = .val (.int (l.getD k 0)) := ixP_tup (by
  rw [List.getElem?_map, List.getElem?_eq_getElem h, List.getD_eq_getElem?_getD, List.getElem?_eq_getElem h]; rfl)
theorem modP_ex {x b : Int} (h : 0 < b) : ∃ r, modP (.int x) (.int b) = .val (.int r) ∧ 0 ≤ r ∧ r < b := ⟨x % b, modP_pos h, Int.emod_nonneg _ (by omega), Int.emod_lt_of_pos _ h⟩

/-! ### lists of numbers -/
def PN (l : List Nat) : List PV := l.map fun n => PV.int (n : Nat)
theorem PN_len {l : List Nat} : (PN l).length = l.length := List.length_map ..
theorem PN_get {l : List Nat} {i n : Nat} (h : l[i]? = some n) : (PN l)[i]? = some (PV.int (n : Nat)) := by
  unfold PN
  rw [List.getElem?_map, h]
  rfl
theorem rngP_nat {lo hi : Nat} : rngP (lo : Nat) (hi : Nat) = PN (List.range' lo (hi - lo)) := by
  unfold rngP PN
  rw [List.range'_eq_map_range, List.map_map, show ((hi : Int) - (lo : Int)).toNat = hi - lo by omega]
  rfl
theorem rngP_0 {hi : Nat} : rngP 0 (hi : Nat) = PN (List.range hi) := by
  unfold rngP PN
  rw [show ((hi : Int) - 0).toNat = hi by omega]
  refine List.map_congr_left fun i _ => ?_
  rw [Int.zero_add]
theorem lcN {c : PV → Res Bool} {e : PV → Res PV} {k : Nat → Bool} {g : Nat → PV} : ∀ {l : List Nat}, (∀ n, n ∈ l → c (.int (n : Nat)) = .val (k n)) → (∀ n, n ∈ l → k n = true → e (.int (n : Nat)) = .val (g n)) → lcF (fun x => Res.val x) c e (PN l) = .val ((l.filter k).map g)
  | [], _, _ => rfl
  | n :: l, hc, he => by
    have ih := lcN (l := l) (fun q hq => hc q (List.mem_cons_of_mem _ hq)) (fun q hq => he q (List.mem_cons_of_mem _ hq))
    have ih' : lcF (fun x => Res.val x) c e (l.map fun n => PV.int (n : Nat)) = .val ((l.filter k).map g) := ih
    unfold PN
    rw [List.map_cons]
    unfold lcF
    rw [noX_val, bind_val, hc n List.mem_cons_self, noX_val, bind_val]
    cases hk : k n with
    | true =>
      rw [if_pos rfl, he n List.mem_cons_self hk, noX_val, bind_val, ih', List.filter_cons_of_pos hk]
      rfl
    | false =>
      rw [if_neg (by decide), ih', List.filter_cons_of_neg (by rw [hk]; decide)]
theorem ixT {l : List Nat} {i : Nat} (h : i < l.length) : ixP (.tup (PN l)) (.int (i : Nat)) = .val (.int ((l.getD i 0 : Nat) : Int)) := ixP_tup (by
  rw [PN_get (List.getElem?_eq_getElem h), List.getD_eq_getElem?_getD, List.getElem?_eq_getElem h]; rfl)
theorem ixL {l : List Nat} {i : Nat} (h : i < l.length) : ixP (.lst (PN l)) (.int (i : Nat)) = .val (.int ((l.getD i 0 : Nat) : Int)) := ixP_lst (by
  rw [PN_get (List.getElem?_eq_getElem h), List.getD_eq_getElem?_getD, List.getElem?_eq_getElem h]; rfl)
theorem ixLast {l : List PV} {x : PV} : ixP (.lst (l ++ [x])) (.int (-1)) = .val x := by
  unfold ixP
  have : atI (l ++ [x]) (-1) = some x := by
    have e : ixN (l.length + 1) (-1) = some l.length := by
      unfold ixN
      rw [if_neg (by decide), if_pos (by omega)]
      congr 1
      omega
    unfold atI
    rw [List.length_append, List.length_singleton, e]
    simp
  simp only [this]
theorem sized_lt {n : Nat} (h : n ≤ 10000000) : sized n = .val () := sized_small h
theorem rng2_nat {a b : Nat} (ha : a < 2 ^ 62) (hb : b < 2 ^ 62) : rng2 (.int (a : Nat)) (.int (b : Nat)) = .val (PN (List.range' a (b - a))) := by
  rw [rng2_ok ⟨by omega, by omega, by omega, by omega⟩, rngP_nat]
theorem rng1_nat {a : Nat} (ha : a < 2 ^ 62) : rng1 (.int (a : Nat)) = .val (PN (List.range a)) := by
  rw [rng1_ok (by omega) (by omega), rngP_0]
/-- enumerate, from k on -/
def enumF : Nat → List PV → List PV
  | _, [] => []
  | k, x :: r => .tup [.int (k : Nat), x] :: enumF (k + 1) r
theorem enumP_F (ps : List PV) : enumP ps = enumF 0 ps := by
  have key : ∀ (ps : List PV) (k : Nat), (List.range' k ps.length).zipWith (fun (i : Nat) p => PV.tup [.int i, p]) ps = enumF k ps := by
    intro ps
    induction ps with
    | nil => intro k; rfl
    | cons x r ih =>
      intro k
      rw [List.length_cons, List.range'_succ, List.zipWith_cons_cons, ih (k + 1)]
      rfl
  unfold enumP
  rw [List.range_eq_range', key]
theorem enumF_len : ∀ (ps : List PV) (k : Nat), (enumF k ps).length = ps.length
  | [], _ => rfl
  | _ :: r, k => congrArg (· + 1) (enumF_len r (k + 1))
/-- the dictionary of the places of numbers, from k on -/
def DX : Nat → List Nat → List (Key × PV)
  | _, [] => []
  | k, x :: r => (.inl (x : Nat), .int (k : Nat)) :: DX (k + 1) r
theorem DX_none {x : Int} : ∀ {l : List Nat} {k : Nat}, (∀ n : Nat, n ∈ l → (n : Int) ≠ x) → valP (DX k l) (.inl x) = none
  | [], _, _ => rfl
  | n :: r, k, h => by
    have ih := DX_none (x := x) (l := r) (k := k + 1) fun m hm => h m (List.mem_cons_of_mem _ hm)
    unfold valP at ih ⊢
    have hn : ¬ ((Sum.inl (n : Int) : Key) = .inl x) := fun z => h n List.mem_cons_self (Sum.inl.inj z)
    show Option.map _ (List.find? _ ((.inl (n : Int), .int (k : Nat)) :: DX (k + 1) r)) = none
    rw [List.find?_cons_of_neg (by simpa using hn)]
    exact ih
theorem DX_get {x : Nat} : ∀ {l : List Nat} {k i : Nat}, l.Nodup → l[i]? = some x → valP (DX k l) (.inl (x : Nat)) = some (.int ((k + i : Nat) : Int))
  | [], _, _, _, h => by cases h
  | n :: r, k, 0, _, h => by
    cases h
    show Option.map _ (List.find? _ ((.inl (x : Int), .int (k : Nat)) :: DX (k + 1) r)) = _
    rw [List.find?_cons_of_pos (by simp)]
    rfl
  | n :: r, k, i + 1, nd, h => by
    obtain ⟨n1, n2⟩ := List.nodup_cons.mp nd
    have h' : r[i]? = some x := h
    have ih := DX_get (l := r) (k := k + 1) (i := i) n2 h'
    have hx : x ∈ r := List.mem_of_getElem? h'
    have hn : ¬ ((Sum.inl (n : Int) : Key) = .inl (x : Nat)) := fun z => n1 (by
      have : n = x := by have := Sum.inl.inj z; omega
      rw [this]; exact hx)
    unfold valP at ih ⊢
    show Option.map _ (List.find? _ ((.inl (n : Int), .int (k : Nat)) :: DX (k + 1) r)) = _
    rw [List.find?_cons_of_neg (by simpa using hn), ih, show k + 1 + i = k + (i + 1) by omega]
theorem putP_new {kvs : List (Key × PV)} {k : Key} {v : PV} (h : valP kvs k = none) : putP kvs k v = kvs ++ [(k, v)] := by
  unfold putP
  rw [if_neg]
  intro z
  obtain ⟨kv, h1, h2⟩ := List.any_eq_true.mp z
  unfold valP at h
  rw [Option.map_eq_none_iff, List.find?_eq_none] at h
  exact h kv h1 h2
theorem valP_app {a b : List (Key × PV)} {k : Key} (h : valP a k = none) : valP (a ++ b) k = valP b k := by
  unfold valP at h ⊢
  rw [Option.map_eq_none_iff] at h
  rw [List.find?_append, h, Option.none_or]
theorem dcX : ∀ (l : List Nat) (k : Nat) (acc : List (Key × PV)), l.Nodup → (∀ n, n ∈ l → valP acc (.inl (n : Nat)) = none) →
    dcF un2 (fun (_ : PV × PV) => (Res.val true)) (fun (a : PV × PV) => (Res.val a.2)) (fun (a : PV × PV) => (Res.val a.1)) (enumF k (PN l)) acc = .val (acc ++ DX k l)
  | [], _, acc, _, _ => by
    show Res.val acc = _
    rw [show DX _ [] = [] from rfl, List.append_nil]
  | n :: r, k, acc, nd, h => by
    obtain ⟨n1, n2⟩ := List.nodup_cons.mp nd
    have hn := h n List.mem_cons_self
    have ih := dcX r (k + 1) (acc ++ [(.inl (n : Nat), .int (k : Nat))]) n2 fun m hm => by
      rw [valP_app (h m (List.mem_cons_of_mem _ hm))]
      have : ¬ ((Sum.inl (n : Int) : Key) = .inl (m : Nat)) := fun z => n1 (by
        have : n = m := by have := Sum.inl.inj z; omega
        rw [this]; exact hm)
      unfold valP
      rw [List.find?_cons_of_neg (by simpa using this)]
      rfl
    show dcF un2 _ _ _ (PV.tup [.int (k : Nat), .int (n : Nat)] :: enumF (k + 1) (PN r)) acc = _
    unfold dcF
    have hu : un2 (PV.tup [.int (k : Nat), .int (n : Nat)]) = .val (.int (k : Nat), .int (n : Nat)) := rfl
    have hk : keyP (.int (n : Nat)) = .val (.inl (n : Nat)) := rfl
    rw [hu, noX_val, bind_val, noX_val, bind_val, if_pos rfl, noX_val, bind_val, hk, bind_val, noX_val, bind_val, putP_new hn, ih, List.append_assoc]
    rfl
theorem PN_ints {l : List Nat} : PN l = (l.map fun n => ((n : Nat) : Int)).map PV.int := by
  unfold PN
  rw [List.map_map]
  rfl
theorem flR_PN {l : List Nat} : flR (.tup (PN l)) = .val (.tup (PN l)) := by
  unfold flR
  rw [PN_ints]
  simp only [allI_map]
theorem apR4_f {f : MO → PV → PV → PV → PV → Res (PV × MO)} {mo : MO} {a b c d : PV} : apR4 f mo [a, b, c, d] = f mo a b c d := rfl

/-! ### still more of reckoning -/
theorem un2_two {a b : PV} : un2 (.tup [a, b]) = .val (a, b) := rfl
theorem tryAs_val {α : Type} {a : α} {hit : Str → Option Bool} {h : Str → Res α} : tryAsF (.val a) hit h = .val a := rfl
theorem tryAs_hit {α : Type} {c : Str} {hit : Str → Option Bool} {h : Str → Res α} (e : hit c = some true) : tryAsF (.exc c) hit h = noX (h c) := by unfold tryAsF; simp only [e]
theorem tryAs_miss {α : Type} {c : Str} {hit : Str → Option Bool} {h : Str → Res α} (e : hit c = some false) : tryAsF (.exc c) hit h = .exc c := by unfold tryAsF; simp only [e]
theorem ixP_t0 {a : PV} {l : List PV} : ixP (.tup (a :: l)) (.int 0) = .val a := ixP_tup (i := 0) rfl
theorem ixP_t1 {a b : PV} {l : List PV} : ixP (.tup (a :: b :: l)) (.int 1) = .val b := ixP_tup (i := 1) rfl
theorem forF_c {S L : Type} {body : PV → S → Res (Fl S S)} {x : PV} {xs : List PV} {s : S} : forF (L := L) body (x :: xs) s = body x s >>= fun f => match f with
    | .nx s' => forF body xs s'
    | .ct s' => forF body xs s'
    | .bk s' => .val (.nx s')
    | .rt v r => .val (.rt v r)
    | .ro mo r => .val (.ro mo r) := rfl
theorem forF_n {S L : Type} {body : PV → S → Res (Fl S S)} {s : S} : forF (L := L) body [] s = .val (.nx s) := rfl
theorem forF_invM {S L : Type} {body : PV → S → Res (Fl S S)} {I : S → Prop} : ∀ {ps : List PV} {s : S}, I s → (∀ p, p ∈ ps → ∀ s, I s → ∃ s', body p s = .val (.nx s') ∧ I s') → ∃ s', forF (L := L) body ps s = .val (.nx s') ∧ I s'
  | [], s, h, _ => ⟨s, rfl, h⟩
  | p :: ps, s, h, hb => by
    obtain ⟨s1, e, h1⟩ := hb p List.mem_cons_self s h
    obtain ⟨s2, e2, h2⟩ := forF_invM (L := L) h1 fun q hq => hb q (List.mem_cons_of_mem _ hq)
    refine ⟨s2, ?_, h2⟩
    unfold forF
    rw [e]
    exact e2
theorem seqF_inv {S : Type} {body : PV → S → Res (Fl S S)} {I : S → Prop} {ps : List PV} {s : S} {K : S → Res (Fl Unit Empty)} {r : Res PV} (hI : I s) (hb : ∀ p, p ∈ ps → ∀ s, I s → ∃ s', body p s = .val (.nx s') ∧ I s') (k : ∀ s', I s' → retF (K s') = r) : retF (seqF (forF body ps s) K) = r := by
  obtain ⟨s', e, h⟩ := forF_invM hI hb
  rw [e]
  exact k s' h
/-! ### reckoning by q -/
section
variable {q : Nat} [NeZero q]
def zq (q : Nat) [NeZero q] (a : Int) : Fin q := ⟨(a % (q : Int)).toNat, by
  have h0 : 0 < q := Nat.pos_of_ne_zero (NeZero.ne q)
  have h1 := Int.emod_nonneg a (show (q : Int) ≠ 0 by omega)
  have h2 := Int.emod_lt_of_pos a (show (0 : Int) < (q : Int) by omega)
  omega⟩
theorem zq_val (a : Int) : ((zq q a).val : Int) = a % (q : Int) := by
  have h0 : 0 < q := Nat.pos_of_ne_zero (NeZero.ne q)
  have h1 := Int.emod_nonneg a (show (q : Int) ≠ 0 by omega)
  show (((a % (q : Int)).toNat : Nat) : Int) = _
  omega
theorem zq_eq {a b : Int} : zq q a = zq q b ↔ a % (q : Int) = b % (q : Int) := by
  constructor
  · intro h
    rw [← zq_val, ← zq_val, h]
  · intro h
    apply Fin.ext
    have := zq_val (q := q) a
    have := zq_val (q := q) b
    omega
theorem fin_int {x y : Fin q} (h : (x.val : Int) = (y.val : Int)) : x = y := Fin.ext (by omega)
theorem zq_add (a b : Int) : zq q (a + b) = zq q a + zq q b := by
  apply fin_int
  rw [zq_val, Fin.val_add, Int.natCast_emod, Int.natCast_add, zq_val, zq_val, ← Int.add_emod]
theorem zq_mul (a b : Int) : zq q (a * b) = zq q a * zq q b := by
  apply fin_int
  rw [zq_val, Fin.val_mul, Int.natCast_emod, Int.natCast_mul, zq_val, zq_val, ← Int.mul_emod]
theorem zq_zero : zq q 0 = 0 := by
  apply fin_int
  rw [zq_val]
  simp
theorem zq_one (h : 1 < q) : zq q 1 = 1 := by
  apply fin_int
  rw [zq_val]
  have : ((1 : Fin q).val) = 1 % q := rfl
  rw [this, Nat.mod_eq_of_lt h, Int.emod_eq_of_lt (by omega) (by omega)]
  rfl
theorem zq_neg (a : Int) : zq q (-a) = - zq q a := by
  have h : zq q (-a) + zq q a = 0 := by rw [← zq_add, Int.add_left_neg, zq_zero]
  grind
theorem zq_sub (a b : Int) : zq q (a - b) = zq q a - zq q b := by
  rw [Int.sub_eq_add_neg, zq_add, zq_neg]
  grind
theorem zq_mod (a : Int) : zq q (a % (q : Int)) = zq q a := zq_eq.mpr (Int.emod_emod _ _)
theorem zq_q : zq q (q : Int) = 0 := by rw [← zq_zero, zq_eq]; simp
theorem zq_nat {a : Nat} (h : a < q) : (zq q (a : Int)).val = a := by
  have := zq_val (q := q) (a : Int)
  rw [Int.emod_eq_of_lt (by omega) (by omega)] at this
  omega
end
theorem flatsP_PN' : ∀ l : List Nat, flatsP (PN l) = some (l.map fun n : Nat => V.int (n : Nat))
  | [] => rfl
  | n :: l => by
    show ((flatP (.int (n : Nat))).bind fun v => (flatsP (PN l)).map fun vs => v :: vs) = _
    rw [flatsP_PN' l]
    rfl
def memZ' (l : List Nat) (x : Int) : Bool := l.any fun n => (n : Int) == x
theorem inP_nat {neg : Bool} {x : Int} {l : List Nat} {q : PV} (hq : asSq q = .val (PN l)) : inP neg (.int x) q = .val (.bl (if neg then !memZ' l x else memZ' l x)) := by
  unfold inP memZ'
  rw [hq, bind_val, flatsP_PN']
  show Res.val (PV.bl (if neg then !inV (.int x) (l.map fun n : Nat => V.int (n : Nat)) else inV (.int x) (l.map fun n : Nat => V.int (n : Nat)))) = _
  unfold inV
  rw [List.any_map]
  rfl
theorem memZ'_iff {l : List Nat} {x : Int} : memZ' l x = true ↔ ∃ n : Nat, n ∈ l ∧ (n : Int) = x := by
  unfold memZ'
  rw [List.any_eq_true]
  constructor
  · rintro ⟨n, h, e⟩; exact ⟨n, h, eq_of_beq e⟩
  · rintro ⟨n, h, e⟩; exact ⟨n, h, beq_iff_eq.mpr e⟩
theorem memZ'_nat {l : List Nat} {x : Nat} : memZ' l (x : Nat) = decide (x ∈ l) := by
  rw [Bool.eq_iff_iff, memZ'_iff, decide_eq_true_eq]
  constructor
  · rintro ⟨n, h, e⟩; have : n = x := by omega
    subst this; exact h
  · intro h; exact ⟨x, h, rfl⟩
theorem allI_ints : ∀ l : List Int, allI (l.map PV.int) = some l
  | [] => rfl
  | n :: l => by
    show (allI (l.map PV.int)).map (fun is => n :: is) = _
    rw [allI_ints l]
    rfl
theorem maxLP_ints {x : Int} {l : List Int} : maxLP (.lst ((x :: l).map PV.int)) = .val (.int (maxI x l)) := by
  unfold maxLP
  rw [asLi_lst, bind_val, allI_ints]
theorem cutTo {l : List PV} {k : Nat} : cutP l none (some (k : Int)) = l.take k := by
  unfold cutP
  rw [HT.sIx_none, HT.sIx_nat, List.drop_zero, Nat.sub_zero]
  rcases Nat.le_total k l.length with h | h
  · rw [Nat.min_eq_left h]
  · rw [Nat.min_eq_right h, List.take_of_length_le (Nat.le_refl _), List.take_of_length_le h]
theorem cutFrom {l : List PV} {k : Nat} : cutP l (some (k : Int)) none = l.drop k := by
  unfold cutP
  rw [HT.sIx_none, HT.sIx_nat]
  rcases Nat.le_total k l.length with h | h
  · rw [Nat.min_eq_left h, List.take_of_length_le (by rw [List.length_drop]; exact Nat.le_refl _)]
  · rw [Nat.min_eq_right h, Nat.sub_self, List.take_zero, List.drop_eq_nil_of_le h]
theorem cutMid {l : List PV} {i j : Nat} : cutP l (some (i : Int)) (some (j : Int)) = (l.take j).drop i := by
  unfold cutP
  rw [HT.sIx_nat, HT.sIx_nat, List.drop_take]
  rcases Nat.le_total i l.length with h | h
  · rw [Nat.min_eq_left h]
    rcases Nat.le_total j l.length with h2 | h2
    · rw [Nat.min_eq_left h2]
    · rw [Nat.min_eq_right h2, List.take_of_length_le (by rw [List.length_drop]; exact Nat.le_refl _), List.take_of_length_le (by rw [List.length_drop]; omega)]
  · rw [Nat.min_eq_right h, List.drop_eq_nil_of_le h, List.take_nil, List.drop_length, List.take_nil]
theorem slP_to {l : List PV} {k : Nat} : slP (.lst l) none (some (k : Int)) = .val (.lst (l.take k)) := by unfold slP; simp only [cutTo]
theorem slP_from {l : List PV} {k : Nat} : slP (.lst l) (some (k : Int)) none = .val (.lst (l.drop k)) := by unfold slP; simp only [cutFrom]
theorem slP_mid {l : List PV} {i j : Nat} : slP (.lst l) (some (i : Int)) (some (j : Int)) = .val (.lst ((l.take j).drop i)) := by unfold slP; simp only [cutMid]
theorem slT_to {l : List PV} {k : Nat} : slP (.tup l) none (some (k : Int)) = .val (.tup (l.take k)) := by unfold slP; simp only [cutTo]
theorem slT_from {l : List PV} {k : Nat} : slP (.tup l) (some (k : Int)) none = .val (.tup (l.drop k)) := by unfold slP; simp only [cutFrom]
theorem slT_mid {l : List PV} {i j : Nat} : slP (.tup l) (some (i : Int)) (some (j : Int)) = .val (.tup ((l.take j).drop i)) := by unfold slP; simp only [cutMid]

/-! ### loops over lists that are told -/
inductive F2 {α β : Type} (R : α → β → Prop) : List α → List β → Prop
  | nil : F2 R [] []
  | cons {a : α} {b : β} {l : List α} {m : List β} : R a b → F2 R l m → F2 R (a :: l) (b :: m)
theorem F2.len {α β : Type} {R : α → β → Prop} {l : List α} {m : List β} (h : F2 R l m) : l.length = m.length := by
  induction h with
  | nil => rfl
  | cons _ _ ih => rw [List.length_cons, List.length_cons, ih]
theorem F2.imp {α β : Type} {R R' : α → β → Prop} {l : List α} {m : List β} (h : F2 R l m) (f : ∀ a b, R a b → R' a b) : F2 R' l m := by
  induction h with
  | nil => exact .nil
  | cons a _ ih => exact .cons (f _ _ a) ih
theorem F2.right {α β : Type} {R : α → β → Prop} {P : β → Prop} {l : List α} {m : List β} (h : F2 R l m) (f : ∀ a b, R a b → P b) : ∀ b, b ∈ m → P b := by
  induction h with
  | nil => exact fun _ z => nomatch z
  | cons a _ ih =>
    intro b hb
    rcases List.mem_cons.mp hb with e | hb
    · subst e; exact f _ _ a
    · exact ih b hb
theorem forF_fold2 {S L α β : Type} {body : PV → S → Res (Fl S S)} (ea : α → PV) (eb : β → S) (f : β → α → β) (I : β → Prop) : ∀ (l : List α) (b : β), I b → (∀ a, a ∈ l → ∀ b, I b → body (ea a) (eb b) = .val (.nx (eb (f b a))) ∧ I (f b a)) → forF (L := L) body (l.map ea) (eb b) = .val (.nx (eb (l.foldl f b))) ∧ I (l.foldl f b)
  | [], b, hb, _ => ⟨rfl, hb⟩
  | a :: l, b, hb, h => by
    obtain ⟨e, hb'⟩ := h a List.mem_cons_self b hb
    obtain ⟨e2, h2⟩ := forF_fold2 (L := L) ea eb f I l (f b a) hb' fun c hc => h c (List.mem_cons_of_mem _ hc)
    rw [List.map_cons, forF_c, e, bind_val, List.foldl_cons]
    exact ⟨e2, h2⟩
theorem lcFil {α β γ : Type} {d : PV → Res β} {c : β → Res Bool} {e : β → Res PV} (ea : α → PV) (dd : α → β) (k : α → Bool) (g : α → PV) : ∀ (l : List α), (∀ a, a ∈ l → d (ea a) = .val (dd a)) → (∀ a, a ∈ l → c (dd a) = .val (k a)) → (∀ a, a ∈ l → k a = true → e (dd a) = .val (g a)) → lcF d c e (l.map ea) = .val ((l.filter k).map g)
  | [], _, _, _ => rfl
  | a :: l, hd, hc, he => by
    have ih := lcFil (γ := γ) ea dd k g l (fun b hb => hd b (List.mem_cons_of_mem _ hb)) (fun b hb => hc b (List.mem_cons_of_mem _ hb)) (fun b hb => he b (List.mem_cons_of_mem _ hb))
    rw [List.map_cons]
    unfold lcF
    rw [hd a List.mem_cons_self, noX_val, bind_val, hc a List.mem_cons_self, noX_val, bind_val]
    cases hk : k a with
    | true =>
      rw [if_pos rfl, he a List.mem_cons_self hk, noX_val, bind_val, ih, List.filter_cons, hk, if_pos rfl]
      rfl
    | false =>
      rw [if_neg (by decide), ih, List.filter_cons, hk, if_neg (by decide)]
theorem lcMap {α β : Type} {d : PV → Res β} {e : β → Res PV} (ea : α → PV) (dd : α → β) (g : α → PV) (l : List α) (hd : ∀ a, a ∈ l → d (ea a) = .val (dd a)) (he : ∀ a, a ∈ l → e (dd a) = .val (g a)) : lcF d (fun _ => .val true) e (l.map ea) = .val (l.map g) := by
  have := lcFil (γ := Unit) (c := fun _ => .val true) ea dd (fun _ => true) g l hd (fun _ _ => rfl) (fun a ha _ => he a ha)
  rwa [List.filter_eq_self.mpr (fun _ _ => rfl)] at this
theorem lcE_rel {S α β γ : Type} {J : S → Prop} {d : PV → Res α} {e : α → S → Res (PV × S)} (ea : β → PV) (eb : γ → PV) (dd : β → α) (R : β → γ → Prop) : ∀ (l : List β) (s : S), J s → (∀ b, b ∈ l → d (ea b) = .val (dd b)) → (∀ b, b ∈ l → ∀ s, J s → ∃ c s', e (dd b) s = .val (eb c, s') ∧ R b c ∧ J s') →
    ∃ (rs : List γ) (s' : S), lcE d (fun _ s => .val (true, s)) e (l.map ea) s = .val (rs.map eb, s') ∧ F2 R l rs ∧ J s'
  | [], s, hs, _, _ => ⟨[], s, rfl, .nil, hs⟩
  | b :: l, s, hs, hd, he => by
    obtain ⟨c, s1, e1, r1, j1⟩ := he b List.mem_cons_self s hs
    obtain ⟨rs, s2, e2, r2, j2⟩ := lcE_rel ea eb dd R l s1 j1 (fun x hx => hd x (List.mem_cons_of_mem _ hx)) (fun x hx => he x (List.mem_cons_of_mem _ hx))
    refine ⟨c :: rs, s2, ?_, .cons r1 r2, j2⟩
    rw [List.map_cons]
    unfold lcE
    rw [hd b List.mem_cons_self, noX_val, bind_val, bind_val]
    show (if true = true then _ else _) = _
    rw [if_pos rfl, e1, bind_val, e2, bind_val]
    rfl
/-- numbers, any -/
def PZ (l : List Int) : List PV := l.map PV.int
theorem PZ_len {l : List Int} : (PZ l).length = l.length := List.length_map _
theorem zipP_map {α β : Type} (f : α → PV) (g : β → PV) : ∀ (l : List α) (m : List β), zipP (l.map f) (m.map g) = (List.zip l m).map fun p => .tup [f p.1, g p.2]
  | [], _ => rfl
  | _ :: _, [] => rfl
  | a :: l, b :: m => by
    have ih := zipP_map f g l m
    unfold zipP at ih ⊢
    rw [List.map_cons, List.map_cons, List.zipWith_cons_cons, ih]
    rfl
theorem lcE_relX {S α β γ : Type} {J : S → Prop} {d : PV → Res α} {e : α → S → Res (PV × S)} {s : S} {PL : List PV} {X : Res (List PV × S)} (hE : lcE d (fun _ s => .val (true, s)) e PL s = X) (ea : β → PV) (eb : γ → PV) (dd : β → α) (R : β → γ → Prop) (l : List β) (hl : PL = l.map ea) (hs : J s) (hd : ∀ b, b ∈ l → d (ea b) = .val (dd b))
    (he : ∀ b, b ∈ l → ∀ s, J s → ∃ c s', e (dd b) s = .val (eb c, s') ∧ R b c ∧ J s') : ∃ (rs : List γ) (s' : S), X = .val (rs.map eb, s') ∧ F2 R l rs ∧ J s' := by
  subst hl hE
  exact lcE_rel ea eb dd R l s hs hd he
theorem forF_invX {S L : Type} {body : PV → S → Res (Fl S S)} {I : S → Prop} {ps : List PV} {s : S} {X : Res (Fl S L)} (hF : forF body ps s = X) (hI : I s) (hb : ∀ p, p ∈ ps → ∀ s, I s → ∃ s', body p s = .val (.nx s') ∧ I s') : ∃ s', X = .val (.nx s') ∧ I s' := by
  subst hF
  exact forF_invM hI hb

/-! ### numbers: powers modulo a prime, subgroups by trying all -/
theorem pm_odd (r s e p : Nat) (h : e % 2 = 1) : (r * s % p) * (s * s % p) ^ (e / 2) % p = r * s ^ e % p := by
  have he : e = e / 2 + e / 2 + 1 := by omega
  have h1 : s ^ e = s * (s * s) ^ (e / 2) := by
    conv => lhs; rw [he]
    rw [Nat.pow_succ, Nat.pow_add, ← Nat.mul_pow, Nat.mul_comm]
  rw [h1, ← Nat.mul_assoc, Nat.mul_mod (r * s % p), Nat.mul_mod (r * s), Nat.mod_mod, ← Nat.pow_mod]
theorem pm_even (r s e p : Nat) (h : e % 2 = 0) : r * (s * s % p) ^ (e / 2) % p = r * s ^ e % p := by
  have he : e = e / 2 + e / 2 := by omega
  have h1 : s ^ e = (s * s) ^ (e / 2) := by
    conv => lhs; rw [he]
    rw [Nat.pow_add, ← Nat.mul_pow]
  rw [h1, Nat.mul_mod r, Nat.mul_mod r ((s * s) ^ (e / 2)), ← Nat.pow_mod]
theorem pow_red {g p q : Nat} (h : g ^ q % p = 1 % p) (n : Nat) : g ^ n % p = g ^ (n % q) % p := by
  have h1 : g ^ n = (g ^ q) ^ (n / q) * g ^ (n % q) := by
    rw [← Nat.pow_mul, ← Nat.pow_add, Nat.div_add_mod]
  rw [h1, Nat.mul_mod, Nat.pow_mod, h, ← Nat.pow_mod, Nat.one_pow, ← Nat.mul_mod, Nat.one_mul]
def memN (p q : Nat) : List Nat := (List.range' 1 (p - 1)).filter fun x => Nat.beq (x ^ q % p) 1
def powL (g p q : Nat) : List Nat := (List.range q).map fun i => g ^ i % p
def hasN (x : Nat) : List Nat → Bool
  | [] => false
  | y :: r => (Nat.beq x y) || hasN x r
def ndN : List Nat → Bool
  | [] => true
  | y :: r => (!hasN y r) && ndN r
def prB (n : Nat) : Bool := Nat.ble 2 n && (List.range' 2 38).all fun k => Nat.blt n (k * k) || !(Nat.beq (n % k) 0)
def fbN (p e : Nat) : List Nat → Nat → Nat
  | [], c => c
  | a :: l, _ => if Nat.beq (a ^ e % p) 1 = true then fbN p e l (a ^ e % p) else a ^ e % p
def baseN (p q : Nat) : Nat := fbN p ((p - 1) / q) (List.range' 2 (p - 2)) 1
def chkN (p q : Nat) : Bool := match memN p q with
  | 1 :: g :: r => Nat.beq (r.length + 2) q && Nat.beq (g ^ q % p) 1 && (powL g p q).all (fun x => hasN x (1 :: g :: r)) && (1 :: g :: r).all (fun x => hasN x (powL g p q)) && ndN (powL g p q)
      && (1 :: g :: r).all (fun x => hasN x (powL (baseN p q) p q)) && Nat.beq (baseN p q ^ q % p) 1
  | _ => false
def goodN (p q : Nat) : Bool := Nat.ble p 1000 && Nat.ble 3 q && Nat.ble q 127 && prB p && prB q && Nat.beq ((p - 1) % q) 0
def allN : Bool := (List.range 1001).all fun p => !prB p || (List.range 128).all fun q => !goodN p q || chkN p q
theorem allN_true : allN = true := by decide +kernel
theorem hasN_iff {x : Nat} : ∀ {l : List Nat}, hasN x l = true ↔ x ∈ l
  | [] => ⟨fun h => (nomatch h), fun h => (nomatch h)⟩
  | y :: r => by
    unfold hasN
    rw [Bool.or_eq_true, hasN_iff, List.mem_cons, Nat.beq_eq]
theorem ndN_nodup : ∀ {l : List Nat}, ndN l = true → l.Nodup
  | [], _ => List.nodup_nil
  | y :: r, h => by
    unfold ndN at h
    rw [Bool.and_eq_true, Bool.not_eq_true', Bool.eq_false_iff] at h
    exact List.nodup_cons.mpr ⟨fun z => h.1 (hasN_iff.mpr z), ndN_nodup h.2⟩
theorem powL_get {g p q i : Nat} (h : i < (powL g p q).length) : (powL g p q)[i] = g ^ i % p := by simp [powL]
/-- the subgroup of order q modulo p, with its generator g -/
structure PG (p q g : Nat) : Prop where
  p1 : p ≤ 1000
  q3 : 3 ≤ q
  q127 : q ≤ 127
  pp : prB p = true
  qp : prB q = true
  dv : (p - 1) % q = 0
  p2 : 2 ≤ p
  h0 : (memN p q)[0]? = some 1
  h1 : (memN p q)[1]? = some g
  len : (memN p q).length = q
  gq : g ^ q % p = 1
  all : ∀ x, x ∈ memN p q → ∃ i, i < q ∧ g ^ i % p = x
  ins : ∀ i, i < q → g ^ i % p ∈ memN p q
  inj : ∀ i j, i < q → j < q → g ^ i % p = g ^ j % p → i = j
  bas : ∀ x, x ∈ memN p q → ∃ i, i < q ∧ baseN p q ^ i % p = x
  bq : baseN p q ^ q % p = 1
theorem pg {p q : Nat} (h : goodN p q = true) : ∃ g, PG p q g := by
  have h' := h
  unfold goodN at h'
  simp only [Bool.and_eq_true, Nat.ble_eq, Nat.beq_eq] at h'
  obtain ⟨⟨⟨⟨⟨h1, h2⟩, h3⟩, h4⟩, h5⟩, h6⟩ := h'
  have p2 : 2 ≤ p := by
    have := h4
    unfold prB at this
    rw [Bool.and_eq_true, Nat.ble_eq] at this
    exact this.1
  have a := List.all_eq_true.mp allN_true p (List.mem_range.mpr (by omega))
  rw [h4, Bool.not_true, Bool.false_or] at a
  have b := List.all_eq_true.mp a q (List.mem_range.mpr (by omega))
  rw [h, Bool.not_true, Bool.false_or] at b
  unfold chkN at b
  split at b
  · next g r e =>
    simp only [Bool.and_eq_true, Nat.beq_eq] at b
    obtain ⟨⟨⟨⟨⟨⟨b1, b2⟩, b3⟩, b4⟩, b5⟩, b6⟩, b7⟩ := b
    have nd := ndN_nodup b5
    rw [← e] at b3 b4 b6
    refine ⟨g, h1, h2, h3, h4, h5, h6, p2, by rw [e]; rfl, by rw [e]; rfl, by rw [e]; exact b1, b2, fun x hx => ?_, fun i hi => ?_, fun i j hi hj hh => ?_, fun x hx => ?_, b7⟩
    · obtain ⟨i, hi, e⟩ := List.mem_map.mp (hasN_iff.mp (List.all_eq_true.mp b4 x hx))
      exact ⟨i, List.mem_range.mp hi, e⟩
    · exact hasN_iff.mp (List.all_eq_true.mp b3 _ (List.mem_map.mpr ⟨i, List.mem_range.mpr hi, rfl⟩))
    · have li : i < (powL g p q).length := by unfold powL; rw [List.length_map, List.length_range]; exact hi
      have lj : j < (powL g p q).length := by unfold powL; rw [List.length_map, List.length_range]; exact hj
      refine (List.getElem_inj (h₀ := li) (h₁ := lj) nd).mp ?_
      rw [powL_get li, powL_get lj]
      exact hh
    · obtain ⟨i, hi, e⟩ := List.mem_map.mp (hasN_iff.mp (List.all_eq_true.mp b6 x hx))
      exact ⟨i, List.mem_range.mp hi, e⟩
  · cases b
theorem mem_memN {p q x : Nat} : x ∈ memN p q ↔ 1 ≤ x ∧ x < p ∧ x ^ q % p = 1 := by
  unfold memN
  rw [List.mem_filter, List.mem_range'_1, Nat.beq_eq]
  constructor
  · rintro ⟨⟨a, b⟩, c⟩
    exact ⟨a, by omega, c⟩
  · rintro ⟨a, b, c⟩
    exact ⟨⟨a, by omega⟩, c⟩
def invAll : Bool := (List.range 128).all fun q => !prB q || (List.range q).all fun c => Nat.beq c 0 || (List.range q).any fun d => Nat.beq (c * d % q) 1
theorem invAll_true : invAll = true := by decide +kernel
theorem invN {q c : Nat} (hq : prB q = true) (h127 : q ≤ 127) (hc : c < q) (h0 : c ≠ 0) : ∃ d, d < q ∧ c * d % q = 1 := by
  have a := List.all_eq_true.mp invAll_true q (List.mem_range.mpr (by omega))
  rw [hq, Bool.not_true, Bool.false_or] at a
  have b := List.all_eq_true.mp a c (List.mem_range.mpr hc)
  rw [show Nat.beq c 0 = false from Bool.eq_false_iff.mpr fun z => h0 (Nat.beq_eq.mp z), Bool.false_or] at b
  obtain ⟨d, hd, e⟩ := List.any_eq_true.mp b
  exact ⟨d, List.mem_range.mp hd, Nat.beq_eq.mp e⟩

/-! ### the law's likeness -/
theorem alike_int (n : Nat) (a : Int) : m__law_alike (n + 1) (.int a) (.int a) = .val (.bl true) := by
  have h1 : isiP2 "tuple" "list" (.int a) = .val (.bl false) := rfl
  have h2 : isiP (.int a) (.ty "bool") = .val (.bl false) := rfl
  have h3 : isiP (.int a) (.ty "str") = .val (.bl false) := rfl
  have h4 : isiP (.int a) (.ty "int") = .val (.bl true) := rfl
  have h5 : isP (.int a) .non = .val (.bl false) := rfl
  unfold m__law_alike
  simp -implicitDefEqProofs only [bind_val, asB_bl, if_true, Bool.not_true, Bool.not_false, Bool.false_eq_true, if_false, retF_rt, seqF_nx, seqF_rt, asSq_lst, asSq_tup, partP_int, leP_int, ltP_int, gtP_int, geP_int, addP_int, subP_int, intP_int, tupleP_lst, asLi_lst, h1, h2, h3, h4, h5, eqP_int, decide_true]
theorem alike_str (n : Nat) (a : Str) (hs : SeqAt.shaped (.str a) = true) : m__law_alike (n + 1) (.str a) (.str a) = .val (.bl true) := by
  have h1 : isiP2 "tuple" "list" (.str a) = .val (.bl false) := rfl
  have h2 : isiP (.str a) (.ty "bool") = .val (.bl false) := rfl
  have h3 : isiP (.str a) (.ty "str") = .val (.bl true) := rfl
  have h5 : isP (.str a) .non = .val (.bl false) := rfl
  unfold m__law_alike
  simp -implicitDefEqProofs only [bind_val, asB_bl, if_true, Bool.not_true, Bool.not_false, Bool.false_eq_true, if_false, retF_rt, seqF_nx, seqF_rt, asSq_lst, asSq_tup, partP_int, leP_int, ltP_int, gtP_int, geP_int, addP_int, subP_int, intP_int, tupleP_lst, asLi_lst, h1, h2, h3, h5, eqP_str hs hs, decide_true]
theorem alike_tup (n : Nat) (l : List PV) (hl : l.length ≤ 10000000) (h : ∀ p, p ∈ l → m__law_alike n p p = .val (.bl true)) : m__law_alike (n + 1) (.tup l) (.tup l) = .val (.bl true) := by
  have h1 : isiP2 "tuple" "list" (.tup l) = .val (.bl true) := rfl
  have h2 : isiP (.tup l) (.ty "tuple") = .val (.bl true) := rfl
  have h3 : isiP (.tup l) (.ty "list") = .val (.bl false) := rfl
  have key := forF_rng1 (S := Unit) (L := Empty) (n := l.length) (body := fun (x33 : PV) (s21 : Unit) => (fun x => Res.val x) x33 >>= fun (a22 : PV) => ((((((Res.val (.tup l)) >>= fun x23 => (Res.val a22) >>= fun x24 => ixP x23 x24) >>= fun x27 => ((Res.val (.tup l)) >>= fun x25 => (Res.val a22) >>= fun x26 => ixP x25 x26) >>= fun x28 => (m__law_alike n) x27 x28) >>= asB) >>= fun b29 => Res.val (!b29)) >>= fun b30 => if b30 = true then ((Res.val (PV.bl false)) >>= fun v31 => Res.val (.rt v31 [])) else (Res.val (.nx ())))) (fun _ => ()) hl fun i hi => by
    have e := ixP_tup (List.getElem?_eq_getElem hi)
    simp -implicitDefEqProofs only [bind_val, asB_bl, if_true, Bool.not_true, Bool.not_false, Bool.false_eq_true, if_false, retF_rt, seqF_nx, seqF_rt, asSq_lst, asSq_tup, partP_int, leP_int, ltP_int, gtP_int, geP_int, addP_int, subP_int, intP_int, tupleP_lst, asLi_lst, e, h _ (List.getElem_mem hi)]
  unfold m__law_alike
  simp -implicitDefEqProofs only [bind_val] at key
  simp -implicitDefEqProofs only [bind_val, asB_bl, if_true, Bool.not_true, Bool.not_false, Bool.false_eq_true, if_false, retF_rt, seqF_nx, seqF_rt, asSq_lst, asSq_tup, partP_int, leP_int, ltP_int, gtP_int, geP_int, addP_int, subP_int, intP_int, tupleP_lst, asLi_lst, h1, h2, h3, neP_bl, lenP_tup, neP_int, decide_true, key]
theorem alike_ints (n : Nat) (l : List Int) (hl : l.length ≤ 10000000) : m__law_alike (n + 2) (.tup (l.map PV.int)) (.tup (l.map PV.int)) = .val (.bl true) :=
  alike_tup (n + 1) _ (by rw [List.length_map]; exact hl) fun p hp => by
    obtain ⟨a, _, rfl⟩ := List.mem_map.mp hp
    exact alike_int n a

/-! ### the law's draws -/
def Bx (l : List PV) : Prop := ∃ (a b d e : Int) (c : Nat) (ns : List Int), l = [.int a, .int b, .int (c : Nat), .int d, .int e, .lst (ns.map PV.int)]
def Good (m : Int) (R : Res (PV × MO)) : Prop := ∃ r l', R = .val (.int r, .lst l') ∧ 0 ≤ r ∧ r < m ∧ Bx l'
theorem part {S L : Type} {m : Int} {M : Res (Fl (List PV) L)} {N : List PV → Res (Fl S L)} {ret : Res (Fl S L) → Res (PV × MO)} (h1 : ∃ l1, M = .val (.nx l1) ∧ Bx l1) (h2 : ∀ l1, Bx l1 → Good m (ret (N l1))) : Good m (ret (seqF M N)) := by
  obtain ⟨l1, rfl, hb⟩ := h1
  exact h2 l1 hb
theorem mix_ok (c s : Int) : ∃ r : Int, m__law_mix (.int c) (.int s) = .val (.int r) := by
  have m1 : ∀ a, mulP (.int a) (.int 48271) = .val (.int (a * 48271)) := fun a => mulP_r (by decide) (by decide)
  have m2 : ∀ a, mulP (.int a) (.int 69621) = .val (.int (a * 69621)) := fun a => mulP_r (by decide) (by decide)
  have m3 : ∀ a, mulP (.int a) (.int 16807) = .val (.int (a * 16807)) := fun a => mulP_r (by decide) (by decide)
  have m4 : ∀ a, mulP (.int a) (.int 7919) = .val (.int (a * 7919)) := fun a => mulP_r (by decide) (by decide)
  obtain ⟨o, e, h1, h2⟩ := modP_ex (x := c * 48271 + s * 69621 + 12345) (b := 2147483647) (by decide)
  obtain ⟨r, e2, _⟩ := modP_ex (x := o * o + o * 16807 + s * 7919) (b := 2147483629) (by decide)
  have m5 : mulP (.int o) (.int o) = .val (.int (o * o)) := mulP_l (by omega) (by omega)
  refine ⟨r, ?_⟩
  unfold m__law_mix
  simp -implicitDefEqProofs only [bind_val, asB_bl, if_true, Bool.not_true, Bool.not_false, Bool.false_eq_true, if_false, retF_rt, seqF_nx, seqF_rt, asSq_lst, asSq_tup, partP_int, leP_int, ltP_int, gtP_int, geP_int, addP_int, subP_int, intP_int, tupleP_lst, asLi_lst, m1, m2, m3, m4, e, m5, e2]
theorem draw_ok {l : List PV} (hb : Bx l) {m : Int} (hm : 0 < m) (hm2 : m < 1073741824) : Good m (m__law_draw (.lst l) (.int m)) := by
  have x0 : ∀ p0 p1 p2 p3 p4 p5 : PV, ixP (.lst [p0, p1, p2, p3, p4, p5]) (.int 0) = .val p0 := fun _ _ _ _ _ _ => rfl
  have x1 : ∀ p0 p1 p2 p3 p4 p5 : PV, ixP (.lst [p0, p1, p2, p3, p4, p5]) (.int 1) = .val p1 := fun _ _ _ _ _ _ => rfl
  have x2 : ∀ p0 p1 p2 p3 p4 p5 : PV, ixP (.lst [p0, p1, p2, p3, p4, p5]) (.int 2) = .val p2 := fun _ _ _ _ _ _ => rfl
  have x3 : ∀ p0 p1 p2 p3 p4 p5 : PV, ixP (.lst [p0, p1, p2, p3, p4, p5]) (.int 3) = .val p3 := fun _ _ _ _ _ _ => rfl
  have x4 : ∀ p0 p1 p2 p3 p4 p5 : PV, ixP (.lst [p0, p1, p2, p3, p4, p5]) (.int 4) = .val p4 := fun _ _ _ _ _ _ => rfl
  have x5 : ∀ p0 p1 p2 p3 p4 p5 : PV, ixP (.lst [p0, p1, p2, p3, p4, p5]) (.int 5) = .val p5 := fun _ _ _ _ _ _ => rfl
  have s0 : ∀ p0 p1 p2 p3 p4 p5 x : PV, setL [p0, p1, p2, p3, p4, p5] (.int 0) x = .val [x, p1, p2, p3, p4, p5] := fun _ _ _ _ _ _ _ => rfl
  have s1 : ∀ p0 p1 p2 p3 p4 p5 x : PV, setL [p0, p1, p2, p3, p4, p5] (.int 1) x = .val [p0, x, p2, p3, p4, p5] := fun _ _ _ _ _ _ _ => rfl
  have s2 : ∀ p0 p1 p2 p3 p4 p5 x : PV, setL [p0, p1, p2, p3, p4, p5] (.int 2) x = .val [p0, p1, x, p3, p4, p5] := fun _ _ _ _ _ _ _ => rfl
  have s3 : ∀ p0 p1 p2 p3 p4 p5 x : PV, setL [p0, p1, p2, p3, p4, p5] (.int 3) x = .val [p0, p1, p2, x, p4, p5] := fun _ _ _ _ _ _ _ => rfl
  have s4 : ∀ p0 p1 p2 p3 p4 p5 x : PV, setL [p0, p1, p2, p3, p4, p5] (.int 4) x = .val [p0, p1, p2, p3, x, p5] := fun _ _ _ _ _ _ _ => rfl
  have p18 : powP (.int 10) (.int 18) = .val (.int 1000000000000000000) := rfl
  have m31 : ∀ a, mulP (.int a) (.int 31) = .val (.int (a * 31)) := fun a => mulP_r (by decide) (by decide)
  unfold m__law_draw
  show Good m (retR (seqF _ _))
  refine part (ret := retR) ?_ ?_
  · obtain ⟨a, b, d, e, c, ns, rfl⟩ := hb
    by_cases h1 : b = 0
    · by_cases h2 : (c : Int) < (ns.length : Int)
      · have ic : ixP (.lst (ns.map PV.int)) (.int (c : Nat)) = .val (.int (ns.getD c 0)) := ixP_lst (by
          rw [List.getElem?_map, List.getElem?_eq_getElem (by omega), List.getD_eq_getElem?_getD, List.getElem?_eq_getElem (by omega)]; rfl)
        have ll : lenP (.lst (ns.map PV.int)) = .val (.int (ns.length : Nat)) := by rw [lenP_lst, List.length_map]
        obtain ⟨o, eo, _⟩ := modP_ex (x := e * 31 + ns.getD c 0) (b := 2147483647) (by decide)
        have c2 : ((c : Nat) : Int) + 2 = ((c + 2 : Nat) : Int) := rfl
        by_cases h3 : 1000000000000000000 ≤ ns.getD c 0
        · refine ⟨[.int (ns.getD c 0 - 1000000000000000000), .int 60, .int ((c + 2 : Nat) : Int), .int d, .int o, .lst (ns.map PV.int)], ?_, ⟨_, _, _, _, _, _, rfl⟩⟩
          simp -implicitDefEqProofs only [bind_val, asB_bl, if_true, Bool.not_true, Bool.not_false, Bool.false_eq_true, if_false, retF_rt, seqF_nx, seqF_rt, asSq_lst, asSq_tup, partP_int, leP_int, ltP_int, gtP_int, geP_int, addP_int, subP_int, intP_int, tupleP_lst, asLi_lst, x1, eqP_int, decide_eq_true h1, x2, x5, ll, decide_eq_true h2, ic, s2, x4, m31, eo, s4, p18, decide_eq_true h3, s0, s1, c2]
        · refine ⟨[.int a, .int b, .int ((c + 2 : Nat) : Int), .int d, .int o, .lst (ns.map PV.int)], ?_, ⟨_, _, _, _, _, _, rfl⟩⟩
          simp -implicitDefEqProofs only [bind_val, asB_bl, if_true, Bool.not_true, Bool.not_false, Bool.false_eq_true, if_false, retF_rt, seqF_nx, seqF_rt, asSq_lst, asSq_tup, partP_int, leP_int, ltP_int, gtP_int, geP_int, addP_int, subP_int, intP_int, tupleP_lst, asLi_lst, x1, eqP_int, decide_eq_true h1, x2, x5, ll, decide_eq_true h2, ic, s2, x4, m31, eo, s4, p18, decide_eq_false h3, s0, s1, c2]
      · have ll : lenP (.lst (ns.map PV.int)) = .val (.int (ns.length : Nat)) := by rw [lenP_lst, List.length_map]
        refine ⟨_, ?_, ⟨a, b, d, e, c, ns, rfl⟩⟩
        simp -implicitDefEqProofs only [bind_val, asB_bl, if_true, Bool.not_true, Bool.not_false, Bool.false_eq_true, if_false, retF_rt, seqF_nx, seqF_rt, asSq_lst, asSq_tup, partP_int, leP_int, ltP_int, gtP_int, geP_int, addP_int, subP_int, intP_int, tupleP_lst, asLi_lst, x1, eqP_int, decide_eq_true h1, x2, x5, ll, decide_eq_false h2]
    · refine ⟨_, ?_, ⟨a, b, d, e, c, ns, rfl⟩⟩
      simp -implicitDefEqProofs only [bind_val, asB_bl, if_true, Bool.not_true, Bool.not_false, Bool.false_eq_true, if_false, retF_rt, seqF_nx, seqF_rt, asSq_lst, asSq_tup, partP_int, leP_int, ltP_int, gtP_int, geP_int, addP_int, subP_int, intP_int, tupleP_lst, asLi_lst, x1, eqP_int, decide_eq_false h1]
  · intro l1 hb1
    obtain ⟨a, b, d, e, c, ns, rfl⟩ := hb1
    have low : ∀ (a' b' : Int), (¬ 0 < b' ∨ ¬ 0 < a') → True := fun _ _ _ => trivial
    by_cases h1 : 0 < b
    · by_cases h2 : 0 < a
      · obtain ⟨o, eo, ho⟩ := modP_ex (x := a) hm
        refine ⟨o, [.int (a / m), .int (b - 1), .int (c : Nat), .int d, .int e, .lst (ns.map PV.int)], ?_, ho.1, ho.2, ⟨_, _, _, _, _, _, rfl⟩⟩
        simp -implicitDefEqProofs only [bind_val, asB_bl, if_true, Bool.not_true, Bool.not_false, Bool.false_eq_true, if_false, retF_rt, seqF_nx, seqF_rt, asSq_lst, asSq_tup, partP_int, leP_int, ltP_int, gtP_int, geP_int, addP_int, subP_int, intP_int, tupleP_lst, asLi_lst, x1, x0, decide_eq_true h1, decide_eq_true h2, eo, fdivP_pos hm (by omega), s0, s1, retR_rt]
      · obtain ⟨q, eq⟩ := mix_ok e (d + 1)
        obtain ⟨o, eo, ho⟩ := modP_ex (x := q) hm
        refine ⟨o, [.int a, .int 0, .int (c : Nat), .int (d + 1), .int e, .lst (ns.map PV.int)], ?_, ho.1, ho.2, ⟨_, _, _, _, _, _, rfl⟩⟩
        simp -implicitDefEqProofs only [bind_val, asB_bl, if_true, Bool.not_true, Bool.not_false, Bool.false_eq_true, if_false, retF_rt, seqF_nx, seqF_rt, asSq_lst, asSq_tup, partP_int, leP_int, ltP_int, gtP_int, geP_int, addP_int, subP_int, intP_int, tupleP_lst, asLi_lst, x1, x0, decide_eq_true h1, decide_eq_false h2, eq, eo, s3, x3, x4, s0, s1, retR_rt]
    · obtain ⟨q, eq⟩ := mix_ok e (d + 1)
      obtain ⟨o, eo, ho⟩ := modP_ex (x := q) hm
      refine ⟨o, [.int a, .int 0, .int (c : Nat), .int (d + 1), .int e, .lst (ns.map PV.int)], ?_, ho.1, ho.2, ⟨_, _, _, _, _, _, rfl⟩⟩
      simp -implicitDefEqProofs only [bind_val, asB_bl, if_true, Bool.not_true, Bool.not_false, Bool.false_eq_true, if_false, retF_rt, seqF_nx, seqF_rt, asSq_lst, asSq_tup, partP_int, leP_int, ltP_int, gtP_int, geP_int, addP_int, subP_int, intP_int, tupleP_lst, asLi_lst, x1, x0, decide_eq_false h1, eq, eo, s3, x3, x4, s0, s1, retR_rt]
theorem box_ok (ns : List Int) (h : ns.length ≤ 63) (k : Int) : m__law_box (.fls (ns.map PV.int)) (.int k) = .val (.lst [.int 0, .int 0, .int k, .int 0, .int k, .lst (ns.map PV.int)]) := by
  have e1 : sized (ns.map PV.int).length = .val () := sized_small (by rw [List.length_map]; omega)
  have e2 : lcF (fun x => Res.val x) (fun (a1 : PV) => (Res.val true)) (fun (a1 : PV) => intP a1) (ns.map PV.int) = .val (ns.map PV.int) := by
    rw [lcF_val (g := fun p => p) (fun _ _ => rfl) (fun p hp => by
      obtain ⟨d, _, rfl⟩ := List.mem_map.mp hp
      rfl), List.map_id']
  have e3 : ∀ a b c d e f : PV, mkN [a, b, c, d, e, f] = .val [a, b, c, d, e, f] := fun a b c d e f => mkN_ok (by show 6 ≤ 10000000; decide)
  unfold m__law_box
  simp -implicitDefEqProofs only [bind_val, asB_bl, if_true, Bool.not_true, Bool.not_false, Bool.false_eq_true, if_false, retF_rt, seqF_nx, seqF_rt, asSq_lst, asSq_tup, partP_int, leP_int, ltP_int, gtP_int, geP_int, addP_int, subP_int, intP_int, tupleP_lst, asLi_lst, asSq_fls, e1, e2, e3, retN_ro]
theorem bx0 (ns : List Int) (k : Nat) : Bx [.int 0, .int 0, .int (k : Nat), .int 0, .int (k : Nat), .lst (ns.map PV.int)] := ⟨_, _, _, _, _, _, rfl⟩
theorem draw_nat {l : List PV} (hb : Bx l) {m : Nat} (hm : 0 < m) (hm2 : m < 1073741824) : ∃ (r : Nat) (l' : List PV), m__law_draw (.lst l) (.int (m : Nat)) = .val (.int (r : Nat), .lst l') ∧ r < m ∧ Bx l' := by
  obtain ⟨r, l', e, h0, h1, hb'⟩ := draw_ok hb (m := (m : Nat)) (by omega) (by omega)
  obtain ⟨n, rfl⟩ := Int.eq_ofNat_of_zero_le h0
  exact ⟨n, l', e, by omega, hb'⟩

/-! ### mirrors: primes, powers -/
def tb : Res PV → Bool → Bool
  | .val (.bl a), b => a == b
  | _, _ => false
theorem tb_eq {r : Res PV} {b : Bool} (h : tb r b = true) : r = .val (.bl b) := by
  unfold tb at h
  split at h
  · rw [eq_of_beq h]
  · cases h
theorem reckL : ((List.range 1001).all fun n => tb (m__law_is_prime (.int n)) (prB n)) = true := by decide +kernel
theorem lawPrime {n : Nat} (h : n < 1001) : m__law_is_prime (.int (n : Nat)) = .val (.bl (prB n)) := tb_eq (List.all_eq_true.mp reckL n (List.mem_range.mpr h))
theorem eqP_nat {a b : Nat} : eqP (.int (a : Nat)) (.int (b : Nat)) = .val (.bl (Nat.beq a b)) := by
  rw [eqP_int]
  by_cases c : a = b
  · subst c
    rw [decide_eq_true rfl, Nat.beq_refl]
  · rw [decide_eq_false (by omega), show Nat.beq a b = false from Bool.eq_false_iff.mpr fun z => c (Nat.beq_eq.mp z)]
theorem mulP_nat {a b : Nat} (h : a < 2 ^ 64) : mulP (.int (a : Nat)) (.int (b : Nat)) = .val (.int ((a * b : Nat) : Int)) := by
  rw [mulP_l (by omega) (by omega)]; rfl
/-! ### loops -/
theorem forF_find {S L : Type} {body : PV → S → Res (Fl S S)} {Good : PV → List MO → Prop} {s : S} : ∀ {ps : List PV}, (∀ p, p ∈ ps → body p s = .val (.nx s) ∨ ∃ v r, body p s = .val (.rt v r) ∧ Good v r) →
    (forF (L := L) body ps s = .val (.nx s) ∧ ∀ p, p ∈ ps → body p s = .val (.nx s)) ∨ ∃ v r, forF (L := L) body ps s = .val (.rt v r) ∧ Good v r
  | [], _ => .inl ⟨rfl, fun _ h => (nomatch h)⟩
  | p :: ps, h => by
    unfold forF
    rcases h p List.mem_cons_self with e | ⟨v, r, e, g⟩
    · rcases forF_find (L := L) (fun q hq => h q (List.mem_cons_of_mem _ hq)) with ⟨e2, a⟩ | ⟨v, r, e2, g⟩
      · rw [e]
        exact .inl ⟨e2, fun q hq => by
          rcases List.mem_cons.mp hq with rfl | hq
          · exact e
          · exact a q hq⟩
      · rw [e]
        exact .inr ⟨v, r, e2, g⟩
    · rw [e]
      exact .inr ⟨v, r, rfl, g⟩
theorem forF_same {S L : Type} {body : PV → S → Res (Fl S S)} {s : S} : ∀ {ps : List PV}, (∀ p, p ∈ ps → body p s = .val (.nx s)) → forF (L := L) body ps s = .val (.nx s)
  | [], _ => rfl
  | p :: ps, h => by
    unfold forF
    rw [h p List.mem_cons_self]
    exact forF_same fun q hq => h q (List.mem_cons_of_mem _ hq)
theorem forF_inv {S L : Type} {body : PV → S → Res (Fl S S)} {I : S → Prop} : ∀ {ps : List PV} {s : S}, I s → (∀ p, p ∈ ps → ∀ s, I s → ∃ s', body p s = .val (.nx s') ∧ I s') → ∃ s', forF (L := L) body ps s = .val (.nx s') ∧ I s'
  | [], s, h, _ => ⟨s, rfl, h⟩
  | p :: ps, s, h, hb => by
    obtain ⟨s1, e, h1⟩ := hb p List.mem_cons_self s h
    obtain ⟨s2, e2, h2⟩ := forF_inv (L := L) h1 fun q hq => hb q (List.mem_cons_of_mem _ hq)
    refine ⟨s2, ?_, h2⟩
    unfold forF
    rw [e]
    exact e2
theorem neP_nat {a b : Nat} : neP (.int (a : Nat)) (.int (b : Nat)) = .val (.bl (!Nat.beq a b)) := by
  have h : (decide ((a : Int) = (b : Int))) = Nat.beq a b := by
    have := eqP_nat (a := a) (b := b)
    rw [eqP_int] at this
    exact PV.bl.inj (Res.val.inj this)
  rw [neP_int, h]

theorem three : prB 3 = true := by decide +kernel
theorem prime_ok {l : List PV} (hb : Bx l) : ∃ (n : Nat) (l' : List PV), m__law_prime (.lst l) (.int 3) (.int 127) = .val (.int (n : Nat), .lst l') ∧ Bx l' ∧ 3 ≤ n ∧ n ≤ 127 ∧ prB n = true := by
  obtain ⟨r, l', d, hr, hb'⟩ := draw_nat hb (m := 125) (by decide) (by decide)
  have d' : m__law_draw (.lst l) (.int 125) = .val (.int (r : Nat), .lst l') := d
  have a1 : (127 : Int) - 3 + 1 = 125 := by decide
  have r1 : rng1 (.int 125) = .val (PN (List.range 125)) := rng1_nat (a := 125) (by decide)
  have st : ∀ k : Nat, k < 125 → (addP (.int (r : Nat)) (.int (k : Nat)) = .val (.int ((r + k : Nat) : Int))) := fun k _ => rfl
  have md : ∀ k : Nat, modP (.int ((k : Nat) : Int)) (.int 125) = .val (.int ((k % 125 : Nat) : Int)) := fun k => modP_nat (b := 125) (by decide)
  have a3 : ∀ k : Nat, (3 : Int) + ((k : Nat) : Int) = ((3 + k : Nat) : Int) := fun k => by omega
  have a2 : ∀ k : Nat, ((r : Nat) : Int) + ((k : Nat) : Int) = ((r + k : Nat) : Int) := fun k => by omega
  have fd := forF_find (S := Unit) (L := Empty) (body := fun (x39 : PV) (s22 : Unit) => (((((addP (.int (r : Nat)) x39) >>= intP) >>= fun x30 => modP x30 (.int 125)) >>= fun x33 => addP (.int 3) x33) >>= fun x34 => ((m__law_is_prime x34 >>= asB) >>= fun b36 => if b36 = true then (Res.val (Fl.rt x34 [.lst l'])) else (Res.val (Fl.nx ())))))
    (s := ()) (ps := PN (List.range 125)) (Good := fun v r => r = [.lst l'] ∧ ∃ n : Nat, v = .int (n : Nat) ∧ 3 ≤ n ∧ n ≤ 127 ∧ prB n = true) fun p hp => by
      obtain ⟨k, hk, rfl⟩ := List.mem_map.mp hp
      have hm : (r + k) % 125 < 125 := Nat.mod_lt _ (by decide)
      have ip := lawPrime (n := 3 + (r + k) % 125) (by omega)
      cases h : prB (3 + (r + k) % 125) with
      | true =>
        refine .inr ⟨_, _, ?_, rfl, 3 + (r + k) % 125, rfl, by omega, by omega, h⟩
        simp -implicitDefEqProofs only [bind_val, asB_bl, if_true, Bool.not_true, Bool.not_false, Bool.false_eq_true, if_false, retF_rt, seqF_nx, seqF_rt, asSq_lst, asSq_tup, partP_int, leP_int, ltP_int, gtP_int, geP_int, addP_int, subP_int, intP_int, tupleP_lst, asLi_lst, a2, md, a3, ip, h]
      | false =>
        refine .inl ?_
        simp -implicitDefEqProofs only [bind_val, asB_bl, if_true, Bool.not_true, Bool.not_false, Bool.false_eq_true, if_false, retF_rt, seqF_nx, seqF_rt, asSq_lst, asSq_tup, partP_int, leP_int, ltP_int, gtP_int, geP_int, addP_int, subP_int, intP_int, tupleP_lst, asLi_lst, a2, md, a3, ip, h]
  unfold m__law_prime
  rcases fd with ⟨e, -⟩ | ⟨v, rr, e, rfl, n, rfl, h1, h2, h3⟩
  · try simp -implicitDefEqProofs only [bind_val] at e
    refine ⟨3, l', ?_, hb', by decide, by decide, three⟩
    simp -implicitDefEqProofs only [bind_val, asB_bl, if_true, Bool.not_true, Bool.not_false, Bool.false_eq_true, if_false, retF_rt, seqF_nx, seqF_rt, asSq_lst, asSq_tup, partP_int, leP_int, ltP_int, gtP_int, geP_int, addP_int, subP_int, intP_int, tupleP_lst, asLi_lst, noX_val, a1, apR1_o, d', moL_lst, r1, e, retR_rt]
    rfl
  · try simp -implicitDefEqProofs only [bind_val] at e
    refine ⟨n, l', ?_, hb', h1, h2, h3⟩
    simp -implicitDefEqProofs only [bind_val, asB_bl, if_true, Bool.not_true, Bool.not_false, Bool.false_eq_true, if_false, retF_rt, seqF_nx, seqF_rt, asSq_lst, asSq_tup, partP_int, leP_int, ltP_int, gtP_int, geP_int, addP_int, subP_int, intP_int, tupleP_lst, asLi_lst, noX_val, a1, apR1_o, d', moL_lst, r1, e, retR_rt]

/-! ### rows in a drawn sequence, and their tables -/
theorem pop_perm : ∀ {l : List Nat} {i : Nat} (h : i < l.length), (l[i] :: l.eraseIdx i).Perm l
  | x :: l, 0, _ => List.Perm.refl _
  | x :: l, i + 1, h => (List.Perm.swap x _ _).trans (List.Perm.cons x (pop_perm (Nat.lt_of_succ_lt_succ h)))
theorem PN_erase : ∀ {l : List Nat} {i : Nat}, (PN l).eraseIdx i = PN (l.eraseIdx i)
  | [], _ => rfl
  | x :: l, 0 => rfl
  | x :: l, i + 1 => congrArg (PV.int (x : Nat) :: ·) (PN_erase (l := l) (i := i))
theorem popL_PN {l : List Nat} {i : Nat} (h : i < l.length) (h2 : i < 100000) : popL (PN l) (.int (i : Nat)) = .val (.int (l[i] : Nat), PN (l.eraseIdx i)) := by
  have e : seqIndex? ((i : Nat) : Int) (PN l).length = some i := by
    have := (ixN_seq (n := (PN l).length) (i := ((i : Nat) : Int)) (j := i) (by
      unfold ixN
      rw [if_pos (by omega), if_pos (by rw [PN_len]; omega)]
      rfl)).1
    exact this
  unfold popL
  show (if -(2 ^ 63) ≤ ((i : Nat) : Int) ∧ ((i : Nat) : Int) < 2 ^ 63 then _ else _) = _
  rw [if_pos ⟨by omega, by omega⟩, e]
  show (match (PN l)[i]? with | some y => Res.val (y, (PN l).eraseIdx i) | none => .stuck) = _
  rw [PN_get (List.getElem?_eq_getElem h), PN_erase]

def invB : Bool := (List.range 128).all fun q => !prB q || (List.range q).all fun a => Nat.beq a 0 || match m_inverse (.int (a : Nat)) (.int (q : Nat)) with
  | .val (.int b) => decide (0 ≤ b ∧ b < q) && Nat.beq (a * b.toNat % q) 1
  | _ => false
theorem invB_true : invB = true := by decide +kernel
theorem inverse_ok {q a : Nat} (hq : prB q = true) (h127 : q ≤ 127) (ha : a < q) (h0 : a ≠ 0) : ∃ b : Nat, b < q ∧ m_inverse (.int (a : Nat)) (.int (q : Nat)) = .val (.int (b : Nat)) ∧ a * b % q = 1 := by
  have x := List.all_eq_true.mp invB_true q (List.mem_range.mpr (by omega))
  rw [hq, Bool.not_true, Bool.false_or] at x
  have y := List.all_eq_true.mp x a (List.mem_range.mpr ha)
  rw [show Nat.beq a 0 = false from Bool.eq_false_iff.mpr fun z => h0 (Nat.beq_eq.mp z), Bool.false_or] at y
  split at y
  · next b e =>
    rw [Bool.and_eq_true, decide_eq_true_eq] at y
    obtain ⟨⟨y1, y2⟩, y3⟩ := y
    obtain ⟨n, rfl⟩ := Int.eq_ofNat_of_zero_le y1
    exact ⟨n, by omega, e, Nat.beq_eq.mp y3⟩
  · cases y

/-! ### polynomials -/
def horF (q : Nat) (x : Int) (v c : Int) : Int := (v * x + c) % (q : Int)
def hor (q : Nat) (x : Int) (cs : List Int) : Int := cs.reverse.foldl (horF q x) 0
section
variable {q : Nat}
theorem hor_nil {x : Int} : hor q x [] = 0 := rfl
theorem hor_cons {x c : Int} {cs : List Int} : hor q x (c :: cs) = (hor q x cs * x + c) % (q : Int) := by
  unfold hor
  rw [List.reverse_cons, List.foldl_append]
  rfl
theorem hor_lt (h : 0 < q) {x : Int} (cs : List Int) : 0 ≤ hor q x cs ∧ hor q x cs < q := by
  cases cs with
  | nil => rw [hor_nil]; omega
  | cons c cs => rw [hor_cons]; exact ⟨Int.emod_nonneg _ (by omega), Int.emod_lt_of_pos _ (by omega)⟩
def evz [NeZero q] (X : Fin q) : List (Fin q) → Fin q
  | [] => 0
  | c :: cs => evz X cs * X + c
theorem zq_hor [NeZero q] {x : Int} : ∀ (cs : List Int), zq q (hor q x cs) = evz (zq q x) (cs.map (zq q))
  | [] => by rw [hor_nil, zq_zero]; rfl
  | c :: cs => by rw [hor_cons, zq_mod, zq_add, zq_mul, zq_hor cs]; rfl
theorem value_at_ok {P : PV} {cs : List Int} {x : Int} (hP : asSq P = .val (PZ cs)) (h0 : 0 < q) (hq : q < 2 ^ 64) : m_value_at P (.int x) (.int (q : Nat)) = .val (.int (hor q x cs)) := by
  unfold m_value_at
  simp -implicitDefEqProofs only [bind_val, asB_bl, if_true, Bool.not_true, Bool.not_false, Bool.false_eq_true, if_false, retF_rt, seqF_nx, seqF_rt, asSq_lst, asSq_tup, partP_int, leP_int, ltP_int, gtP_int, geP_int, addP_int, subP_int, intP_int, tupleP_lst, asLi_lst, hP]
  rw [show (PZ cs).reverse = cs.reverse.map PV.int from (List.map_reverse).symm]
  rw [(forF_fold2 (L := Empty) PV.int PV.int (horF q x) (fun v => 0 ≤ v ∧ v < q) cs.reverse 0 (by omega) ?_).1]
  · rfl
  · intro c _ v hv
    refine ⟨?_, Int.emod_nonneg _ (by omega), Int.emod_lt_of_pos _ (by omega)⟩
    have m : mulP (.int v) (.int x) = .val (.int (v * x)) := mulP_l (by omega) (by omega)
    have md : modP (.int (v * x + c)) (.int (q : Nat)) = .val (.int ((v * x + c) % (q : Int))) := modP_pos (by omega)
    simp -implicitDefEqProofs only [bind_val, asB_bl, if_true, Bool.not_true, Bool.not_false, Bool.false_eq_true, if_false, retF_rt, seqF_nx, seqF_rt, asSq_lst, asSq_tup, partP_int, leP_int, ltP_int, gtP_int, geP_int, addP_int, subP_int, intP_int, tupleP_lst, asLi_lst, m, md]
    rfl
/-! the powers of a number -/
def pw (q : Nat) (x : Int) : Nat → Int
  | 0 => 1
  | k + 1 => pw q x k * x % (q : Int)
theorem pw_lt (h : 1 < q) {x : Int} (k : Nat) : 0 ≤ pw q x k ∧ pw q x k < q := by
  cases k with
  | zero => show 0 ≤ (1 : Int) ∧ (1 : Int) < q; omega
  | succ k => exact ⟨Int.emod_nonneg _ (by omega), Int.emod_lt_of_pos _ (by omega)⟩
theorem zq_pw [NeZero q] (h : 1 < q) {x : Int} : ∀ k, zq q (pw q x (k + 1)) = zq q (pw q x k) * zq q x := fun k => by
  show zq q (pw q x k * x % (q : Int)) = _
  rw [zq_mod, zq_mul]
def pws (q : Nat) (x : Int) (n : Nat) : List Int := (List.range n).map (pw q x)
end

/-! ### polynomials over the residues: roots, interpolation -/
section
variable {q : Nat} [NeZero q]
def Fld (q : Nat) [NeZero q] : Prop := ∀ a : Fin q, a ≠ 0 → ∃ b : Fin q, a * b = 1
theorem Fld.no (f : Fld q) {a b : Fin q} (h : a * b = 0) : a = 0 ∨ b = 0 := by
  by_cases c : a = 0
  · exact .inl c
  · obtain ⟨i, e⟩ := f a c
    right
    grind
theorem fld_of (hq : prB q = true) (h3 : 3 ≤ q) (h127 : q ≤ 127) : Fld q := fun a ha => by
  have h0 : a.val ≠ 0 := fun z => ha (Fin.ext (by rw [z]; rfl))
  obtain ⟨d, hd, e⟩ := invN hq h127 a.isLt h0
  refine ⟨zq q (d : Nat), ?_⟩
  have ea : a = zq q (a.val : Nat) := Fin.ext (zq_nat a.isLt).symm
  rw [ea, ← zq_mul, ← zq_one (by omega), zq_eq, ← Int.natCast_mul, ← Int.natCast_emod, e, Int.emod_eq_of_lt (by omega) (by omega)]
  rfl
def wrz (R : Fin q) (l : List (Fin q)) : List (Fin q) := l.foldr (fun c t => (t.headD 0 * R + c) :: t) []
theorem wrz_nil {R : Fin q} : wrz R [] = [] := rfl
theorem wrz_cons {R c : Fin q} {l : List (Fin q)} : wrz R (c :: l) = ((wrz R l).headD 0 * R + c) :: wrz R l := rfl
theorem wrz_len {R : Fin q} : ∀ l : List (Fin q), (wrz R l).length = l.length
  | [] => rfl
  | c :: l => by rw [wrz_cons, List.length_cons, List.length_cons, wrz_len l]
theorem wrz_hd {R : Fin q} : ∀ l : List (Fin q), (wrz R l).headD 0 = evz R l
  | [] => rfl
  | c :: l => by
    rw [wrz_cons]
    show (wrz R l).headD 0 * R + c = evz R l * R + c
    rw [wrz_hd l]
theorem wrz_ev {R X : Fin q} : ∀ l : List (Fin q), X * evz X l = (X - R) * evz X (wrz R l) + R * evz R l
  | [] => by show X * 0 = (X - R) * 0 + R * 0; grind
  | c :: l => by
    have ih := wrz_ev (R := R) (X := X) l
    rw [wrz_cons, wrz_hd]
    show X * (evz X l * X + c) = (X - R) * (evz X (wrz R l) * X + (evz R l * R + c)) + R * (evz R l * R + c)
    grind
/-- as many roots as entries: all entries are 0 -/
theorem roots0 (f : Fld q) : ∀ (xs l : List (Fin q)), xs.Nodup → l.length ≤ xs.length → (∀ x, x ∈ xs → evz x l = 0) → ∀ c, c ∈ l → c = 0
  | _, [], _, _, _ => fun _ h => nomatch h
  | [], _ :: _, _, h, _ => by simp at h
  | x :: xs, c :: l, hn, hl, hr => by
    obtain ⟨n1, n2⟩ := List.nodup_cons.mp hn
    have r0 : evz x l * x + c = 0 := hr x List.mem_cons_self
    have ih := roots0 f xs (wrz x l) n2 (by rw [wrz_len]; simpa using hl) (fun y hy => by
      have e1 := wrz_ev (R := x) (X := y) l
      have e2 : evz y l * y + c = 0 := hr y (List.mem_cons_of_mem _ hy)
      have ne : y - x ≠ 0 := fun z => n1 (by
        have : y = x := by grind
        rw [← this]; exact hy)
      have : (y - x) * evz y (wrz x l) = 0 := by grind
      exact (f.no this).resolve_left ne)
    have z : ∀ m : List (Fin q), (∀ c, c ∈ wrz x m → c = 0) → (∀ c, c ∈ m → c = 0) ∧ evz x m = 0 := by
      intro m
      induction m with
      | nil => exact fun _ => ⟨fun _ h => (nomatch h), rfl⟩
      | cons d m ihm =>
        intro h
        rw [wrz_cons] at h
        obtain ⟨h1, h2⟩ := ihm fun c hc => h c (List.mem_cons_of_mem _ hc)
        have h3 := h _ List.mem_cons_self
        rw [wrz_hd, h2] at h3
        have d0 : d = 0 := by grind
        refine ⟨fun c hc => ?_, ?_⟩
        · rcases List.mem_cons.mp hc with rfl | hc
          · exact d0
          · exact h1 c hc
        · show evz x m * x + d = 0
          rw [h2, d0]
          grind
    obtain ⟨z1, z2⟩ := z l ih
    intro a ha
    rcases List.mem_cons.mp ha with rfl | ha
    · rw [z2] at r0; grind
    · exact z1 a ha
theorem evz_sub {X : Fin q} : ∀ (l m : List (Fin q)), l.length = m.length → evz X (List.zipWith (· - ·) l m) = evz X l - evz X m
  | [], [], _ => by show (0 : Fin q) = 0 - 0; grind
  | a :: l, b :: m, h => by
    have ih := evz_sub (X := X) l m (by simpa using h)
    show evz X (List.zipWith (· - ·) l m) * X + (a - b) = (evz X l * X + a) - (evz X m * X + b)
    rw [ih]
    grind
/-- one polynomial alone has these values -/
theorem evz_one (f : Fld q) {xs l m : List (Fin q)} (hn : xs.Nodup) (hl : l.length = m.length) (hx : l.length ≤ xs.length) (h : ∀ x, x ∈ xs → evz x l = evz x m) : l = m := by
  have z := roots0 f xs (List.zipWith (· - ·) l m) hn (by rw [List.length_zipWith, ← hl, Nat.min_self]; exact hx) (fun x hx => by rw [evz_sub l m hl, h x hx]; grind)
  clear h hx hn
  induction l generalizing m with
  | nil => cases m with
    | nil => rfl
    | cons b m => simp at hl
  | cons a l ih => cases m with
    | nil => simp at hl
    | cons b m =>
      rw [List.zipWith_cons_cons] at z
      have e := z _ List.mem_cons_self
      have e2 := ih (m := m) (by simpa using hl) fun c hc => z c (List.mem_cons_of_mem _ hc)
      have : a = b := by grind
      rw [this, e2]
/-! numbers -/
abbrev ZL (q : Nat) [NeZero q] (l : List Int) : List (Fin q) := l.map (zq q)
def trI (q : Nat) (r : Int) (cs : List Int) : List Int := List.zipWith (fun hi lo => (hi - r * lo) % (q : Int)) (0 :: cs) (cs ++ [0])
def wrI (q : Nat) (r : Int) (cs : List Int) : List Int := cs.foldr (fun c t => (t.headD 0 * r + c) % (q : Int) :: t) []
theorem wrI_cons {r c : Int} {cs : List Int} : wrI q r (c :: cs) = ((wrI q r cs).headD 0 * r + c) % (q : Int) :: wrI q r cs := rfl
theorem wrI_zq {r : Int} : ∀ cs : List Int, ZL q (wrI q r cs) = wrz (zq q r) (ZL q cs)
  | [] => rfl
  | c :: cs => by
    have ih := wrI_zq (r := r) cs
    have hd : zq q ((wrI q r cs).headD 0) = (wrz (zq q r) (ZL q cs)).headD 0 := by
      rw [← ih]
      cases wrI q r cs with
      | nil => exact zq_zero
      | cons a l => rfl
    rw [wrI_cons]
    show zq q (((wrI q r cs).headD 0 * r + c) % (q : Int)) :: ZL q (wrI q r cs) = ((wrz (zq q r) (ZL q cs)).headD 0 * zq q r + zq q c) :: wrz (zq q r) (ZL q cs)
    rw [ih, zq_mod, zq_add, zq_mul, hd]
theorem wrI_len {r : Int} : ∀ cs : List Int, (wrI q r cs).length = cs.length
  | [] => rfl
  | c :: cs => by rw [wrI_cons, List.length_cons, List.length_cons, wrI_len cs]
theorem evz_comb {X : Fin q} {r : Int} : ∀ (l m : List Int), l.length = m.length → evz X (ZL q (List.zipWith (fun hi lo => (hi - r * lo) % (q : Int)) l m)) = evz X (ZL q l) - zq q r * evz X (ZL q m)
  | [], [], _ => by show (0 : Fin q) = 0 - zq q r * 0; grind
  | a :: l, b :: m, h => by
    have ih := evz_comb (X := X) (r := r) l m (by simpa using h)
    show evz X (ZL q (List.zipWith (fun hi lo => (hi - r * lo) % (q : Int)) l m)) * X + zq q ((a - r * b) % (q : Int)) = (evz X (ZL q l) * X + zq q a) - zq q r * (evz X (ZL q m) * X + zq q b)
    rw [ih, zq_mod, zq_sub, zq_mul]
    grind
theorem evz_app0 {X : Fin q} : ∀ l : List Int, evz X (ZL q (l ++ [0])) = evz X (ZL q l)
  | [] => by show 0 * X + zq q 0 = 0; rw [zq_zero]; grind
  | a :: l => by show evz X (ZL q (l ++ [0])) * X + zq q a = evz X (ZL q l) * X + zq q a; rw [evz_app0 l]
theorem trI_ev {X : Fin q} {r : Int} (cs : List Int) : evz X (ZL q (trI q r cs)) = (X - zq q r) * evz X (ZL q cs) := by
  unfold trI
  rw [evz_comb _ _ (by rw [List.length_cons, List.length_append]; rfl), evz_app0]
  show evz X (ZL q cs) * X + zq q 0 - _ = _
  rw [zq_zero]
  grind
theorem trI_len {r : Int} {cs : List Int} : (trI q r cs).length = cs.length + 1 := by
  unfold trI
  rw [List.length_zipWith, List.length_cons, List.length_append]
  exact Nat.min_self _
theorem trI_last {r c : Int} {l : List Int} : ∃ t, trI q r (l ++ [c]) = t ++ [c % (q : Int)] := by
  unfold trI
  refine ⟨List.zipWith (fun hi lo => (hi - r * lo) % (q : Int)) (0 :: l) (l ++ [c]), ?_⟩
  rw [show (0 : Int) :: (l ++ [c]) = (0 :: l) ++ [c] from rfl, List.zipWith_append (by rw [List.length_cons, List.length_append]; rfl)]
  congr 1
  show [(c - r * 0) % (q : Int)] = _
  rw [Int.mul_zero, Int.sub_zero]
theorem wrI_last {r c : Int} : ∀ l : List Int, ∃ t, wrI q r (l ++ [c]) = t ++ [c % (q : Int)]
  | [] => ⟨[], by show [(0 * r + c) % (q : Int)] = _; rw [Int.zero_mul, Int.zero_add]; rfl⟩
  | a :: l => by
    obtain ⟨t, e⟩ := wrI_last (r := r) (c := c) l
    refine ⟨((wrI q r (l ++ [c])).headD 0 * r + a) % (q : Int) :: t, ?_⟩
    rw [List.cons_append, wrI_cons, e]
    rfl
def whI (q : Nat) (ps : List Int) : List Int := ps.foldl (fun l r => trI q r l) [1]
def prz (X : Fin q) : List Int → Fin q
  | [] => 1
  | r :: rs => (X - zq q r) * prz X rs
theorem prz_zero {X : Fin q} : ∀ {ps : List Int} {r : Int}, r ∈ ps → X = zq q r → prz X ps = 0
  | a :: ps, r, h, e => by
    show (X - zq q a) * prz X ps = 0
    rcases List.mem_cons.mp h with rfl | h
    · rw [e]; grind
    · rw [prz_zero h e]; grind
theorem whI_gen {X : Fin q} : ∀ (ps l : List Int), evz X (ZL q (ps.foldl (fun l r => trI q r l) l)) = evz X (ZL q l) * prz X ps
  | [], l => by show _ = _ * 1; grind
  | r :: ps, l => by
    rw [List.foldl_cons, whI_gen ps, trI_ev]
    show _ = _ * ((X - zq q r) * prz X ps)
    grind
theorem whI_len : ∀ (ps l : List Int), (ps.foldl (fun l r => trI q r l) l).length = l.length + ps.length
  | [], _ => rfl
  | r :: ps, l => by rw [List.foldl_cons, whI_len ps, trI_len, List.length_cons]; omega
theorem whI_last (h1 : 1 < q) : ∀ (ps : List Int) (l : List Int), (∃ t, l = t ++ [1]) → ∃ t, ps.foldl (fun l r => trI q r l) l = t ++ [1]
  | [], _, h => h
  | r :: ps, l, h => by
    rw [List.foldl_cons]
    refine whI_last h1 ps _ ?_
    obtain ⟨t, rfl⟩ := h
    obtain ⟨t', e⟩ := trI_last (q := q) (r := r) (c := 1) (l := t)
    exact ⟨t', by rw [e, Int.emod_eq_of_lt (by omega) (by omega)]⟩
/-- the part that belongs to a place -/
def paI (q : Nat) (ps : List Int) (r : Int) : List Int := wrI q r (whI q ps).tail
theorem pa_len {ps : List Int} {r : Int} : (paI q ps r).length = ps.length := by
  unfold paI whI
  rw [wrI_len, List.length_tail, whI_len]
  show 1 + ps.length - 1 = _
  omega
theorem pa_ev {ps : List Int} {r : Int} (hr : r ∈ ps) {X : Fin q} : (X - zq q r) * evz X (ZL q (paI q ps r)) = evz X (ZL q (whI q ps)) := by
  have w0 : evz (zq q r) (ZL q (whI q ps)) = 0 := by
    unfold whI
    rw [whI_gen, prz_zero hr rfl]
    grind
  unfold paI
  rw [wrI_zq]
  cases hw : whI q ps with
  | nil =>
    have := whI_len (q := q) ps [1]
    unfold whI at hw
    rw [hw] at this
    simp at this
    omega
  | cons c cs =>
    rw [hw] at w0
    have e := wrz_ev (R := zq q r) (X := X) (ZL q cs)
    have w1 : evz (zq q r) (ZL q cs) * zq q r + zq q c = 0 := w0
    show (X - zq q r) * evz X (wrz (zq q r) (ZL q cs)) = evz X (ZL q cs) * X + zq q c
    grind
theorem wh_zero {ps : List Int} {r : Int} (hr : r ∈ ps) : evz (zq q r) (ZL q (whI q ps)) = 0 := by
  unfold whI
  rw [whI_gen, prz_zero hr rfl]
  grind
theorem pa_other (f : Fld q) {ps : List Int} {r s : Int} (hr : r ∈ ps) (hs : s ∈ ps) (hne : zq q s ≠ zq q r) : evz (zq q s) (ZL q (paI q ps r)) = 0 := by
  have e := pa_ev hr (X := zq q s)
  rw [wh_zero hs] at e
  exact (f.no e).resolve_left fun z => hne (by grind)
theorem pa_self (f : Fld q) (h1 : 1 < q) {ps : List Int} {r : Int} (hn : (ZL q ps).Nodup) (hr : r ∈ ps) : evz (zq q r) (ZL q (paI q ps r)) ≠ 0 := fun z => by
  have all : ∀ x, x ∈ ZL q ps → evz x (ZL q (paI q ps r)) = 0 := fun x hx => by
    obtain ⟨s, hs, rfl⟩ := List.mem_map.mp hx
    by_cases c : zq q s = zq q r
    · rw [c]; exact z
    · exact pa_other f hr hs c
  have z0 := roots0 f (ZL q ps) (ZL q (paI q ps r)) hn (by rw [List.length_map, List.length_map, pa_len]; exact Nat.le_refl _) all
  obtain ⟨t, ht⟩ := whI_last h1 ps [1] ⟨[], rfl⟩
  have hl := whI_len (q := q) ps [1]
  have hpos : 0 < ps.length := List.length_pos_of_mem hr
  have ht' : whI q ps = t ++ [1] := ht
  cases t with
  | nil => rw [ht] at hl; have : 1 = 1 + ps.length := hl; omega
  | cons a t =>
    obtain ⟨u, hu⟩ := wrI_last (q := q) (r := r) (c := 1) t
    have e : paI q ps r = u ++ [1 % (q : Int)] := by
      unfold paI
      rw [ht']
      exact hu
    have := z0 (zq q (1 % (q : Int))) (by rw [e]; exact List.mem_map.mpr ⟨_, List.mem_append.mpr (.inr List.mem_cons_self), rfl⟩)
    rw [zq_mod, zq_one h1] at this
    have : (1 : Fin q).val = (0 : Fin q).val := by rw [this]
    have h1' : ((1 : Fin q).val) = 1 % q := rfl
    have h0' : ((0 : Fin q).val) = 0 := rfl
    rw [h1', h0', Nat.mod_eq_of_lt h1] at this
    omega
end

/-! ### interpolation, by what the program does -/
section
variable {q : Nat} [NeZero q]
def ivN (q v : Nat) : Nat := ((List.range q).find? fun d => Nat.beq (v * d % q) 1).getD 0
theorem ivN_ok {v : Nat} (hq : prB q = true) (h127 : q ≤ 127) (hv : v < q) (h0 : v ≠ 0) : ivN q v < q ∧ v * ivN q v % q = 1 := by
  obtain ⟨d, hd, e⟩ := invN hq h127 hv h0
  unfold ivN
  cases hf : (List.range q).find? fun d => Nat.beq (v * d % q) 1 with
  | none =>
    have := List.find?_eq_none.mp hf d (List.mem_range.mpr hd)
    rw [e] at this
    exact absurd rfl this
  | some x =>
    have h1 := List.find?_some hf
    have h2 := List.mem_of_find?_eq_some hf
    exact ⟨List.mem_range.mp h2, Nat.beq_eq.mp h1⟩
def plI (q : Nat) (p : Int × Int) : Int := p.1 % (q : Int)
def scI (q : Nat) (ps : List Int) (p : Int × Int) : Int := p.2 * (ivN q (hor q (plI q p) (paI q ps (plI q p))).toNat : Nat)
def stI (q : Nat) (ps : List Int) (f : List Int) (p : Int × Int) : List Int := List.zipWith (fun old new => (old + scI q ps p * new) % (q : Int)) f (paI q ps (plI q p))
def itI (q : Nat) (pts : List (Int × Int)) : List Int := pts.foldl (stI q (pts.map (plI q))) (List.replicate pts.length 0)
theorem evz_add2 {X : Fin q} {s : Int} : ∀ (l m : List Int), l.length = m.length → evz X (ZL q (List.zipWith (fun old new => (old + s * new) % (q : Int)) l m)) = evz X (ZL q l) + zq q s * evz X (ZL q m)
  | [], [], _ => by show (0 : Fin q) = 0 + zq q s * 0; grind
  | a :: l, b :: m, h => by
    have ih := evz_add2 (X := X) (s := s) l m (by simpa using h)
    show evz X (ZL q (List.zipWith (fun old new => (old + s * new) % (q : Int)) l m)) * X + zq q ((a + s * b) % (q : Int)) = (evz X (ZL q l) * X + zq q a) + zq q s * (evz X (ZL q m) * X + zq q b)
    rw [ih, zq_mod, zq_add, zq_mul]
    grind
theorem stI_len {ps f : List Int} {p : Int × Int} (h : f.length = ps.length) : (stI q ps f p).length = ps.length := by
  unfold stI
  rw [List.length_zipWith, pa_len, h, Nat.min_self]
theorem stI_fold_len {ps : List Int} : ∀ (l : List (Int × Int)) (f : List Int), f.length = ps.length → (l.foldl (stI q ps) f).length = ps.length
  | [], _, h => h
  | p :: l, f, h => by rw [List.foldl_cons]; exact stI_fold_len l _ (stI_len h)
theorem stI_ev {X : Fin q} {ps f : List Int} {p : Int × Int} (h : f.length = ps.length) : evz X (ZL q (stI q ps f p)) = evz X (ZL q f) + zq q (scI q ps p) * evz X (ZL q (paI q ps (plI q p))) := by
  unfold stI
  exact evz_add2 _ _ (by rw [h, pa_len])
theorem zq_pl {p : Int × Int} : zq q (plI q p) = zq q p.1 := zq_mod _
theorem it_other (fd : Fld q) {ps : List Int} {r : Int} (hr : r ∈ ps) : ∀ (l : List (Int × Int)) (f : List Int), f.length = ps.length → (∀ p, p ∈ l → plI q p ∈ ps ∧ zq q p.1 ≠ zq q r) → evz (zq q r) (ZL q (l.foldl (stI q ps) f)) = evz (zq q r) (ZL q f)
  | [], _, _, _ => rfl
  | p :: l, f, hf, h => by
    obtain ⟨h1, h2⟩ := h p List.mem_cons_self
    rw [List.foldl_cons, it_other fd hr l _ (stI_len hf) (fun x hx => h x (List.mem_cons_of_mem _ hx)), stI_ev hf, pa_other fd h1 hr (by rw [zq_pl]; exact fun z => h2 z.symm)]
    grind
theorem it_one (fd : Fld q) (hq : prB q = true) (h3 : 3 ≤ q) (h127 : q ≤ 127) {ps : List Int} (hn : (ZL q ps).Nodup) {p : Int × Int} (hp : plI q p ∈ ps) : zq q (scI q ps p) * evz (zq q (plI q p)) (ZL q (paI q ps (plI q p))) = zq q p.2 := by
  have ne := pa_self fd (by omega) hn hp
  have hl := hor_lt (q := q) (by omega) (x := plI q p) (paI q ps (plI q p))
  have hz := zq_hor (q := q) (x := plI q p) (paI q ps (plI q p))
  obtain ⟨v, hv⟩ := Int.eq_ofNat_of_zero_le hl.1
  have hv' : hor q (plI q p) (paI q ps (plI q p)) = (v : Int) := hv
  have vq : v < q := by omega
  have v0 : v ≠ 0 := fun z => by
    subst z
    rw [hv'] at hz
    exact ne (hz.symm.trans zq_zero)
  obtain ⟨_, e⟩ := ivN_ok hq h127 vq v0
  have ez : zq q (v : Nat) * zq q (ivN q v : Nat) = 1 := by
    rw [← zq_mul, ← zq_one (by omega), zq_eq, ← Int.natCast_mul, ← Int.natCast_emod, e, Int.emod_eq_of_lt (by omega) (by omega)]
    rfl
  unfold scI
  rw [← hz, hv', Int.toNat_natCast, zq_mul]
  grind
theorem it_all (fd : Fld q) (hq : prB q = true) (h3 : 3 ≤ q) (h127 : q ≤ 127) {ps : List Int} (hn : (ZL q ps).Nodup) : ∀ (l : List (Int × Int)) (f : List Int), f.length = ps.length → (∀ p, p ∈ l → plI q p ∈ ps) → (l.map fun p => zq q p.1).Nodup → (∀ p, p ∈ l → evz (zq q p.1) (ZL q f) = 0) → ∀ p, p ∈ l → evz (zq q p.1) (ZL q (l.foldl (stI q ps) f)) = zq q p.2
  | [], _, _, _, _, _, _, h => nomatch h
  | a :: l, f, hf, hps, hd, hz, p, hp => by
    rw [List.map_cons] at hd
    obtain ⟨d1, d2⟩ := List.nodup_cons.mp hd
    have ha := hps a List.mem_cons_self
    rw [List.foldl_cons]
    rcases List.mem_cons.mp hp with rfl | hp
    · rw [← zq_pl, it_other fd ha l _ (stI_len hf) (fun x hx => ⟨hps x (List.mem_cons_of_mem _ hx), fun z => d1 (List.mem_map.mpr ⟨x, hx, by rw [z, zq_pl]⟩)⟩), stI_ev hf, it_one fd hq h3 h127 hn ha, zq_pl, hz p List.mem_cons_self]
      grind
    · refine it_all fd hq h3 h127 hn l _ (stI_len hf) (fun x hx => hps x (List.mem_cons_of_mem _ hx)) d2 (fun x hx => ?_) p hp
      have hx' := hps x (List.mem_cons_of_mem _ hx)
      rw [stI_ev hf, hz x (List.mem_cons_of_mem _ hx), ← zq_pl, pa_other fd ha hx' (by rw [zq_pl, zq_pl]; exact fun z => d1 (List.mem_map.mpr ⟨x, hx, z⟩))]
      grind
theorem evz_zeros {X : Fin q} : ∀ n : Nat, evz X (ZL q (List.replicate n 0)) = 0
  | 0 => rfl
  | n + 1 => by
    rw [List.replicate_succ]
    show evz X (ZL q (List.replicate n 0)) * X + zq q 0 = 0
    rw [evz_zeros n, zq_zero]
    grind
theorem itI_len {pts : List (Int × Int)} : (itI q pts).length = pts.length := by
  unfold itI
  rw [stI_fold_len _ _ (by rw [List.length_replicate, List.length_map]), List.length_map]
theorem zipW_mem {α β γ : Type} {f : α → β → γ} {P : γ → Prop} (h : ∀ a b, P (f a b)) : ∀ (l : List α) (m : List β) (c : γ), c ∈ List.zipWith f l m → P c
  | [], _, _, hc => by rw [List.zipWith_nil_left] at hc; cases hc
  | _ :: _, [], _, hc => by rw [List.zipWith_nil_right] at hc; cases hc
  | a :: l, b :: m, c, hc => by
    rw [List.zipWith_cons_cons] at hc
    rcases List.mem_cons.mp hc with rfl | hc
    · exact h a b
    · exact zipW_mem h l m c hc
theorem stI_lt {ps f : List Int} {p : Int × Int} : ∀ c, c ∈ stI q ps f p → 0 ≤ c ∧ c < q := by
  have h0 : 0 < q := Nat.pos_of_ne_zero (NeZero.ne q)
  exact zipW_mem (f := fun old new => (old + scI q ps p * new) % (q : Int)) (P := fun c : Int => 0 ≤ c ∧ c < (q : Int)) (fun a b => ⟨Int.emod_nonneg _ (by omega), Int.emod_lt_of_pos _ (by omega)⟩) _ _
theorem itI_lt {pts : List (Int × Int)} : ∀ c, c ∈ itI q pts → 0 ≤ c ∧ c < q := by
  have h0 : 0 < q := Nat.pos_of_ne_zero (NeZero.ne q)
  have key : ∀ (l : List (Int × Int)) (f : List Int), (∀ c, c ∈ f → 0 ≤ c ∧ c < q) → ∀ c, c ∈ l.foldl (stI q (pts.map (plI q))) f → 0 ≤ c ∧ c < q := by
    intro l
    induction l with
    | nil => exact fun _ h => h
    | cons p l ih => exact fun f _ => ih _ stI_lt
  exact key _ _ fun c hc => by
    have := (List.mem_replicate.mp hc).2
    omega
theorem itI_ev (hq : prB q = true) (h3 : 3 ≤ q) (h127 : q ≤ 127) {pts : List (Int × Int)} (hn : (pts.map fun p => zq q p.1).Nodup) : ∀ p, p ∈ pts → evz (zq q p.1) (ZL q (itI q pts)) = zq q p.2 := by
  have e : ZL q (pts.map (plI q)) = pts.map fun p => zq q p.1 := by
    unfold ZL
    rw [List.map_map]
    exact List.map_congr_left fun p _ => zq_pl
  unfold itI
  exact it_all (fld_of hq h3 h127) hq h3 h127 (by rw [e]; exact hn) pts _ (by rw [List.length_replicate, List.length_map]) (fun p hp => List.mem_map.mpr ⟨p, hp, rfl⟩) hn (fun p _ => evz_zeros _)
theorem zq_inj_list : ∀ {l m : List Int}, (∀ c, c ∈ l → 0 ≤ c ∧ c < q) → (∀ c, c ∈ m → 0 ≤ c ∧ c < q) → ZL q l = ZL q m → l = m
  | [], [], _, _, _ => rfl
  | [], _ :: _, _, _, h => by cases h
  | _ :: _, [], _, _, h => by cases h
  | a :: l, b :: m, hl, hm, h => by
    have h1 : zq q a = zq q b := List.head_eq_of_cons_eq h
    have h2 : ZL q l = ZL q m := List.tail_eq_of_cons_eq h
    have ha := hl a List.mem_cons_self
    have hb := hm b List.mem_cons_self
    rw [zq_eq, Int.emod_eq_of_lt ha.1 ha.2, Int.emod_eq_of_lt hb.1 hb.2] at h1
    rw [h1, zq_inj_list (fun c hc => hl c (List.mem_cons_of_mem _ hc)) (fun c hc => hm c (List.mem_cons_of_mem _ hc)) h2]
/-- the polynomial that has these values is the one that is told -/
theorem itI_is (hq : prB q = true) (h3 : 3 ≤ q) (h127 : q ≤ 127) {pts : List (Int × Int)} {cs : List Int} (hn : (pts.map fun p => zq q p.1).Nodup) (hl : cs.length = pts.length) (hc : ∀ c, c ∈ cs → 0 ≤ c ∧ c < q) (hv : ∀ p, p ∈ pts → zq q p.2 = evz (zq q p.1) (ZL q cs)) : itI q pts = cs := by
  refine zq_inj_list itI_lt hc ?_
  refine evz_one (fld_of hq h3 h127) (xs := pts.map fun p => zq q p.1) hn (by rw [List.length_map, List.length_map, itI_len, hl]) (by rw [List.length_map, List.length_map, itI_len]; exact Nat.le_refl _) fun x hx => ?_
  obtain ⟨p, hp, rfl⟩ := List.mem_map.mp hx
  rw [itI_ev hq h3 h127 hn p hp, hv p hp]
end

/-! ### what the law compares: plain things -/
inductive Pn : Nat → PV → Prop
  | int {n : Nat} {i : Int} : Pn (n + 1) (.int i)
  | bl {n : Nat} {b : Bool} : Pn (n + 1) (.bl b)
  | non {n : Nat} : Pn (n + 1) .non
  | str {n : Nat} {s : Str} (h : SeqAt.shaped (.str s) = true) : Pn (n + 1) (.str s)
  | tup {n : Nat} {ps : List PV} (h : ∀ p, p ∈ ps → Pn n p) (hl : ps.length ≤ 10000000) : Pn (n + 1) (.tup ps)
theorem forF_chkN {L : Type} {body : PV → Unit → Res (Fl Unit Unit)} (f : PV → Bool) : ∀ {ps : List PV}, (∀ p, p ∈ ps → body p () = .val (if f p = true then .nx () else .rt (.bl false) [])) → forF (L := L) body ps () = .val (if ps.all f = true then .nx () else .rt (.bl false) [])
  | [], _ => rfl
  | p :: ps, h => by
    unfold forF
    rw [h p List.mem_cons_self]
    cases e : f p with
    | false =>
      rw [if_neg (by decide), bind_val, List.all_cons, e, Bool.false_and, if_neg (by decide)]
    | true =>
      rw [if_pos rfl, bind_val, List.all_cons, e, Bool.true_and]
      exact forF_chkN f fun q hq => h q (List.mem_cons_of_mem _ hq)
theorem all_range {n : Nat} {g : Nat → Bool} (f : PV → Bool) (h : ∀ i, i < n → f (.int (i : Nat)) = g i) : (PN (List.range n)).all f = (List.range n).all g := by
  rw [Bool.eq_iff_iff, List.all_eq_true, List.all_eq_true]
  constructor
  · intro a i hi
    rw [← h i (List.mem_range.mp hi)]
    exact a _ (List.mem_map.mpr ⟨i, hi, rfl⟩)
  · intro a p hp
    obtain ⟨i, hi, rfl⟩ := List.mem_map.mp hp
    rw [h i (List.mem_range.mp hi)]
    exact a i hi
open Classical in
open Classical in
section
variable {q : Nat}
theorem hor_congr [NeZero q] (h0 : 0 < q) {x y : Int} {cs ds : List Int} (hx : zq q x = zq q y) (hc : cs.map (zq q) = ds.map (zq q)) : hor q x cs = hor q y ds := by
  have e : zq q (hor q x cs) = zq q (hor q y ds) := by rw [zq_hor, zq_hor, hx, hc]
  have h1 := hor_lt h0 (x := x) cs
  have h2 := hor_lt h0 (x := y) ds
  rwa [zq_eq, Int.emod_eq_of_lt (by omega) (by omega), Int.emod_eq_of_lt (by omega) (by omega)] at e
end

/-! ### loops and comprehensions, by equation -/
theorem forF_foldJ {S L α β : Type} {body : PV → S → Res (Fl S S)} (ea : α → PV) (eb : β → S) (f : β → α → β) (J : Nat → β → Prop) : ∀ (l : List α) (b : β), J l.length b → (∀ a, a ∈ l → ∀ n b, J (n + 1) b → body (ea a) (eb b) = .val (.nx (eb (f b a))) ∧ J n (f b a)) → forF (L := L) body (l.map ea) (eb b) = .val (.nx (eb (l.foldl f b))) ∧ J 0 (l.foldl f b)
  | [], b, hb, _ => ⟨rfl, hb⟩
  | a :: l, b, hb, h => by
    obtain ⟨e, hb'⟩ := h a List.mem_cons_self l.length b hb
    obtain ⟨e2, h2⟩ := forF_foldJ (L := L) ea eb f J l (f b a) hb' fun c hc => h c (List.mem_cons_of_mem _ hc)
    rw [List.map_cons, forF_c, e, bind_val, List.foldl_cons]
    exact ⟨e2, h2⟩
theorem forF_foldX {S L α β : Type} {body : PV → S → Res (Fl S S)} {ps : List PV} {s : S} {X : Res (Fl S L)} (hF : forF body ps s = X) (ea : α → PV) (eb : β → S) (f : β → α → β) (J : Nat → β → Prop) (l : List α) (b : β) (hp : ps = l.map ea) (hs : s = eb b) (hJ : J l.length b) (st : ∀ a, a ∈ l → ∀ n b, J (n + 1) b → body (ea a) (eb b) = .val (.nx (eb (f b a))) ∧ J n (f b a)) : X = .val (.nx (eb (l.foldl f b))) ∧ J 0 (l.foldl f b) := by
  subst hF hp hs
  exact forF_foldJ ea eb f J l b hJ st
theorem forF_invNX {S L : Type} {body : PV → S → Res (Fl S S)} {I : Nat → S → Prop} {ps : List PV} {s : S} {X : Res (Fl S L)} (hF : forF body ps s = X) (hI : I 0 s) (hb : ∀ i p, ps[i]? = some p → ∀ s, I i s → ∃ s', body p s = .val (.nx s') ∧ I (i + 1) s') : ∃ s', X = .val (.nx s') ∧ I ps.length s' := by
  subst hF
  have key : ∀ (ps : List PV) (k : Nat) (s : S), I k s → (∀ i p, ps[i]? = some p → ∀ s, I (k + i) s → ∃ s', body p s = .val (.nx s') ∧ I (k + i + 1) s') → ∃ s', forF (L := L) body ps s = .val (.nx s') ∧ I (k + ps.length) s' := by
    intro ps
    induction ps with
    | nil => exact fun k s h _ => ⟨s, rfl, h⟩
    | cons p ps ih =>
      intro k s h hb
      obtain ⟨s1, e1, h1⟩ := hb 0 p rfl s h
      obtain ⟨s2, e2, h2⟩ := ih (k + 1) s1 h1 fun i q hq s hs => by
        have := hb (i + 1) q (by simpa using hq) s (by rw [show k + (i + 1) = k + 1 + i by omega]; exact hs)
        rwa [show k + (i + 1) + 1 = k + 1 + i + 1 by omega] at this
      refine ⟨s2, ?_, ?_⟩
      · unfold forF
        rw [e1, bind_val]
        exact e2
      · rw [List.length_cons, show k + (ps.length + 1) = k + 1 + ps.length by omega]
        exact h2
  obtain ⟨s', e, h⟩ := key ps 0 s hI fun i p hp s hs => by
    rw [Nat.zero_add] at hs
    have := hb i p hp s hs
    rwa [Nat.zero_add]
  rw [Nat.zero_add] at h
  exact ⟨s', e, h⟩
theorem lcMapX {α β : Type} {d : PV → Res β} {e : β → Res PV} {PL : List PV} {X : Res (List PV)} (hE : lcF d (fun _ => .val true) e PL = X) (ea : α → PV) (dd : α → β) (g : α → PV) (l : List α) (hl : PL = l.map ea) (hd : ∀ a, a ∈ l → d (ea a) = .val (dd a)) (he : ∀ a, a ∈ l → e (dd a) = .val (g a)) : X = .val (l.map g) := by
  subst hE hl
  exact lcMap ea dd g l hd he
/-! ### the program's polynomials -/
section
variable {q : Nat} [NeZero q]
def ptP (p : Int × Int) : PV := .tup [.int p.1, .int p.2]
theorem mkT1 {a : PV} : mkT [a] = .val (.tup [a]) := mkT_ok (by show 1 ≤ 10000000; decide)
theorem mkT2 {a b : PV} : mkT [a, b] = .val (.tup [a, b]) := mkT_ok (by show 2 ≤ 10000000; decide)
theorem PZ_ap {a b : List Int} : PZ a ++ PZ b = PZ (a ++ b) := by unfold PZ; rw [List.map_append]
theorem zip_with {f : Int → Int → Int} : ∀ (l m : List Int), (List.zip l m).map (fun p => PV.int (f p.1 p.2)) = PZ (List.zipWith f l m)
  | [], _ => rfl
  | _ :: _, [] => rfl
  | a :: l, b :: m => by
    rw [List.zip_cons_cons, List.map_cons, zip_with l m, List.zipWith_cons_cons]
    rfl
theorem times_root_ok {cs : List Int} {r : Int} (hr : 0 ≤ r ∧ r < q) (hq : q < 1000) (hl : cs.length ≤ 1000) : m_times_root (.tup (PZ cs)) (.int r) (.int (q : Nat)) = .val (.tup (PZ (trI q r cs))) := by
  have e1 : mkT (PV.int 0 :: PZ cs) = .val (.tup (PZ (0 :: cs))) := mkT_ok (by rw [List.length_cons, PZ_len]; omega)
  have e2 : mkT (PZ cs ++ [PV.int 0]) = .val (.tup (PZ (cs ++ [0]))) := by
    rw [show [PV.int 0] = PZ [0] from rfl, PZ_ap]
    exact mkT_ok (by rw [PZ_len, List.length_append]; show cs.length + 1 ≤ _; omega)
  have zw : zipW (.tup (PZ (0 :: cs))) (.tup (PZ (cs ++ [0]))) = .val ((List.zip (0 :: cs) (cs ++ [0])).map ptP) := congrArg Res.val (zipP_map PV.int PV.int _ _)
  have sz : sized ((List.zip (0 :: cs) (cs ++ [0])).map ptP).length = .val () := sized_small (by rw [List.length_map, List.length_zip, List.length_cons]; omega)
  unfold m_times_root
  simp -implicitDefEqProofs only [bind_val, asB_bl, if_true, Bool.not_true, Bool.not_false, Bool.false_eq_true, if_false, retF_rt, seqF_nx, seqF_rt, asSq_lst, asSq_tup, partP_int, leP_int, ltP_int, gtP_int, geP_int, addP_int, subP_int, intP_int, tupleP_lst, asLi_lst, List.append_nil, e1, e2, zw, sz]
  generalize hE : lcF _ _ _ _ = X
  have e := lcMapX hE ptP (fun p => (PV.int p.1, PV.int p.2)) (fun p => PV.int ((p.1 - r * p.2) % (q : Int))) (List.zip (0 :: cs) (cs ++ [0])) rfl (fun _ _ => rfl) (fun p _ => by
    have m : mulP (.int r) (.int p.2) = .val (.int (r * p.2)) := mulP_l (by omega) (by omega)
    have md : modP (.int (p.1 - r * p.2)) (.int (q : Nat)) = .val (.int ((p.1 - r * p.2) % (q : Int))) := modP_pos (by omega)
    simp -implicitDefEqProofs only [bind_val, asB_bl, if_true, Bool.not_true, Bool.not_false, Bool.false_eq_true, if_false, retF_rt, seqF_nx, seqF_rt, asSq_lst, asSq_tup, partP_int, leP_int, ltP_int, gtP_int, geP_int, addP_int, subP_int, intP_int, tupleP_lst, asLi_lst, m, md])
  rw [zip_with (f := fun hi lo => (hi - r * lo) % (q : Int))] at e
  subst e
  simp -implicitDefEqProofs only [bind_val, asB_bl, if_true, Bool.not_true, Bool.not_false, Bool.false_eq_true, if_false, retF_rt, seqF_nx, seqF_rt, asSq_lst, asSq_tup, partP_int, leP_int, ltP_int, gtP_int, geP_int, addP_int, subP_int, intP_int, tupleP_lst, asLi_lst]
  rfl
def wrF (q : Nat) (r : Int) (s : Int × List Int) (c : Int) : Int × List Int := ((s.1 * r + c) % (q : Int), s.2 ++ [(s.1 * r + c) % (q : Int)])
theorem wrF_fold {r : Int} : ∀ l : List Int, l.reverse.foldl (wrF q r) (0, []) = ((wrI q r l).headD 0, (wrI q r l).reverse)
  | [] => rfl
  | c :: l => by
    rw [List.reverse_cons, List.foldl_append, wrF_fold l, wrI_cons, List.reverse_cons]
    rfl
theorem wrI_lt (h0 : 0 < q) {r : Int} : ∀ {cs : List Int} (c : Int), c ∈ wrI q r cs → 0 ≤ c ∧ c < q
  | [], _, h => nomatch h
  | a :: cs, c, h => by
    rw [wrI_cons] at h
    rcases List.mem_cons.mp h with rfl | h
    · exact ⟨Int.emod_nonneg _ (by omega), Int.emod_lt_of_pos _ (by omega)⟩
    · exact wrI_lt h0 c h
theorem without_root_ok {cs : List Int} {r : Int} (hr : 0 ≤ r ∧ r < q) (hq : q < 1000) (hl : cs.length ≤ 1000) : m_without_root (.tup (PZ cs)) (.int r) (.int (q : Nat)) = .val (.tup (PZ (wrI q r cs.tail))) := by
  have mk0 : mkN ([] : List PV) = .val [] := mkN_ok (by show 0 ≤ 10000000; decide)
  have s1 : slP (.tup (PZ cs)) (some 1) none = .val (.tup (PZ cs.tail)) := (slT_from (k := 1)).trans (by rw [List.drop_one]; unfold PZ; rw [List.map_tail])
  unfold m_without_root
  simp -implicitDefEqProofs only [bind_val, asB_bl, if_true, Bool.not_true, Bool.not_false, Bool.false_eq_true, if_false, retF_rt, seqF_nx, seqF_rt, asSq_lst, asSq_tup, partP_int, leP_int, ltP_int, gtP_int, geP_int, addP_int, subP_int, intP_int, tupleP_lst, asLi_lst, mk0, s1]
  generalize hF : forF _ _ _ = X
  have e := (forF_foldX hF PV.int (fun s : Int × List Int => (PV.int s.1, PZ s.2)) (wrF q r) (fun n s => s.2.length + n ≤ 1000) cs.tail.reverse (0, []) (by unfold PZ; rw [List.map_reverse]) rfl (by rw [List.length_reverse, List.length_tail]; show 0 + (cs.length - 1) ≤ 1000; omega) (fun a _ n s hs => by
    have m : mulP (.int s.1) (.int r) = .val (.int (s.1 * r)) := mulP_r (by omega) (by omega)
    have md : modP (.int (s.1 * r + a)) (.int (q : Nat)) = .val (.int ((s.1 * r + a) % (q : Int))) := modP_pos (by omega)
    have sz : sized ((PZ s.2).length + 1) = .val () := sized_small (by rw [PZ_len]; omega)
    refine ⟨?_, ?_⟩
    · simp -implicitDefEqProofs only [bind_val, asB_bl, if_true, Bool.not_true, Bool.not_false, Bool.false_eq_true, if_false, retF_rt, seqF_nx, seqF_rt, asSq_lst, asSq_tup, partP_int, leP_int, ltP_int, gtP_int, geP_int, addP_int, subP_int, intP_int, tupleP_lst, asLi_lst, m, md, sz]
      show Res.val (Fl.nx (_, PZ s.2 ++ PZ [_])) = _
      rw [PZ_ap]
      rfl
    · show (s.2 ++ [_]).length + n ≤ 1000
      rw [List.length_append, List.length_singleton]
      omega)).1
  rw [wrF_fold] at e
  subst e
  simp -implicitDefEqProofs only [bind_val, asB_bl, if_true, Bool.not_true, Bool.not_false, Bool.false_eq_true, if_false, retF_rt, seqF_nx, seqF_rt, asSq_lst, asSq_tup, partP_int, leP_int, ltP_int, gtP_int, geP_int, addP_int, subP_int, intP_int, tupleP_lst, asLi_lst]
  unfold PZ
  rw [← List.map_reverse, List.reverse_reverse]
end
section
variable {q : Nat} [NeZero q]
theorem inverse_iv {v : Nat} (hq : prB q = true) (h3 : 3 ≤ q) (h127 : q ≤ 127) (hv : v < q) (h0 : v ≠ 0) : m_inverse (.int (v : Nat)) (.int (q : Nat)) = .val (.int (ivN q v : Nat)) := by
  obtain ⟨b, hb, e, eb⟩ := inverse_ok hq h127 hv h0
  obtain ⟨hi, ei⟩ := ivN_ok hq h127 hv h0
  rw [e]
  have z : ∀ d : Nat, v * d % q = 1 → zq q (v : Nat) * zq q (d : Nat) = 1 := fun d hd => by
    rw [← zq_mul, ← zq_one (by omega), zq_eq, ← Int.natCast_mul, ← Int.natCast_emod, hd, Int.emod_eq_of_lt (by omega) (by omega)]
    rfl
  have z1 := z b eb
  have z2 := z _ ei
  have z3 : zq q (b : Nat) = zq q (ivN q v : Nat) := by grind
  have := congrArg Fin.val z3
  rw [zq_nat hb, zq_nat hi] at this
  rw [this]
theorem lenSetI {l : List Int} (hl : l.length < 1000) : lenSetV (.lst (PZ l)) = .val (.int ((dedupI l).length : Nat)) := by
  unfold lenSetV PZ
  simp only [allI_map]
  rw [if_pos hl]
theorem dedupI_eq : ∀ {l : List Int}, (dedupI l).length = l.length → l.Nodup
  | [], _ => List.nodup_nil
  | x :: r, h => by
    unfold dedupI at h
    by_cases c : x ∈ r
    · rw [if_pos c, List.length_cons] at h; have := dedupI_le (l := r); omega
    · rw [if_neg c, List.length_cons, List.length_cons] at h
      exact List.nodup_cons.mpr ⟨c, dedupI_eq (by omega)⟩
theorem nodup_pl {pts : List (Int × Int)} : (pts.map (plI q)).Nodup ↔ (pts.map fun p => zq q p.1).Nodup := by
  unfold List.Nodup
  rw [List.pairwise_map, List.pairwise_map]
  constructor
  · exact fun h => h.imp fun hne z => hne (zq_eq.mp z)
  · exact fun h => h.imp fun hne z => hne (zq_eq.mpr z)
theorem zipP_two {α : Type} (f g : α → PV) : ∀ l : List α, zipP (l.map f) (l.map g) = l.map fun p => PV.tup [f p, g p]
  | [] => rfl
  | a :: l => congrArg (PV.tup [f a, g a] :: ·) (zipP_two f g l)
theorem repL_ok {xs : List PV} {k : Int} (h : -(2 ^ 63) ≤ k ∧ k < 2 ^ 63 ∧ xs.length * k.toNat ≤ sizeLine) : repL (.lst xs) (.int k) = .val (.lst (List.replicate k.toNat xs).flatten) := if_pos h
theorem ix_pt0 {p : Int × Int} : ixP (ptP p) (.int 0) = .val (.int p.1) := rfl
theorem ix_pt1 {p : Int × Int} : ixP (ptP p) (.int 1) = .val (.int p.2) := rfl
theorem mulP_rep {x y : PV} (h : mulI x y = .stuck) : mulP x y = repL x y := by
  unfold mulP orS
  rw [h]
theorem mulI_rep {xs : List PV} {k : Int} : mulI (.lst xs) (.int k) = .stuck := by
  unfold mulI orS ints2
  rfl
theorem sizeL : 10000000 ≤ sizeLine := by unfold sizeLine; decide
theorem rep0_ok {n : Nat} (hn : n ≤ 1000) : mulP (.lst [.int 0]) (.int (n : Nat)) = .val (.lst (PZ (List.replicate n 0))) := by
  have hs : [PV.int 0].length * ((n : Nat) : Int).toNat ≤ sizeLine := by
    rw [Int.toNat_natCast, List.length_singleton]
    exact Nat.le_trans (show 1 * n ≤ 10000000 by omega) sizeL
  have e : (List.replicate ((n : Nat) : Int).toNat [PV.int 0]).flatten = PZ (List.replicate n 0) := by
    rw [Int.toNat_natCast, List.flatten_replicate_singleton]
    unfold PZ
    rw [List.map_replicate]
  rw [mulP_rep mulI_rep, repL_ok ⟨by omega, by omega, hs⟩, e]
theorem interp_bad (h0 : 0 < q) {pts : List (Int × Int)} (hl : pts.length ≤ 500) (hn : ¬ (pts.map (plI q)).Nodup) : m_interpolate (.tup (pts.map ptP)) (.int (q : Nat)) = .exc "BadPoints" := by
  have sz : sized (pts.map ptP).length = .val () := sized_small (by rw [List.length_map]; omega)
  have ls := lenSetI (l := pts.map (plI q)) (by rw [List.length_map]; omega)
  have ln : lenP (.lst (PZ (pts.map (plI q)))) = .val (.int ((pts.map (plI q)).length : Nat)) := by rw [lenP_lst, PZ_len]
  have ne : neP (.int ((dedupI (pts.map (plI q))).length : Nat)) (.int ((pts.map (plI q)).length : Nat)) = .val (.bl true) := by
    rw [neP_int, decide_eq_false fun z => hn (dedupI_eq (by omega))]
    rfl
  unfold m_interpolate
  simp -implicitDefEqProofs only [bind_val, asB_bl, if_true, Bool.not_true, Bool.not_false, Bool.false_eq_true, if_false, retF_rt, seqF_nx, seqF_rt, asSq_lst, asSq_tup, partP_int, leP_int, ltP_int, gtP_int, geP_int, addP_int, subP_int, intP_int, tupleP_lst, asLi_lst, sz]
  generalize hE : lcF _ _ _ _ = X
  have e := lcMapX hE ptP ptP (fun p => PV.int (plI q p)) pts rfl (fun _ _ => rfl) (fun p _ => by
    have md : modP (.int p.1) (.int (q : Nat)) = .val (.int (plI q p)) := modP_pos (by omega)
    simp -implicitDefEqProofs only [bind_val, asB_bl, if_true, Bool.not_true, Bool.not_false, Bool.false_eq_true, if_false, retF_rt, seqF_nx, seqF_rt, asSq_lst, asSq_tup, partP_int, leP_int, ltP_int, gtP_int, geP_int, addP_int, subP_int, intP_int, tupleP_lst, asLi_lst, ix_pt0, md])
  have pz : pts.map (fun p => PV.int (plI q p)) = PZ (pts.map (plI q)) := by unfold PZ; rw [List.map_map]; rfl
  rw [pz] at e
  subst e
  simp -implicitDefEqProofs only [bind_val, asB_bl, if_true, Bool.not_true, Bool.not_false, Bool.false_eq_true, if_false, retF_rt, seqF_nx, seqF_rt, asSq_lst, asSq_tup, partP_int, leP_int, ltP_int, gtP_int, geP_int, addP_int, subP_int, intP_int, tupleP_lst, asLi_lst, ls, ln, ne, retF_exc]
theorem interp_ok (hq : prB q = true) (h3 : 3 ≤ q) (h127 : q ≤ 127) {pts : List (Int × Int)} (hl : pts.length ≤ 500) (hn : (pts.map (plI q)).Nodup) : m_interpolate (.tup (pts.map ptP)) (.int (q : Nat)) = .val (.tup (PZ (itI q pts))) := by
  have fd := fld_of hq h3 h127
  have pz : pts.map (fun p => PV.int (plI q p)) = PZ (pts.map (plI q)) := by unfold PZ; rw [List.map_map]; rfl
  have sz : sized (pts.map ptP).length = .val () := sized_small (by rw [List.length_map]; omega)
  have ls := lenSetI (l := pts.map (plI q)) (by rw [List.length_map]; omega)
  have ln : lenP (.lst (PZ (pts.map (plI q)))) = .val (.int ((pts.map (plI q)).length : Nat)) := by rw [lenP_lst, PZ_len]
  have ln2 : lenP (.tup (pts.map ptP)) = .val (.int (pts.length : Nat)) := by rw [lenP_tup, List.length_map]
  have ne : neP (.int ((dedupI (pts.map (plI q))).length : Nat)) (.int ((pts.map (plI q)).length : Nat)) = .val (.bl false) := by
    rw [neP_int, dedupI_nodup hn, decide_eq_true rfl]
    rfl
  have plt : ∀ p : Int × Int, 0 ≤ plI q p ∧ plI q p < q := fun p => ⟨Int.emod_nonneg _ (by omega), Int.emod_lt_of_pos _ (by omega)⟩
  have nz : (ZL q (pts.map (plI q))).Nodup := by
    have := nodup_pl.mp hn
    unfold ZL
    rw [List.map_map]
    exact (List.map_congr_left (fun p _ => (zq_pl (q := q) (p := p)).symm)) ▸ this
  have rp := rep0_ok (n := pts.length) (by omega)
  have zw : zipW (.lst (PZ (pts.map (plI q)))) (.tup (pts.map ptP)) = .val (pts.map fun p => PV.tup [.int (plI q p), ptP p]) := by
    rw [← pz]
    exact congrArg Res.val (zipP_two _ _ _)
  unfold m_interpolate
  simp -implicitDefEqProofs only [bind_val, asB_bl, if_true, Bool.not_true, Bool.not_false, Bool.false_eq_true, if_false, retF_rt, seqF_nx, seqF_rt, asSq_lst, asSq_tup, partP_int, leP_int, ltP_int, gtP_int, geP_int, addP_int, subP_int, intP_int, tupleP_lst, asLi_lst, sz]
  generalize hE : lcF _ _ _ _ = X
  have e := lcMapX hE ptP ptP (fun p => PV.int (plI q p)) pts rfl (fun _ _ => rfl) (fun p _ => by
    have md : modP (.int p.1) (.int (q : Nat)) = .val (.int (plI q p)) := modP_pos (by omega)
    simp -implicitDefEqProofs only [bind_val, asB_bl, if_true, Bool.not_true, Bool.not_false, Bool.false_eq_true, if_false, retF_rt, seqF_nx, seqF_rt, asSq_lst, asSq_tup, partP_int, leP_int, ltP_int, gtP_int, geP_int, addP_int, subP_int, intP_int, tupleP_lst, asLi_lst, ix_pt0, md])
  rw [pz] at e
  subst e
  simp -implicitDefEqProofs only [bind_val, asB_bl, if_true, Bool.not_true, Bool.not_false, Bool.false_eq_true, if_false, retF_rt, seqF_nx, seqF_rt, asSq_lst, asSq_tup, partP_int, leP_int, ltP_int, gtP_int, geP_int, addP_int, subP_int, intP_int, tupleP_lst, asLi_lst, ls, ln, ne, mkT1]
  generalize hF : forF _ _ _ = X
  have e1 := (forF_foldX hF PV.int (fun l : List Int => PV.tup (PZ l)) (fun l r => trI q r l) (fun n l => l.length + n ≤ 1000) (pts.map (plI q)) [1] rfl rfl (by rw [List.length_map]; show 1 + pts.length ≤ 1000; omega) (fun a ha n b hb => by
    obtain ⟨p, _, rfl⟩ := List.mem_map.mp ha
    exact ⟨by simp -implicitDefEqProofs only [bind_val, asB_bl, if_true, Bool.not_true, Bool.not_false, Bool.false_eq_true, if_false, retF_rt, seqF_nx, seqF_rt, asSq_lst, asSq_tup, partP_int, leP_int, ltP_int, gtP_int, geP_int, addP_int, subP_int, intP_int, tupleP_lst, asLi_lst, times_root_ok (plt p) (show q < 1000 by omega) (show b.length ≤ 1000 by omega)], by rw [trI_len]; omega⟩)).1
  subst e1
  have wl : (whI q (pts.map (plI q))).length ≤ 1000 := by
    have := whI_len (q := q) (pts.map (plI q)) [1]
    rw [List.length_map] at this
    unfold whI
    rw [this]
    show 1 + pts.length ≤ 1000
    omega
  have mk1 : mkL [PV.int 0] = .val (.lst [.int 0]) := mkL_ok (by show 1 ≤ 10000000; decide)
  simp -implicitDefEqProofs only [bind_val, asB_bl, if_true, Bool.not_true, Bool.not_false, Bool.false_eq_true, if_false, retF_rt, seqF_nx, seqF_rt, asSq_lst, asSq_tup, partP_int, leP_int, ltP_int, gtP_int, geP_int, addP_int, subP_int, intP_int, tupleP_lst, asLi_lst, mk1, ln2, rp, zw]
  generalize hF2 : forF _ _ _ = X2
  have e2 := (forF_foldX hF2 (fun p : Int × Int => PV.tup [.int (plI q p), ptP p]) (fun l : List Int => PV.lst (PZ l)) (stI q (pts.map (plI q))) (fun _ l => l.length = (pts.map (plI q)).length) pts (List.replicate pts.length 0) rfl rfl (by rw [List.length_replicate, List.length_map]) (fun p hp n f hf => by
    have hpm : plI q p ∈ pts.map (plI q) := List.mem_map.mpr ⟨p, hp, rfl⟩
    have wr : m_without_root (.tup (PZ ((pts.map (plI q)).foldl (fun l r => trI q r l) [1]))) (.int (plI q p)) (.int (q : Nat)) = .val (.tup (PZ (paI q (pts.map (plI q)) (plI q p)))) := without_root_ok (plt p) (by omega) wl
    have va := value_at_ok (q := q) (P := .tup (PZ (paI q (pts.map (plI q)) (plI q p)))) (cs := paI q (pts.map (plI q)) (plI q p)) (x := plI q p) rfl (by omega) (by omega)
    have ne := pa_self fd (by omega) nz hpm
    have hl2 := hor_lt (q := q) (by omega) (x := plI q p) (paI q (pts.map (plI q)) (plI q p))
    have hz := zq_hor (q := q) (x := plI q p) (paI q (pts.map (plI q)) (plI q p))
    obtain ⟨v, hv⟩ := Int.eq_ofNat_of_zero_le hl2.1
    have hv' : hor q (plI q p) (paI q (pts.map (plI q)) (plI q p)) = (v : Int) := hv
    have vq : v < q := by omega
    have v0 : v ≠ 0 := fun z => by
      subst z
      rw [hv'] at hz
      exact ne (hz.symm.trans zq_zero)
    have iv := inverse_iv hq h3 h127 vq v0
    have ivl := (ivN_ok hq h127 vq v0).1
    have m1 : mulP (.int p.2) (.int (ivN q v : Nat)) = .val (.int (scI q (pts.map (plI q)) p)) := by
      rw [mulP_r (by omega) (by omega)]
      unfold scI
      rw [hv', Int.toNat_natCast]
    have zw2 : zipW (.lst (PZ f)) (.tup (PZ (paI q (pts.map (plI q)) (plI q p)))) = .val ((List.zip f (paI q (pts.map (plI q)) (plI q p))).map ptP) := congrArg Res.val (zipP_map PV.int PV.int _ _)
    have sz2 : sized ((List.zip f (paI q (pts.map (plI q)) (plI q p))).map ptP).length = .val () := sized_small (by rw [List.length_map, List.length_zip]; rw [List.length_map] at hf; omega)
    refine ⟨?_, stI_len hf⟩
    have u2 : un2 (PV.tup [.int (plI q p), ptP p]) = .val (.int (plI q p), ptP p) := rfl
    simp -implicitDefEqProofs only [bind_val, asB_bl, if_true, Bool.not_true, Bool.not_false, Bool.false_eq_true, if_false, retF_rt, seqF_nx, seqF_rt, asSq_lst, asSq_tup, partP_int, leP_int, ltP_int, gtP_int, geP_int, addP_int, subP_int, intP_int, tupleP_lst, asLi_lst, u2, wr, ix_pt1, va, hv', iv, m1, zw2, sz2]
    generalize hE2 : lcF _ _ _ _ = X3
    have e3 := lcMapX hE2 ptP (fun p => (PV.int p.1, PV.int p.2)) (fun c => PV.int ((c.1 + scI q (pts.map (plI q)) p * c.2) % (q : Int))) (List.zip f (paI q (pts.map (plI q)) (plI q p))) rfl (fun _ _ => rfl) (fun c hc => by
      have c2 := wrI_lt (q := q) (by omega) c.2 (List.of_mem_zip (show (c.1, c.2) ∈ List.zip f (paI q (pts.map (plI q)) (plI q p)) from hc)).2
      have m : mulP (.int (scI q (pts.map (plI q)) p)) (.int c.2) = .val (.int (scI q (pts.map (plI q)) p * c.2)) := mulP_r (by omega) (by omega)
      have md : modP (.int (c.1 + scI q (pts.map (plI q)) p * c.2)) (.int (q : Nat)) = .val (.int ((c.1 + scI q (pts.map (plI q)) p * c.2) % (q : Int))) := modP_pos (by omega)
      simp -implicitDefEqProofs only [bind_val, asB_bl, if_true, Bool.not_true, Bool.not_false, Bool.false_eq_true, if_false, retF_rt, seqF_nx, seqF_rt, asSq_lst, asSq_tup, partP_int, leP_int, ltP_int, gtP_int, geP_int, addP_int, subP_int, intP_int, tupleP_lst, asLi_lst, m, md])
    rw [zip_with (f := fun old new => (old + scI q (pts.map (plI q)) p * new) % (q : Int))] at e3
    subst e3
    simp -implicitDefEqProofs only [bind_val, asB_bl, if_true, Bool.not_true, Bool.not_false, Bool.false_eq_true, if_false, retF_rt, seqF_nx, seqF_rt, asSq_lst, asSq_tup, partP_int, leP_int, ltP_int, gtP_int, geP_int, addP_int, subP_int, intP_int, tupleP_lst, asLi_lst]
    rfl)).1
  subst e2
  simp -implicitDefEqProofs only [bind_val, asB_bl, if_true, Bool.not_true, Bool.not_false, Bool.false_eq_true, if_false, retF_rt, seqF_nx, seqF_rt, asSq_lst, asSq_tup, partP_int, leP_int, ltP_int, gtP_int, geP_int, addP_int, subP_int, intP_int, tupleP_lst, asLi_lst]
  rfl
end

theorem rgL_n2 {q : Nat} (h : q ≤ 10000) : rgL 0 (q : Nat) = .val (PN (List.range q)) := by
  unfold rgL
  rw [if_pos ⟨by decide, by decide, by omega, by omega, by omega⟩, rngP_0]
def tabN (T : Nat → Nat → Nat) (q : Nat) : PV := .tup ((List.range q).map fun a => PV.tup (PN ((List.range q).map fun b => T a b)))
def entN (ls : List PV) (a b : Nat) : Nat := match ls[a]? with
  | some (.tup ps) => (match ps[b]? with
    | some (.int z) => z.toNat
    | _ => 0)
  | _ => 0
section
variable {q : Nat}
theorem law_value_ok {cs : List Int} {x : Int} (hl : cs.length ≤ 1000) (h0 : 0 < q) (hq : q < 2 ^ 64) : m__law_value (.tup (PZ cs)) (.int x) (.int (q : Nat)) = .val (.int (hor q x cs)) := by
  have ln : lenP (.tup (PZ cs)) = .val (.int (cs.length : Nat)) := by rw [lenP_tup, PZ_len]
  have rgl := rgL_n2 (q := cs.length) (by omega)
  unfold m__law_value
  simp -implicitDefEqProofs only [bind_val, asB_bl, if_true, Bool.not_true, Bool.not_false, Bool.false_eq_true, if_false, retF_rt, seqF_nx, seqF_rt, asSq_lst, asSq_tup, partP_int, leP_int, ltP_int, gtP_int, geP_int, addP_int, subP_int, intP_int, tupleP_lst, asLi_lst, ln, rgl, intP_int]
  generalize hF : forF _ _ _ = X
  have e := (forF_foldX hF (fun k : Nat => PV.int (k : Nat)) PV.int (fun v k => horF q x v (cs.getD k 0)) (fun _ v => 0 ≤ v ∧ v < q) (List.range cs.length).reverse 0 (by unfold PN; rw [List.map_reverse]) rfl (by omega) (fun k hk n v hv => by
    have hk := List.mem_range.mp (List.mem_reverse.mp hk)
    have ix : ixP (.tup (PZ cs)) (.int (k : Nat)) = .val (.int (cs.getD k 0)) := ixP_tup (by unfold PZ; rw [List.getElem?_map, List.getD_eq_getElem?_getD, List.getElem?_eq_getElem hk]; rfl)
    have m : mulP (.int v) (.int x) = .val (.int (v * x)) := mulP_l (by omega) (by omega)
    have md : modP (.int (v * x + cs.getD k 0)) (.int (q : Nat)) = .val (.int ((v * x + cs.getD k 0) % (q : Int))) := modP_pos (by omega)
    refine ⟨?_, Int.emod_nonneg _ (by omega), Int.emod_lt_of_pos _ (by omega)⟩
    simp -implicitDefEqProofs only [bind_val, asB_bl, if_true, Bool.not_true, Bool.not_false, Bool.false_eq_true, if_false, retF_rt, seqF_nx, seqF_rt, asSq_lst, asSq_tup, partP_int, leP_int, ltP_int, gtP_int, geP_int, addP_int, subP_int, intP_int, tupleP_lst, asLi_lst, m, ix, md, intP_int]
    rfl)).1
  have ce : ((List.range cs.length).reverse.map fun k => cs.getD k 0) = cs.reverse := by
    rw [List.map_reverse]
    refine congrArg List.reverse ?_
    refine List.ext_getElem (by rw [List.length_map, List.length_range]) fun i h1 h2 => ?_
    rw [List.getElem_map, List.getElem_range, List.getD_eq_getElem?_getD, List.getElem?_eq_getElem h2]
    rfl
  have e2 : (List.range cs.length).reverse.foldl (fun v k => horF q x v (cs.getD k 0)) 0 = hor q x cs := by
    unfold hor
    rw [← ce, List.foldl_map]
  rw [e2] at e
  subst e
  simp -implicitDefEqProofs only [bind_val, asB_bl, if_true, Bool.not_true, Bool.not_false, Bool.false_eq_true, if_false, retF_rt, seqF_nx, seqF_rt, asSq_lst, asSq_tup, partP_int, leP_int, ltP_int, gtP_int, geP_int, addP_int, subP_int, intP_int, tupleP_lst, asLi_lst]
end

/-! ### the law's draws of numbers and places -/
theorem shT : SeqAt.shaped (.str "told") = true := by decide +kernel
theorem shP' : SeqAt.shaped (.str "points") = true := by decide +kernel
theorem draw_lt {l : List PV} (hb : Bx l) (m : Int) (hm : 0 < m) (hm2 : m < 1073741824) : ∃ (r : Nat) (l' : List PV), m__law_draw (.lst l) (.int m) = .val (.int (r : Nat), .lst l') ∧ (r : Int) < m ∧ Bx l' := by
  obtain ⟨n, rfl⟩ := Int.eq_ofNat_of_zero_le (show 0 ≤ m by omega)
  obtain ⟨r, l', e, h, b⟩ := draw_nat hb (m := n) (by omega) (by omega)
  exact ⟨r, l', e, by omega, b⟩
theorem mkLn {l : List PV} (h : l.length ≤ 100) : mkL l = .val (.lst l) := mkL_ok (by omega)
theorem great_ok {l : List PV} (hb : Bx l) : ∃ (x : Int) (l' : List PV), m__law_great (.lst l) = .val (.int x, .lst l') ∧ Bx l' := by
  have mk4 : mkL [PV.int 1, .int 3, .int 20, .int 50] = .val (.lst [.int 1, .int 3, .int 20, .int 50]) := mkLn (by decide)
  have mk2 : ∀ a b : PV, mkL [a, b] = .val (.lst [a, b]) := fun a b => mkLn (by show 2 ≤ 100; decide)
  have m10 : ∀ x : Int, mulP (.int x) (.int 10) = .val (.int (x * 10)) := fun x => mulP_r (by decide) (by decide)
  obtain ⟨r, l1, d1, h1, b1⟩ := draw_lt hb 4 (by decide) (by decide)
  have ix : ∃ n : Nat, ixP (.lst [.int 1, .int 3, .int 20, .int 50]) (.int (r : Nat)) = .val (.int (n : Nat)) ∧ n < 100 := by
    match r, h1 with
    | 0, _ => exact ⟨1, ixP_lst (i := 0) rfl, by decide⟩
    | 1, _ => exact ⟨3, ixP_lst (i := 1) rfl, by decide⟩
    | 2, _ => exact ⟨20, ixP_lst (i := 2) rfl, by decide⟩
    | 3, _ => exact ⟨50, ixP_lst (i := 3) rfl, by decide⟩
    | k + 4, h => omega
  obtain ⟨n, ix, hn⟩ := ix
  have rg : rng1 (.int (n : Nat)) = .val (PN (List.range n)) := rng1_nat (by omega)
  unfold m__law_great
  simp -implicitDefEqProofs only [bind_val, asB_bl, if_true, Bool.not_true, Bool.not_false, Bool.false_eq_true, if_false, retF_rt, seqF_nx, seqF_rt, asSq_lst, asSq_tup, partP_int, leP_int, ltP_int, gtP_int, geP_int, addP_int, subP_int, intP_int, tupleP_lst, asLi_lst, mk4, noX_val, apR1_o, moL_lst, d1, ix, rg]
  generalize hF : forF _ _ _ = X
  obtain ⟨s', e, x, l2, rfl, b2⟩ := forF_invX (I := fun s : PV × List PV => ∃ (x : Int) (l : List PV), s = (.int x, l) ∧ Bx l) hF ⟨0, l1, rfl, b1⟩ (fun p _ s hs => by
    obtain ⟨x, l, rfl, b⟩ := hs
    obtain ⟨r, l', d, _, b'⟩ := draw_lt b 10 (by decide) (by decide)
    exact ⟨(.int (x * 10 + r), l'), by simp -implicitDefEqProofs only [bind_val, asB_bl, if_true, Bool.not_true, Bool.not_false, Bool.false_eq_true, if_false, retF_rt, seqF_nx, seqF_rt, asSq_lst, asSq_tup, partP_int, leP_int, ltP_int, gtP_int, geP_int, addP_int, subP_int, intP_int, tupleP_lst, asLi_lst, noX_val, m10, apR1_o, moL_lst, d], _, _, rfl, b'⟩)
  subst e
  obtain ⟨k, l3, d3, h3, b3⟩ := draw_lt b2 2 (by decide) (by decide)
  have ix2 : ∃ y : Int, ixP (.lst [.int x, .int (0 - x)]) (.int (k : Nat)) = .val (.int y) := by
    match k, h3 with
    | 0, _ => exact ⟨_, ixP_lst (i := 0) rfl⟩
    | 1, _ => exact ⟨_, ixP_lst (i := 1) rfl⟩
    | k + 2, h => omega
  obtain ⟨y, ix2⟩ := ix2
  refine ⟨y, l3, ?_, b3⟩
  simp -implicitDefEqProofs only [bind_val, asB_bl, if_true, Bool.not_true, Bool.not_false, Bool.false_eq_true, if_false, retF_rt, seqF_nx, seqF_rt, asSq_lst, asSq_tup, partP_int, leP_int, ltP_int, gtP_int, geP_int, addP_int, subP_int, intP_int, tupleP_lst, asLi_lst, noX_val, mk2, apR1_o, moL_lst, d3, ix2, retR_rt]
theorem forF_chkX {L : Type} {body : PV → Unit → Res (Fl Unit Unit)} {ps : List PV} {X : Res (Fl Unit L)} (hF : forF body ps () = X) (f : PV → Bool) (h : ∀ p, p ∈ ps → body p () = .val (if f p = true then .nx () else .rt (.bl false) [])) : X = .val (if ps.all f = true then .nx () else .rt (.bl false) []) := by
  subst hF
  exact forF_chkN f h
section
variable {q : Nat} [NeZero q]
theorem zk (x k : Int) : zq q (x + q * k) = zq q x := by
  rw [zq_add, zq_mul, zq_q]
  grind
theorem places_ok (h3 : 3 ≤ q) (h127 : q ≤ 127) {l : List PV} (hb : Bx l) {many : Nat} (hm : many ≤ q) : ∃ (ps : List Int) (l' : List PV), m__law_places (.lst l) (.int (q : Nat)) (.int (many : Nat)) = .val (.lst (PZ ps), .lst l') ∧ Bx l' ∧ ps.length = many ∧ (ps.map (zq q)).Nodup := by
  have rg : rng1 (.int (q : Nat)) = .val (PN (List.range q)) := rng1_nat (by omega)
  have rg2 : rng1 (.int (many : Nat)) = .val (PN (List.range many)) := rng1_nat (by omega)
  have sz : sized (PN (List.range q)).length = .val () := sized_small (by rw [PN_len, List.length_range]; omega)
  have lc : lcF (fun x => Res.val x) (fun _ => Res.val true) (fun a : PV => Res.val a) (PN (List.range q)) = .val (PN (List.range q)) := by
    rw [lcF_val (g := fun p => p) (fun _ _ => rfl) (fun _ _ => rfl), List.map_id']
  have mk0 : mkN ([] : List PV) = .val [] := mkN_ok (by show 0 ≤ 10000000; decide)
  have mk5 : ∀ a b c d e : PV, mkL [a, b, c, d, e] = .val (.lst [a, b, c, d, e]) := fun _ _ _ _ _ => mkLn (by show 5 ≤ 100; decide)
  have ng : negP (.int (q : Nat)) = .val (.int (-(q : Int))) := rfl
  have mq : ∀ x : Int, mulP (.int (q : Nat)) (.int x) = .val (.int (q * x)) := fun x => mulP_l (by omega) (by omega)
  unfold m__law_places
  simp -implicitDefEqProofs only [bind_val, asB_bl, if_true, Bool.not_true, Bool.not_false, Bool.false_eq_true, if_false, retF_rt, seqF_nx, seqF_rt, asSq_lst, asSq_tup, partP_int, leP_int, ltP_int, gtP_int, geP_int, addP_int, subP_int, intP_int, tupleP_lst, asLi_lst, rg, sz, lc, mk0, rg2]
  generalize hF : forF _ _ _ = X
  obtain ⟨s', e, L, l2, ps, rfl, b2, hlen, hL, hd, hx, hn⟩ := forF_invNX (I := fun i (s : List PV × List PV × List PV) => ∃ (L : List Nat) (l : List PV) (ps : List Int), s = (PN L, l, PZ ps) ∧ Bx l ∧ ps.length = i ∧ i + L.length = q ∧ L.Nodup ∧ (∀ a, a ∈ L → a < q ∧ ∀ p, p ∈ ps → zq q p ≠ zq q (a : Nat)) ∧ (ps.map (zq q)).Nodup) hF
    ⟨List.range q, l, [], rfl, hb, rfl, by rw [List.length_range]; omega, List.nodup_range, fun a ha => ⟨List.mem_range.mp ha, fun _ h => nomatch h⟩, List.nodup_nil⟩ (fun i p hp s hs => by
      obtain ⟨L, l, ps, rfl, b, hl, hL, nd, hx, hn⟩ := hs
      have hi : i < many := by
        have := (List.getElem?_eq_some_iff.mp hp).1
        rwa [PN_len, List.length_range] at this
      have ln : lenP (.lst (PN L)) = .val (.int (L.length : Nat)) := by rw [lenP_lst, PN_len]
      obtain ⟨r, l1, d1, h1, b1⟩ := draw_lt b (L.length : Nat) (by omega) (by omega)
      have hr : r < L.length := by omega
      have pp := popL_PN hr (by omega)
      obtain ⟨g, l2, d2, b2⟩ := great_ok b1
      obtain ⟨u, l3, d3, h3', b3⟩ := draw_lt b2 5 (by decide) (by decide)
      have ix : ∃ k : Int, ixP (.lst [.int 0, .int 0, .int (q : Nat), .int (-(q : Int)), .int (q * g)]) (.int (u : Nat)) = .val (.int (q * k)) := by
        match u, h3' with
        | 0, _ => exact ⟨0, by rw [Int.mul_zero]; exact ixP_lst (i := 0) rfl⟩
        | 1, _ => exact ⟨0, by rw [Int.mul_zero]; exact ixP_lst (i := 1) rfl⟩
        | 2, _ => exact ⟨1, by rw [Int.mul_one]; exact ixP_lst (i := 2) rfl⟩
        | 3, _ => exact ⟨-1, by rw [show (q : Int) * -1 = -(q : Int) by omega]; exact ixP_lst (i := 3) rfl⟩
        | 4, _ => exact ⟨g, ixP_lst (i := 4) rfl⟩
        | k + 5, h => omega
      obtain ⟨k, ix⟩ := ix
      have sz1 : sized ((PZ ps).length + 1) = .val () := sized_small (by rw [PZ_len]; omega)
      have perm := pop_perm hr
      have nd2 : (L[r] :: L.eraseIdx r).Nodup := (List.Perm.nodup_iff perm).mpr nd
      obtain ⟨n1, n2⟩ := List.nodup_cons.mp nd2
      have mem : ∀ a, a ∈ L.eraseIdx r → a ∈ L := fun a ha => perm.mem_iff.mp (List.mem_cons_of_mem _ ha)
      have hr0 := hx L[r] (List.getElem_mem hr)
      have zn : zq q ((L[r] : Nat) + q * k) = zq q (L[r] : Nat) := zk _ _
      refine ⟨(PN (L.eraseIdx r), l3, PZ (ps ++ [(L[r] : Nat) + q * k])), ?_, L.eraseIdx r, l3, _, rfl, b3, by rw [List.length_append, hl]; rfl, by rw [List.length_eraseIdx_of_lt hr]; omega, n2, fun a ha => ⟨(hx a (mem a ha)).1, fun p hp => ?_⟩, ?_⟩
      · simp -implicitDefEqProofs only [bind_val, asB_bl, if_true, Bool.not_true, Bool.not_false, Bool.false_eq_true, if_false, retF_rt, seqF_nx, seqF_rt, asSq_lst, asSq_tup, partP_int, leP_int, ltP_int, gtP_int, geP_int, addP_int, subP_int, intP_int, tupleP_lst, asLi_lst, noX_val, apR1_o, moL_lst, ln, d1, pp, apR0_z, d2, mq, ng, mk5, d3, ix, sz1]
        show Res.val (Fl.nx (_, _, PZ ps ++ PZ [_])) = _
        rw [PZ_ap]
      · rcases List.mem_append.mp hp with hp | hp
        · exact (hx a (mem a ha)).2 p hp
        · rw [List.mem_singleton.mp hp, zn]
          intro z
          have := congrArg Fin.val z
          rw [zq_nat hr0.1, zq_nat (hx a (mem a ha)).1] at this
          exact n1 (this ▸ ha)
      · rw [List.map_append, List.map_singleton, zn]
        refine List.nodup_append.mpr ⟨hn, List.nodup_cons.mpr ⟨List.not_mem_nil, List.nodup_nil⟩, fun a ha b hb => ?_⟩
        obtain ⟨p, hp, rfl⟩ := List.mem_map.mp ha
        rw [List.mem_singleton.mp hb]
        exact hr0.2 p hp)
  subst e
  rw [PN_len, List.length_range] at hlen
  refine ⟨ps, l2, ?_, b2, hlen, hn⟩
  simp -implicitDefEqProofs only [bind_val, asB_bl, if_true, Bool.not_true, Bool.not_false, Bool.false_eq_true, if_false, retF_rt, seqF_nx, seqF_rt, asSq_lst, asSq_tup, partP_int, leP_int, ltP_int, gtP_int, geP_int, addP_int, subP_int, intP_int, tupleP_lst, asLi_lst, retR_rt]
theorem asked_ok (hq : prB q = true) (h3 : 3 ≤ q) (h127 : q ≤ 127) {pts : List (Int × Int)} (hl : pts.length ≤ 500) (hn : (pts.map fun p => zq q p.1).Nodup) : m__law_asked (.tup (pts.map ptP)) (.int (q : Nat)) = .val (.tup [.str "told", .tup (PZ (itI q pts))]) := by
  unfold m__law_asked tryF
  simp -implicitDefEqProofs only [bind_val, asB_bl, if_true, Bool.not_true, Bool.not_false, Bool.false_eq_true, if_false, retF_rt, seqF_nx, seqF_rt, asSq_lst, asSq_tup, partP_int, leP_int, ltP_int, gtP_int, geP_int, addP_int, subP_int, intP_int, tupleP_lst, asLi_lst, interp_ok hq h3 h127 hl (nodup_pl.mpr hn), mkT2]
theorem asked_bad (h0 : 0 < q) {pts : List (Int × Int)} (hl : pts.length ≤ 500) (hn : ¬ (pts.map fun p => zq q p.1).Nodup) : m__law_asked (.tup (pts.map ptP)) (.int (q : Nat)) = .val (.tup [.str "points"]) := by
  have hb : hit_BadPoints "BadPoints" = some true := rfl
  unfold m__law_asked tryF
  simp -implicitDefEqProofs only [bind_val, asB_bl, if_true, Bool.not_true, Bool.not_false, Bool.false_eq_true, if_false, retF_rt, seqF_nx, seqF_rt, asSq_lst, asSq_tup, partP_int, leP_int, ltP_int, gtP_int, geP_int, addP_int, subP_int, intP_int, tupleP_lst, asLi_lst, interp_bad h0 hl (fun h => hn (nodup_pl.mp h)), exc_bind, hb, noX_val, mkT1]
theorem alike_told (l : List Int) (hl : l.length ≤ 1000) : m__law_alike 5 (.tup [.str "told", .tup (PZ l)]) (.tup [.str "told", .tup (PZ l)]) = .val (.bl true) := alike_tup 4 _ (by show 2 ≤ 10000000; decide) fun p hp => by
  rcases List.mem_cons.mp hp with rfl | hp
  · exact alike_str 3 "told" shT
  · rw [List.mem_singleton.mp hp]
    exact alike_ints 2 l (by omega)
theorem alike_points : m__law_alike 5 (.tup [.str "points"]) (.tup [.str "points"]) = .val (.bl true) := alike_tup 4 _ (by show 1 ≤ 10000000; decide) fun p hp => by
  rw [List.mem_singleton.mp hp]
  exact alike_str 3 "points" shP'
/-- two rows of numbers of one length, as the law compares them -/
theorem alike_two (n : Nat) (a b : List Int) (hl : a.length = b.length) (h2 : b.length ≤ 1000) : m__law_alike (n + 2) (.tup (PZ a)) (.tup (PZ b)) = .val (.bl (decide (a = b))) := by
  have h1 : isiP2 "tuple" "list" (.tup (PZ b)) = .val (.bl true) := rfl
  have i2 : ∀ l, isiP (.tup l) (.ty "tuple") = .val (.bl true) := fun _ => rfl
  have i3 : ∀ l, isiP (.tup l) (.ty "list") = .val (.bl false) := fun _ => rfl
  have ln : ∀ l : List Int, lenP (.tup (PZ l)) = .val (.int (l.length : Nat)) := fun l => by rw [lenP_tup, PZ_len]
  have rg : rng1 (.int (b.length : Nat)) = .val (PN (List.range b.length)) := rng1_nat (by omega)
  unfold m__law_alike
  simp -implicitDefEqProofs only [bind_val, asB_bl, if_true, Bool.not_true, Bool.not_false, Bool.false_eq_true, if_false, retF_rt, seqF_nx, seqF_rt, asSq_lst, asSq_tup, partP_int, leP_int, ltP_int, gtP_int, geP_int, addP_int, subP_int, intP_int, tupleP_lst, asLi_lst, h1, i2, i3, neP_bl, ln, neP_int, hl, decide_true, rg]
  generalize hF : forF _ _ _ = X
  have key := forF_chkX hF (fun p => match p with | .int i => decide (a[i.toNat]? = b[i.toNat]?) | _ => false) (fun p hp => by
    obtain ⟨i, hi, rfl⟩ := List.mem_map.mp hp
    have hi := List.mem_range.mp hi
    have e1 : ixP (.tup (PZ a)) (.int (i : Nat)) = .val (.int a[i]) := ixP_tup (by unfold PZ; rw [List.getElem?_map, List.getElem?_eq_getElem (by omega)]; rfl)
    have e2 : ixP (.tup (PZ b)) (.int (i : Nat)) = .val (.int b[i]) := ixP_tup (by unfold PZ; rw [List.getElem?_map, List.getElem?_eq_getElem hi]; rfl)
    have j1 : ∀ x : Int, isiP2 "tuple" "list" (.int x) = .val (.bl false) := fun _ => rfl
    have j2 : ∀ x : Int, isiP (.int x) (.ty "bool") = .val (.bl false) := fun _ => rfl
    have j3 : ∀ x : Int, isiP (.int x) (.ty "str") = .val (.bl false) := fun _ => rfl
    have j4 : ∀ x : Int, isiP (.int x) (.ty "int") = .val (.bl true) := fun _ => rfl
    have j5 : ∀ x : Int, isP (.int x) .non = .val (.bl false) := fun _ => rfl
    have al : m__law_alike (n + 1) (.int a[i]) (.int b[i]) = .val (.bl (decide (a[i] = b[i]))) := by
      unfold m__law_alike
      simp -implicitDefEqProofs only [bind_val, asB_bl, if_true, Bool.not_true, Bool.not_false, Bool.false_eq_true, if_false, retF_rt, seqF_nx, seqF_rt, asSq_lst, asSq_tup, partP_int, leP_int, ltP_int, gtP_int, geP_int, addP_int, subP_int, intP_int, tupleP_lst, asLi_lst, j1, j2, j3, j4, j5, eqP_int]
    have e4 : (decide (a[((i : Nat) : Int).toNat]? = b[((i : Nat) : Int).toNat]?) : Bool) = decide (a[i] = b[i]) := by
      rw [decide_eq_decide, Int.toNat_natCast, List.getElem?_eq_getElem hi, List.getElem?_eq_getElem (show i < a.length by omega)]
      exact ⟨Option.some.inj, congrArg some⟩
    show _ = Res.val (if decide (a[((i : Nat) : Int).toNat]? = b[((i : Nat) : Int).toNat]?) = true then _ else _)
    rw [e4]
    simp -implicitDefEqProofs only [bind_val, asB_bl, if_true, Bool.not_true, Bool.not_false, Bool.false_eq_true, if_false, retF_rt, seqF_nx, seqF_rt, asSq_lst, asSq_tup, partP_int, leP_int, ltP_int, gtP_int, geP_int, addP_int, subP_int, intP_int, tupleP_lst, asLi_lst, e1, e2, al]
    by_cases c : a[i] = b[i]
    · simp only [c, decide_true, Bool.not_true, Bool.false_eq_true, if_false, if_true]
    · simp only [c, decide_false, Bool.not_false, Bool.false_eq_true, if_false, if_true])
  have ea : ((PN (List.range b.length)).all fun p => match p with | .int i => decide (a[i.toNat]? = b[i.toNat]?) | _ => false) = decide (a = b) := by
    rw [all_range (g := fun i => decide (a[i]? = b[i]?)) _ (fun i _ => rfl), Bool.eq_iff_iff, List.all_eq_true, decide_eq_true_eq]
    constructor
    · intro z
      refine List.ext_getElem? fun i => ?_
      by_cases hi : i < b.length
      · exact of_decide_eq_true (z i (List.mem_range.mpr hi))
      · rw [List.getElem?_eq_none (by omega), List.getElem?_eq_none (by omega)]
    · intro e i _
      cases e
      exact decide_eq_true rfl
  rw [ea] at key
  subst key
  by_cases c : a = b
  · simp only [c, decide_true, if_true, seqF_nx, retF_rt]
  · simp only [c, decide_false, Bool.false_eq_true, if_false, seqF_rt, retF_rt]
end

theorem cut_ok {L : Type} {q n : Nat} (h3 : 3 ≤ q) : ∃ many : Nat, (if decide ((q : Int) < (n : Int)) = true then (Res.val (Fl.nx (PV.int (q : Nat))) : Res (Fl PV L)) else Res.val (Fl.nx (PV.int (n : Nat)))) = Res.val (Fl.nx (PV.int (many : Nat))) ∧ many ≤ q ∧ many ≤ n ∧ (1 ≤ n → 1 ≤ many) := by
  by_cases c : (q : Int) < (n : Int)
  · exact ⟨q, by rw [decide_eq_true c, if_pos rfl], by omega, by omega, by omega⟩
  · exact ⟨n, by rw [decide_eq_false c, if_neg (by decide)], by omega, by omega, by omega⟩
theorem insL_i {l : List PV} {k : Int} {y : PV} (h : 0 ≤ k ∧ k < 2 ^ 63) : insL l [.int k, y] = (sized (l.length + 1) >>= fun _ => Res.val (l.take k.toNat ++ [y] ++ l.drop k.toNat)) := if_pos h
theorem insL_ok {l : List PV} {i : Nat} {y : PV} (hl : l.length ≤ 1000) (hi : i ≤ 1000) : insL l [.int (i : Nat), y] = .val (l.take i ++ [y] ++ l.drop i) := by
  rw [insL_i ⟨by omega, by omega⟩, sized_small (by omega), bind_val, Int.toNat_natCast]
section
variable {q : Nat} [NeZero q]
theorem F2.nodup {pts : List (Int × Int)} {ps : List Int} (f : F2 (fun x (p : Int × Int) => p.1 = x) ps pts) : pts.map (fun p => zq q p.1) = ps.map (zq q) := by
  induction f with
  | nil => rfl
  | cons h _ ih => rw [List.map_cons, List.map_cons, ih, h]
theorem refused_ok (hq : prB q = true) (h3 : 3 ≤ q) (h127 : q ≤ 127) {l : List PV} (hb : Bx l) : ∃ l' : List PV, m__law_refused (.lst l) (.int (q : Nat)) = .val (.bl true, .lst l') ∧ Bx l' := by
  obtain ⟨r, l1, d1, h1, b1⟩ := draw_lt hb 6 (by decide) (by decide)
  have a1 : (1 : Int) + (r : Nat) = ((1 + r : Nat) : Int) := by omega
  obtain ⟨many, ck, hm1, hm2, hm3⟩ := cut_ok (L := Empty) (n := 1 + r) h3
  have hm3 := hm3 (by omega)
  obtain ⟨ps, l2, p1, b2, hpl, hpn⟩ := places_ok h3 h127 b1 hm1
  have sz : sized (PZ ps).length = .val () := sized_small (by rw [PZ_len]; omega)
  unfold m__law_refused
  simp -implicitDefEqProofs only [bind_val, asB_bl, if_true, Bool.not_true, Bool.not_false, Bool.false_eq_true, if_false, retF_rt, seqF_nx, seqF_rt, asSq_lst, asSq_tup, partP_int, leP_int, ltP_int, gtP_int, geP_int, addP_int, subP_int, intP_int, tupleP_lst, asLi_lst, noX_val, apR1_o, moL_lst, d1, a1, ck, apR2_t, p1, sz]
  generalize hE : lcE _ _ _ _ _ = X
  obtain ⟨pts, l3, e1, f, b3⟩ := lcE_relX (J := Bx) hE PV.int ptP PV.int (fun x (p : Int × Int) => p.1 = x) ps rfl b2 (fun _ _ => rfl) (fun x _ s hs => by
    obtain ⟨v, l', d, _, b'⟩ := draw_lt hs (q : Nat) (by omega) (by omega)
    refine ⟨(x, (v : Int)), l', ?_, rfl, b'⟩
    simp -implicitDefEqProofs only [bind_val, asB_bl, if_true, Bool.not_true, Bool.not_false, Bool.false_eq_true, if_false, retF_rt, seqF_nx, seqF_rt, asSq_lst, asSq_tup, partP_int, leP_int, ltP_int, gtP_int, geP_int, addP_int, subP_int, intP_int, tupleP_lst, asLi_lst, noX_val, apR1_o, moL_lst, d, mkT2]
    rfl)
  subst e1
  have hl : pts.length = many := by rw [← f.len, hpl]
  obtain ⟨k, l4, d4, h4, b4⟩ := draw_lt b3 (many : Nat) (by omega) (by omega)
  have hk : k < pts.length := by omega
  have ik : ixP (.lst (pts.map ptP)) (.int (k : Nat)) = .val (ptP pts[k]) := ixP_lst (by rw [List.getElem?_map, List.getElem?_eq_getElem hk]; rfl)
  obtain ⟨u, l5, d5, h5, b5⟩ := draw_lt b4 4 (by decide) (by decide)
  have ng : negP (.int (q : Nat)) = .val (.int (-(q : Int))) := rfl
  have m5 : mulP (.int 5) (.int (q : Nat)) = .val (.int (5 * q)) := mulP_l (by decide) (by decide)
  have mk4 : ∀ a b c d : PV, mkL [a, b, c, d] = .val (.lst [a, b, c, d]) := fun _ _ _ _ => mkLn (by show 4 ≤ 100; decide)
  have mk2 : ∀ a b : PV, mkL [a, b] = .val (.lst [a, b]) := fun a b => mkLn (by show 2 ≤ 100; decide)
  have ix : ∃ j : Int, ixP (.lst [.int 0, .int (q : Nat), .int (-(q : Int)), .int (5 * q)]) (.int (u : Nat)) = .val (.int (q * j)) := by
    match u, h5 with
    | 0, _ => exact ⟨0, by rw [Int.mul_zero]; exact ixP_lst (i := 0) rfl⟩
    | 1, _ => exact ⟨1, by rw [Int.mul_one]; exact ixP_lst (i := 1) rfl⟩
    | 2, _ => exact ⟨-1, by rw [show (q : Int) * -1 = -(q : Int) by omega]; exact ixP_lst (i := 2) rfl⟩
    | 3, _ => exact ⟨5, by rw [Int.mul_comm]; exact ixP_lst (i := 3) rfl⟩
    | k + 4, h => omega
  obtain ⟨j, ix⟩ := ix
  obtain ⟨v, l6, d6, h6, b6⟩ := draw_lt b5 (q : Nat) (by omega) (by omega)
  obtain ⟨w, l7, d7, h7, b7⟩ := draw_lt b6 2 (by decide) (by decide)
  have ix2 : ∃ y : Int, ixP (.lst [.int pts[k].2, .int (v : Nat)]) (.int (w : Nat)) = .val (.int y) := by
    match w, h7 with
    | 0, _ => exact ⟨_, ixP_lst (i := 0) rfl⟩
    | 1, _ => exact ⟨_, ixP_lst (i := 1) rfl⟩
    | k + 2, h => omega
  obtain ⟨y, ix2⟩ := ix2
  obtain ⟨i, l8, d8, h8, b8⟩ := draw_lt b7 ((many : Nat) + 1) (by omega) (by omega)
  have ins := insL_ok (l := pts.map ptP) (i := i) (y := ptP (pts[k].1 + q * j, y)) (by rw [List.length_map]; omega) (by omega)
  have es : (pts.map ptP).take i ++ [ptP (pts[k].1 + q * j, y)] ++ (pts.map ptP).drop i = (pts.take i ++ [(pts[k].1 + q * j, y)] ++ pts.drop i).map ptP := by
    rw [List.map_append, List.map_append, List.map_take, List.map_drop]
    rfl
  rw [es] at ins
  have bad : ¬ ((pts.take i ++ [(pts[k].1 + q * j, y)] ++ pts.drop i).map fun p => zq q p.1).Nodup := by
    intro hn
    rw [List.map_append, List.map_append, List.map_singleton] at hn
    have zz : zq q (pts[k].1 + q * j) = zq q pts[k].1 := zk _ _
    have hmem : pts[k] ∈ pts.take i ++ pts.drop i := by rw [List.take_append_drop]; exact List.getElem_mem hk
    have n1 := List.nodup_append.mp hn
    have n2 := List.nodup_append.mp n1.1
    rcases List.mem_append.mp hmem with h | h
    · exact n2.2.2 _ (List.mem_map.mpr ⟨_, h, rfl⟩) _ (List.mem_singleton.mpr rfl) zz.symm
    · exact n1.2.2 _ (List.mem_append.mpr (.inr (List.mem_singleton.mpr rfl))) _ (List.mem_map.mpr ⟨_, h, rfl⟩) zz
  have ak := asked_bad (q := q) (by omega) (pts := pts.take i ++ [(pts[k].1 + q * j, y)] ++ pts.drop i) (by rw [List.length_append, List.length_append, List.length_take, List.length_drop, List.length_singleton]; omega) bad
  have pp : PV.tup [.int (pts[k].1 + q * j), .int y] = ptP (pts[k].1 + q * j, y) := rfl
  refine ⟨l8, ?_, b8⟩
  simp -implicitDefEqProofs only [bind_val, asB_bl, if_true, Bool.not_true, Bool.not_false, Bool.false_eq_true, if_false, retF_rt, seqF_nx, seqF_rt, asSq_lst, asSq_tup, partP_int, leP_int, ltP_int, gtP_int, geP_int, addP_int, subP_int, intP_int, tupleP_lst, asLi_lst, noX_val, apR1_o, moL_lst, d4, ik, ix_pt0, ix_pt1, ng, m5, mk4, d5, ix, d6, mk2, d7, ix2, mkT2, d8, pp, ins, ak, mkT1, alike_points, retR_rt]
end

section
variable {q : Nat} [NeZero q]
theorem zq_F2k {l m : List Int} (f : F2 (fun a b => ∃ k : Int, b = a + q * k) l m) : l.map (zq q) = m.map (zq q) := by
  induction f with
  | nil => rfl
  | cons h _ ih =>
    obtain ⟨k, rfl⟩ := h
    rw [List.map_cons, List.map_cons, ih, zk]
theorem hor_app0 {x : Int} (cs : List Int) : hor q x (cs ++ [0]) = hor q x cs := by
  unfold hor
  rw [List.reverse_append]
  show cs.reverse.foldl (horF q x) (horF q x 0 0) = _
  unfold horF
  rw [Int.zero_mul, Int.zero_add, Int.zero_emod]
theorem one_more {a w : Int} (hw : 0 < w) (hq : w < q) : zq q ((a + w) % (q : Int)) ≠ zq q a := by
  intro z
  rw [zq_mod, zq_add] at z
  have z0 : zq q w = zq q 0 := by rw [zq_zero]; grind
  rw [zq_eq, Int.emod_eq_of_lt (by omega) (by omega), Int.zero_emod] at z0
  omega
/-- what the law does with one place changed -/
def chg (pts : List (Int × Int)) (k : Nat) (x v : Int) : List (Int × Int) := pts.take k ++ [(x, v)] ++ pts.drop (k + 1)
theorem chg_fst {pts : List (Int × Int)} {k : Nat} {x v : Int} (hk : k < pts.length) (hx : x = pts[k].1) : (chg pts k x v).map (fun p => zq q p.1) = pts.map fun p => zq q p.1 := by
  unfold chg
  rw [List.map_append, List.map_append, List.map_take, List.map_drop, List.map_singleton]
  have e : pts.map (fun p => zq q p.1) = (pts.map fun p => zq q p.1).take k ++ [zq q pts[k].1] ++ (pts.map fun p => zq q p.1).drop (k + 1) := by
    have h2 : k < (pts.map fun p => zq q p.1).length := by rw [List.length_map]; exact hk
    conv => lhs; rw [← List.take_append_drop k (pts.map fun p => zq q p.1)]
    rw [List.drop_eq_getElem_cons h2, List.getElem_map, List.append_assoc]
    rfl
  conv => rhs; rw [e]
  rw [hx]
theorem chg_len {pts : List (Int × Int)} {k : Nat} {x v : Int} (hk : k < pts.length) : (chg pts k x v).length = pts.length := by
  unfold chg
  rw [List.length_append, List.length_append, List.length_take, List.length_drop, List.length_singleton]
  omega
theorem chg_mem {pts : List (Int × Int)} {k : Nat} {x v : Int} : (x, v) ∈ chg pts k x v := by
  unfold chg
  exact List.mem_append.mpr (.inl (List.mem_append.mpr (.inr (List.mem_singleton.mpr rfl))))
theorem chg_of {pts : List (Int × Int)} {k : Nat} {x v : Int} {p : Int × Int} (h : p ∈ chg pts k x v) : p ∈ pts ∨ p = (x, v) := by
  unfold chg at h
  rcases List.mem_append.mp h with h | h
  · rcases List.mem_append.mp h with h | h
    · exact .inl (List.mem_of_mem_take h)
    · exact .inr (List.mem_singleton.mp h)
  · exact .inl (List.mem_of_mem_drop h)
theorem itI_hor (hq : prB q = true) (h3 : 3 ≤ q) (h127 : q ≤ 127) {pts : List (Int × Int)} (hn : (pts.map fun p => zq q p.1).Nodup) {p : Int × Int} (hp : p ∈ pts) (h : 0 ≤ p.2 ∧ p.2 < q) : hor q p.1 (itI q pts) = p.2 := by
  have e := itI_ev hq h3 h127 hn p hp
  rw [← zq_hor, zq_eq] at e
  have hl := hor_lt (q := q) (by omega) (x := p.1) (itI q pts)
  rwa [Int.emod_eq_of_lt hl.1 hl.2, Int.emod_eq_of_lt h.1 h.2] at e
theorem meets_ok (hq : prB q = true) (h3 : 3 ≤ q) (h127 : q ≤ 127) {l : List PV} (hb : Bx l) : ∃ l' : List PV, m__law_meets (.lst l) (.int (q : Nat)) = .val (.bl true, .lst l') ∧ Bx l' := by
  obtain ⟨r, l1, d1, h1, b1⟩ := draw_lt hb 3 (by decide) (by decide)
  have mk3 : mkL [PV.int 4, .int 9, .int 31] = .val (.lst [.int 4, .int 9, .int 31]) := mkLn (by decide)
  have ix : ∃ n : Nat, ixP (.lst [.int 4, .int 9, .int 31]) (.int (r : Nat)) = .val (.int (n : Nat)) ∧ 0 < n ∧ n ≤ 31 := by
    match r, h1 with
    | 0, _ => exact ⟨4, ixP_lst (i := 0) rfl, by decide, by decide⟩
    | 1, _ => exact ⟨9, ixP_lst (i := 1) rfl, by decide, by decide⟩
    | 2, _ => exact ⟨31, ixP_lst (i := 2) rfl, by decide, by decide⟩
    | k + 3, h => omega
  obtain ⟨n, ix, hn0, hn⟩ := ix
  obtain ⟨m, l2, d2, h2, b2⟩ := draw_lt b1 (n : Nat) (by omega) (by omega)
  obtain ⟨many, ck, hm1, hm2, _⟩ := cut_ok (L := Empty) (n := m) h3
  have rg : rng1 (.int (many : Nat)) = .val (PN (List.range many)) := rng1_nat (by omega)
  have sz0 : sized (PN (List.range many)).length = .val () := sized_small (by rw [PN_len, List.length_range]; omega)
  unfold m__law_meets
  simp -implicitDefEqProofs only [bind_val, asB_bl, if_true, Bool.not_true, Bool.not_false, Bool.false_eq_true, if_false, retF_rt, seqF_nx, seqF_rt, asSq_lst, asSq_tup, partP_int, leP_int, ltP_int, gtP_int, geP_int, addP_int, subP_int, intP_int, tupleP_lst, asLi_lst, noX_val, apR1_o, moL_lst, mk3, d1, ix, d2, ck, rg, sz0]
  generalize hE : lcE _ _ _ _ _ = X
  obtain ⟨cs, l3, e1, f, b3⟩ := lcE_relX (J := Bx) hE (fun k : Nat => PV.int (k : Nat)) PV.int (fun k : Nat => PV.int (k : Nat)) (fun _ c => 0 ≤ c ∧ c < (q : Int)) (List.range many) rfl b2 (fun _ _ => rfl) (fun x _ s hs => by
    obtain ⟨v, l', d, h, b'⟩ := draw_lt hs (q : Nat) (by omega) (by omega)
    refine ⟨(v : Int), l', ?_, ⟨by omega, by omega⟩, b'⟩
    simp -implicitDefEqProofs only [bind_val, asB_bl, if_true, Bool.not_true, Bool.not_false, Bool.false_eq_true, if_false, retF_rt, seqF_nx, seqF_rt, asSq_lst, asSq_tup, partP_int, leP_int, ltP_int, gtP_int, geP_int, addP_int, subP_int, intP_int, tupleP_lst, asLi_lst, noX_val, apR1_o, moL_lst, d])
  subst e1
  have hcl : cs.length = many := by rw [← f.len, List.length_range]
  have hc := f.right (P := fun c => 0 ≤ c ∧ c < (q : Int)) (fun _ _ h => h)
  have tp : tupleP (.lst (cs.map PV.int)) = .val (.tup (PZ cs)) := rfl
  obtain ⟨ps, l4, p1, b4, hpl, hpn⟩ := places_ok h3 h127 b3 hm1
  have sz : sized (PZ ps).length = .val () := sized_small (by rw [PZ_len]; omega)
  have lv : ∀ x : Int, m__law_value (.tup (PZ cs)) (.int x) (.int (q : Nat)) = .val (.int (hor q x cs)) := fun x => law_value_ok (by omega) (by omega) (by omega)
  simp -implicitDefEqProofs only [bind_val, asB_bl, if_true, Bool.not_true, Bool.not_false, Bool.false_eq_true, if_false, retF_rt, seqF_nx, seqF_rt, asSq_lst, asSq_tup, partP_int, leP_int, ltP_int, gtP_int, geP_int, addP_int, subP_int, intP_int, tupleP_lst, asLi_lst, tp, noX_val, apR2_t, moL_lst, p1, sz]
  generalize hE : lcE _ _ _ _ _ = X
  obtain ⟨pts, l5, e2, f2, b5⟩ := lcE_relX (J := Bx) hE PV.int ptP PV.int (fun x (p : Int × Int) => p.1 = x ∧ p.2 = hor q p.1 cs) ps rfl b4 (fun _ _ => rfl) (fun x _ s hs => by
    refine ⟨(x, hor q x cs), s, ?_, ⟨rfl, rfl⟩, hs⟩
    simp -implicitDefEqProofs only [bind_val, asB_bl, if_true, Bool.not_true, Bool.not_false, Bool.false_eq_true, if_false, retF_rt, seqF_nx, seqF_rt, asSq_lst, asSq_tup, partP_int, leP_int, ltP_int, gtP_int, geP_int, addP_int, subP_int, intP_int, tupleP_lst, asLi_lst, noX_val, lv, mkT2]
    rfl)
  subst e2
  have hpt : pts.length = many := by rw [← f2.len, hpl]
  have nd : (pts.map fun p => zq q p.1).Nodup := by
    rw [(f2.imp (R' := fun x (p : Int × Int) => p.1 = x) fun _ _ h => h.1).nodup]
    exact hpn
  have hv := f2.right (P := fun p : Int × Int => p.2 = hor q p.1 cs) (fun _ _ h => h.2)
  have tp2 : tupleP (.lst (pts.map ptP)) = .val (.tup (pts.map ptP)) := rfl
  have ii : itI q pts = cs := itI_is hq h3 h127 nd (by omega) hc (fun p hp => by rw [hv p hp, zq_hor])
  have ak := asked_ok hq h3 h127 (pts := pts) (by omega) nd
  rw [ii] at ak
  obtain ⟨g, l6, d6, b6⟩ := great_ok b5
  have ng1 : negP (.int 1) = .val (.int (-1)) := rfl
  have mk4 : ∀ a b c d : PV, mkL [a, b, c, d] = .val (.lst [a, b, c, d]) := fun _ _ _ _ => mkLn (by show 4 ≤ 100; decide)
  have mk6 : ∀ a b c d e f : PV, mkL [a, b, c, d, e, f] = .val (.lst [a, b, c, d, e, f]) := fun _ _ _ _ _ _ => mkLn (by show 6 ≤ 100; decide)
  have mq : ∀ x : Int, mulP (.int (q : Nat)) (.int x) = .val (.int (q * x)) := fun x => mulP_l (by omega) (by omega)
  have sr : sized (pts.map ptP).reverse.length = .val () := sized_small (by rw [List.length_reverse, List.length_map]; omega)
  simp -implicitDefEqProofs only [bind_val, asB_bl, if_true, Bool.not_true, Bool.not_false, Bool.false_eq_true, if_false, retF_rt, seqF_nx, seqF_rt, asSq_lst, asSq_tup, partP_int, leP_int, ltP_int, gtP_int, geP_int, addP_int, subP_int, intP_int, tupleP_lst, asLi_lst, tp2, noX_val, ak, mkT2, alike_told cs (by omega), apR0_z, moL_lst, d6, ng1, mk4, listP_sq, sr]
  generalize hE : lcE _ _ _ _ _ = X
  obtain ⟨ws, l7, e3, f3, b7⟩ := lcE_relX (J := Bx) hE ptP ptP ptP (fun p (w : Int × Int) => w.1 = p.1 ∧ zq q w.2 = evz (zq q w.1) (ZL q cs)) pts.reverse (by rw [List.map_reverse]) b6 (fun _ _ => rfl) (fun p hp s hs => by
    obtain ⟨v, s', d, h, b'⟩ := draw_lt hs 4 (by decide) (by decide)
    have ix : ∃ k : Int, ixP (.lst [.int 0, .int 1, .int (-1), .int g]) (.int (v : Nat)) = .val (.int k) := by
      match v, h with
      | 0, _ => exact ⟨_, ixP_lst (i := 0) rfl⟩
      | 1, _ => exact ⟨_, ixP_lst (i := 1) rfl⟩
      | 2, _ => exact ⟨_, ixP_lst (i := 2) rfl⟩
      | 3, _ => exact ⟨_, ixP_lst (i := 3) rfl⟩
      | n + 4, h => omega
    obtain ⟨k, ix⟩ := ix
    refine ⟨(p.1, p.2 + q * k), s', ?_, ⟨rfl, ?_⟩, b'⟩
    · simp -implicitDefEqProofs only [bind_val, asB_bl, if_true, Bool.not_true, Bool.not_false, Bool.false_eq_true, if_false, retF_rt, seqF_nx, seqF_rt, asSq_lst, asSq_tup, partP_int, leP_int, ltP_int, gtP_int, geP_int, addP_int, subP_int, intP_int, tupleP_lst, asLi_lst, noX_val, ix_pt0, ix_pt1, apR1_o, moL_lst, d, ix, mq, mkT2]
      rfl
    · show zq q (p.2 + q * k) = _
      rw [zk, hv p (List.mem_reverse.mp hp), zq_hor])
  subst e3
  have hwl : ws.length = many := by rw [← f3.len, List.length_reverse, hpt]
  have wfst : ws.map (fun p => zq q p.1) = (pts.map fun p => zq q p.1).reverse := by
    rw [← List.map_reverse]
    have key : ∀ {a b : List (Int × Int)}, F2 (fun p (w : Int × Int) => w.1 = p.1 ∧ zq q w.2 = evz (zq q w.1) (ZL q cs)) a b → b.map (fun p => zq q p.1) = a.map fun p => zq q p.1 := by
      intro a b f
      induction f with
      | nil => rfl
      | cons h _ ih => rw [List.map_cons, List.map_cons, ih, h.1]
    exact key f3
  have ndw : (ws.map fun p => zq q p.1).Nodup := by rw [wfst]; exact (List.Perm.nodup_iff (List.reverse_perm _)).mpr nd
  have iw : itI q ws = cs := itI_is hq h3 h127 ndw (by omega) hc (f3.right (P := fun w : Int × Int => zq q w.2 = evz (zq q w.1) (ZL q cs)) fun _ _ h => h.2)
  have tp3 : tupleP (.lst (ws.map ptP)) = .val (.tup (ws.map ptP)) := rfl
  have gi : ∀ a b : PV, g_interpolate_0_q_points [] [a, b] = [b, a] := fun _ _ => rfl
  have iwo := interp_ok hq h3 h127 (pts := ws) (by omega) (nodup_pl.mpr ndw)
  rw [iw] at iwo
  have al5 : m__law_alike 5 (.tup (PZ cs)) (.tup (PZ cs)) = .val (.bl true) := alike_ints 3 cs (by omega)
  obtain ⟨g2, l8, d8, b8⟩ := great_ok b7
  obtain ⟨v, l9, d9, h9, b9⟩ := draw_lt b8 (q : Nat) (by omega) (by omega)
  simp -implicitDefEqProofs only [bind_val, asB_bl, if_true, Bool.not_true, Bool.not_false, Bool.false_eq_true, if_false, retF_rt, seqF_nx, seqF_rt, asSq_lst, asSq_tup, partP_int, leP_int, ltP_int, gtP_int, geP_int, addP_int, subP_int, intP_int, tupleP_lst, asLi_lst, tp3, gi, ap2_two, iwo, al5, noX_val, ng1, apR0_z, moL_lst, d8, apR1_o, d9, mk6]
  generalize hF : forF _ _ _ = X
  obtain ⟨l10, e4, b10⟩ := forF_invX (I := Bx) hF b9 (fun p hp s hs => by
    have hx : ∃ x : Int, p = .int x := by
      simp only [List.mem_cons, List.not_mem_nil, or_false] at hp
      rcases hp with rfl | rfl | rfl | rfl | rfl | rfl <;> exact ⟨_, rfl⟩
    obtain ⟨x, rfl⟩ := hx
    have va := value_at_ok (q := q) (P := .tup (PZ cs)) (cs := cs) (x := x) rfl (by omega) (by omega)
    have va2 := value_at_ok (q := q) (P := .tup (PZ (cs ++ [0]))) (cs := cs ++ [0]) (x := x) rfl (by omega) (by omega)
    rw [hor_app0] at va2
    have ad : addP (.tup (PZ cs)) (.tup [.int 0]) = .val (.tup (PZ (cs ++ [0]))) := by
      rw [addP_tups (by rw [PZ_len]; show cs.length + 1 ≤ 10000000; omega), ← PZ_ap]
      rfl
    have gv : ∀ a b c : PV, g_value_at_0_x_q_coefficients [] [a, b, c] = [c, a, b] := fun _ _ _ => rfl
    have ali : ∀ y : Int, m__law_alike 5 (.int y) (.int y) = .val (.bl true) := fun y => alike_int 4 y
    have szc : sized (PZ cs).length = .val () := sized_small (by rw [PZ_len]; omega)
    have m2 : mulP (.int 2) (.int (q : Nat)) = .val (.int (2 * q)) := mulP_l (by decide) (by decide)
    simp -implicitDefEqProofs only [bind_val, asB_bl, if_true, Bool.not_true, Bool.not_false, Bool.false_eq_true, if_false, retF_rt, seqF_nx, seqF_rt, asSq_lst, asSq_tup, partP_int, leP_int, ltP_int, gtP_int, geP_int, addP_int, subP_int, intP_int, tupleP_lst, asLi_lst, lv, va, ali, mkT1, ad, gv, ap3_three, va2, szc, noX_val]
    generalize hE : lcE _ _ _ _ _ = X
    obtain ⟨rs, l', e5, f5, b'⟩ := lcE_relX (J := Bx) hE PV.int PV.int PV.int (fun c d => ∃ k : Int, d = c + q * k) cs rfl hs (fun _ _ => rfl) (fun c _ s hs => by
      obtain ⟨v, s', d, h, b'⟩ := draw_lt hs 5 (by decide) (by decide)
      refine ⟨c + q * (v : Nat) - 2 * q, s', ?_, ⟨(v : Nat) - 2, by rw [Int.mul_sub, Int.mul_comm (q : Int) 2]; omega⟩, b'⟩
      simp -implicitDefEqProofs only [bind_val, asB_bl, if_true, Bool.not_true, Bool.not_false, Bool.false_eq_true, if_false, retF_rt, seqF_nx, seqF_rt, asSq_lst, asSq_tup, partP_int, leP_int, ltP_int, gtP_int, geP_int, addP_int, subP_int, intP_int, tupleP_lst, asLi_lst, noX_val, apR1_o, moL_lst, d, mq, m2])
    subst e5
    have va3 := value_at_ok (q := q) (P := .tup (PZ rs)) (cs := rs) (x := x) rfl (by omega) (by omega)
    rw [hor_congr (cs := rs) (ds := cs) (by omega) (x := x) (y := x) rfl (zq_F2k f5).symm] at va3
    have tp4 : tupleP (.lst (rs.map PV.int)) = .val (.tup (PZ rs)) := rfl
    refine ⟨l', ?_, b'⟩
    simp -implicitDefEqProofs only [bind_val, asB_bl, if_true, Bool.not_true, Bool.not_false, Bool.false_eq_true, if_false, retF_rt, seqF_nx, seqF_rt, asSq_lst, asSq_tup, partP_int, leP_int, ltP_int, gtP_int, geP_int, addP_int, subP_int, intP_int, tupleP_lst, asLi_lst, tp4, noX_val, va3, ali])
  subst e4
  by_cases hm0 : (0 : Int) < (many : Nat)
  · obtain ⟨k, l11, d11, h11, b11⟩ := draw_lt b10 (many : Nat) (by omega) (by omega)
    have hk : k < pts.length := by omega
    have ik : ixP (.tup (pts.map ptP)) (.int (k : Nat)) = .val (ptP pts[k]) := ixP_tup (by rw [List.getElem?_map, List.getElem?_eq_getElem hk]; rfl)
    obtain ⟨w, l12, d12, h12, b12⟩ := draw_lt b11 ((q : Nat) - 1) (by omega) (by omega)
    have md : modP (.int (pts[k].2 + 1 + (w : Nat))) (.int (q : Nat)) = .val (.int ((pts[k].2 + (1 + (w : Nat))) % (q : Int))) := by rw [modP_pos (by omega), Int.add_assoc]
    have s1 := slT_to (l := pts.map ptP) (k := k)
    have s2 := slT_from (l := pts.map ptP) (k := k + 1)
    have a2 : ((k : Nat) : Int) + 1 = ((k + 1 : Nat) : Int) := rfl
    generalize hval : (pts[k].2 + (1 + (w : Nat))) % (q : Int) = val at *
    have hvl : 0 ≤ val ∧ val < q := by
      rw [← hval]
      exact ⟨Int.emod_nonneg _ (by omega), Int.emod_lt_of_pos _ (by omega)⟩
    have pp : PV.tup [.int pts[k].1, .int val] = ptP (pts[k].1, val) := rfl
    have ad1 : addP (.tup ((pts.map ptP).take k)) (.tup [ptP (pts[k].1, val)]) = .val (.tup ((pts.map ptP).take k ++ [ptP (pts[k].1, val)])) := addP_tups (by rw [List.length_take, List.length_map]; show min k pts.length + 1 ≤ 10000000; omega)
    have ad2 : addP (.tup ((pts.map ptP).take k ++ [ptP (pts[k].1, val)])) (.tup ((pts.map ptP).drop (k + 1))) = .val (.tup ((chg pts k pts[k].1 val).map ptP)) := by
      rw [addP_tups (by rw [List.length_append, List.length_take, List.length_drop, List.length_map, List.length_singleton]; omega)]
      unfold chg
      rw [List.map_append, List.map_append, List.map_take, List.map_drop]
      rfl
    have ndc : ((chg pts k pts[k].1 val).map fun p => zq q p.1).Nodup := by rw [chg_fst hk rfl]; exact nd
    have lc := chg_len (x := pts[k].1) (v := val) hk
    have io := interp_ok hq h3 h127 (pts := chg pts k pts[k].1 val) (by omega) (nodup_pl.mpr ndc)
    have i1 : ∀ l, isiP (.tup l) (.ty "tuple") = .val (.bl true) := fun _ => rfl
    have ln : lenP (.tup (PZ (itI q (chg pts k pts[k].1 val)))) = .val (.int (many : Nat)) := by rw [lenP_tup, PZ_len, itI_len, lc, hpt]
    have nn : neP (.int (many : Nat)) (.int (many : Nat)) = .val (.bl false) := by rw [neP_int, decide_eq_true rfl]; rfl
    have ne : ¬ (itI q (chg pts k pts[k].1 val) = cs) := fun z => by
      have e1 := itI_ev hq h3 h127 ndc _ (chg_mem (pts := pts) (k := k) (x := pts[k].1) (v := val))
      rw [z] at e1
      have e2 : evz (zq q pts[k].1) (ZL q cs) = zq q pts[k].2 := by rw [hv _ (List.getElem_mem hk), zq_hor]
      have e3 : zq q val = zq q pts[k].2 := e1.symm.trans e2
      rw [← hval] at e3
      exact one_more (by omega) (by omega) e3
    have al : m__law_alike 5 (.tup (PZ (itI q (chg pts k pts[k].1 val)))) (.tup (PZ cs)) = _ := alike_two 3 (itI q (chg pts k pts[k].1 val)) cs (by rw [itI_len, lc]; omega) (by omega)
    rw [decide_eq_false ne] at al
    have lvt : ∀ x : Int, m__law_value (.tup (PZ (itI q (chg pts k pts[k].1 val)))) (.int x) (.int (q : Nat)) = .val (.int (hor q x (itI q (chg pts k pts[k].1 val)))) := fun x => law_value_ok (by rw [itI_len, lc]; omega) (by omega) (by omega)
    have szp : sized ((chg pts k pts[k].1 val).map ptP).length = .val () := sized_small (by rw [List.length_map, lc]; omega)
    simp -implicitDefEqProofs only [bind_val, asB_bl, if_true, Bool.not_true, Bool.not_false, Bool.false_eq_true, if_false, retF_rt, seqF_nx, seqF_rt, asSq_lst, asSq_tup, partP_int, leP_int, ltP_int, gtP_int, geP_int, addP_int, subP_int, intP_int, tupleP_lst, asLi_lst, decide_eq_true hm0, noX_val, apR1_o, moL_lst, d11, ik, ix_pt0, ix_pt1, d12, md, hval, s1, a2, s2, mkT2, pp, mkT1, ad1, ad2, io, i1, ln, nn, al]
    generalize hF : forF _ _ _ = X
    obtain ⟨u, e6, _⟩ := forF_invX (I := fun _ : Unit => True) hF trivial (fun p hp s _ => by
      obtain ⟨c, hc, rfl⟩ := List.mem_map.mp hp
      have cl := itI_lt c hc
      have t1 : isiP (.int c) (.ty "int") = .val (.bl true) := rfl
      have t2 : isiP (.int c) (.ty "bool") = .val (.bl false) := rfl
      refine ⟨(), ?_, trivial⟩
      simp -implicitDefEqProofs only [bind_val, asB_bl, if_true, Bool.not_true, Bool.not_false, Bool.false_eq_true, if_false, retF_rt, seqF_nx, seqF_rt, asSq_lst, asSq_tup, partP_int, leP_int, ltP_int, gtP_int, geP_int, addP_int, subP_int, intP_int, tupleP_lst, asLi_lst, t1, t2, decide_eq_false (show ¬ c < 0 by omega), decide_eq_false (show ¬ (q : Int) ≤ c by omega)])
    subst e6
    simp -implicitDefEqProofs only [bind_val, asB_bl, if_true, Bool.not_true, Bool.not_false, Bool.false_eq_true, if_false, retF_rt, seqF_nx, seqF_rt, asSq_lst, asSq_tup, partP_int, leP_int, ltP_int, gtP_int, geP_int, addP_int, subP_int, intP_int, tupleP_lst, asLi_lst, szp]
    generalize hE : lcF _ _ _ _ = X
    have e7 := lcMapX hE ptP ptP (fun _ => PV.bl true) (chg pts k pts[k].1 val) rfl (fun _ _ => rfl) (fun p hp => by
      have h2 : 0 ≤ p.2 ∧ p.2 < q := by
        rcases chg_of hp with h | rfl
        · rw [hv p h]
          exact hor_lt (by omega) cs
        · exact hvl
      simp -implicitDefEqProofs only [bind_val, asB_bl, if_true, Bool.not_true, Bool.not_false, Bool.false_eq_true, if_false, retF_rt, seqF_nx, seqF_rt, asSq_lst, asSq_tup, partP_int, leP_int, ltP_int, gtP_int, geP_int, addP_int, subP_int, intP_int, tupleP_lst, asLi_lst, ix_pt0, ix_pt1, lvt, itI_hor hq h3 h127 ndc hp h2, eqP_int, decide_true])
    subst e7
    have ap : allP (.lst ((chg pts k pts[k].1 val).map fun _ => PV.bl true)) = .val (.bl true) := by
      have := allP_bls (bs := (chg pts k pts[k].1 val).map fun _ => true)
      rw [List.map_map] at this
      refine this.trans ?_
      rw [List.all_map]
      exact congrArg (fun b => Res.val (PV.bl b)) (List.all_eq_true.mpr fun _ _ => rfl)
    refine ⟨l12, ?_, b12⟩
    simp -implicitDefEqProofs only [bind_val, asB_bl, if_true, Bool.not_true, Bool.not_false, Bool.false_eq_true, if_false, retF_rt, seqF_nx, seqF_rt, asSq_lst, asSq_tup, partP_int, leP_int, ltP_int, gtP_int, geP_int, addP_int, subP_int, intP_int, tupleP_lst, asLi_lst, ap, retR_rt]
  · refine ⟨l10, ?_, b10⟩
    simp -implicitDefEqProofs only [bind_val, asB_bl, if_true, Bool.not_true, Bool.not_false, Bool.false_eq_true, if_false, retF_rt, seqF_nx, seqF_rt, asSq_lst, asSq_tup, partP_int, leP_int, ltP_int, gtP_int, geP_int, addP_int, subP_int, intP_int, tupleP_lst, asLi_lst, decide_eq_false hm0, retR_rt]
theorem law_true (ns : List Int) (hns : ns.length ≤ 63) : m_law ns = .val (.bl true) := by
  have d0 := box_ok ns hns 0
  have d1 := box_ok ns hns 1
  obtain ⟨q, l1, p1, b1, h3, h127, hq⟩ := prime_ok (bx0 ns 0)
  haveI : NeZero q := ⟨by omega⟩
  obtain ⟨l2, m2, b2⟩ := meets_ok hq h3 h127 b1
  obtain ⟨r, l3, d3, h33, b3⟩ := draw_lt (bx0 ns 1) 3 (by decide) (by decide)
  have mk3 : mkL [PV.int 3, .int 5, .int 7] = .val (.lst [.int 3, .int 5, .int 7]) := mkLn (by decide)
  have ix : ∃ p : Nat, ixP (.lst [.int 3, .int 5, .int 7]) (.int (r : Nat)) = .val (.int (p : Nat)) ∧ 3 ≤ p ∧ p ≤ 127 ∧ prB p = true := by
    match r, h33 with
    | 0, _ => exact ⟨3, ixP_lst (i := 0) rfl, by decide, by decide, by decide +kernel⟩
    | 1, _ => exact ⟨5, ixP_lst (i := 1) rfl, by decide, by decide, by decide +kernel⟩
    | 2, _ => exact ⟨7, ixP_lst (i := 2) rfl, by decide, by decide, by decide +kernel⟩
    | k + 3, h => omega
  obtain ⟨p, ix, hp3, hp127, hp⟩ := ix
  obtain ⟨l4, m4, b4⟩ : ∃ l' : List PV, m__law_meets (.lst l3) (.int (p : Nat)) = .val (.bl true, .lst l') ∧ Bx l' := by
    haveI : NeZero p := ⟨by omega⟩
    exact meets_ok hp hp3 hp127 b3
  have ak : m__law_asked (.tup []) (.int (q : Nat)) = .val (.tup [.str "told", .tup []]) := asked_ok hq h3 h127 (pts := []) (by decide) List.nodup_nil
  have al : m__law_alike 5 (.tup [.str "told", .tup []]) (.tup [.str "told", .tup []]) = .val (.bl true) := alike_told [] (by decide)
  have va : m_value_at (.tup []) (.int 5) (.int (q : Nat)) = .val (.int 0) := value_at_ok (q := q) (P := .tup []) (cs := []) (x := 5) rfl (by omega) (by omega)
  have al0 : m__law_alike 5 (.int 0) (.int 0) = .val (.bl true) := alike_int 4 0
  obtain ⟨l5, r5, b5⟩ := refused_ok hq h3 h127 b4
  obtain ⟨l6, r6, b6⟩ : ∃ l' : List PV, m__law_refused (.lst l5) (.int 3) = .val (.bl true, .lst l') ∧ Bx l' := refused_ok (q := 3) three (by decide) (by decide) b5
  have p1' : m__law_prime (.lst [.int 0, .int 0, .int 0, .int 0, .int 0, .lst (ns.map PV.int)]) (.int 3) (.int 127) = .val (.int (q : Nat), .lst l1) := p1
  have d3' : m__law_draw (.lst [.int 0, .int 0, .int 1, .int 0, .int 1, .lst (ns.map PV.int)]) (.int 3) = .val (.int (r : Nat), .lst l3) := d3
  have mk0 : mkT ([] : List PV) = .val (.tup []) := mkT_ok (by show 0 ≤ 10000000; decide)
  have apN : ∀ a b : PV, apN2 m__law_box [a, b] = m__law_box a b := fun _ _ => rfl
  unfold m_law
  simp -implicitDefEqProofs only [bind_val, asB_bl, if_true, Bool.not_true, Bool.not_false, Bool.false_eq_true, if_false, retF_rt, seqF_nx, seqF_rt, asSq_lst, asSq_tup, partP_int, leP_int, ltP_int, gtP_int, geP_int, addP_int, subP_int, intP_int, tupleP_lst, asLi_lst, apN, d0, d1, noX_val, moL_lst, apR2_t, p1', apR1_o, m2, mk3, d3', ix, m4, mk0, ak, mkT2, al, va, al0, r5, r6]
end

theorem all_mk {l : PySem.W.OpenLaw} {w : World} {K : PySem.W.Frag} {h : Heap} {mg : Str → Option Value} {fa : Addr} (X : K.In h) (G : h.Ns mainGlobals mg) (hfa : mg "law" = some (.ref fa))
    {f__law_box : Addr} {od__law_box an__law_box : Option Addr} {sl__law_box : Array (Option Value)} {oc__law_box kV__law_box dc__law_box pm__law_box cd__law_box ct__law_box : Value}
    {f__law_mix : Addr} {od__law_mix an__law_mix : Option Addr} {sl__law_mix : Array (Option Value)} {oc__law_mix kV__law_mix dc__law_mix pm__law_mix cd__law_mix ct__law_mix : Value}
    {f__law_draw : Addr} {od__law_draw an__law_draw : Option Addr} {sl__law_draw : Array (Option Value)} {oc__law_draw kV__law_draw dc__law_draw pm__law_draw cd__law_draw ct__law_draw : Value}
    {f__law_is_prime : Addr} {od__law_is_prime an__law_is_prime : Option Addr} {sl__law_is_prime : Array (Option Value)} {oc__law_is_prime kV__law_is_prime dc__law_is_prime pm__law_is_prime cd__law_is_prime ct__law_is_prime : Value}
    {f__law_prime : Addr} {od__law_prime an__law_prime : Option Addr} {sl__law_prime : Array (Option Value)} {oc__law_prime kV__law_prime dc__law_prime pm__law_prime cd__law_prime ct__law_prime : Value}
    {f__law_alike : Addr} {od__law_alike an__law_alike : Option Addr} {sl__law_alike : Array (Option Value)} {oc__law_alike kV__law_alike dc__law_alike pm__law_alike cd__law_alike ct__law_alike : Value}
    {f_times_root : Addr} {od_times_root an_times_root : Option Addr} {sl_times_root : Array (Option Value)} {oc_times_root kV_times_root dc_times_root pm_times_root cd_times_root ct_times_root : Value}
    {f_without_root : Addr} {od_without_root an_without_root : Option Addr} {sl_without_root : Array (Option Value)} {oc_without_root kV_without_root dc_without_root pm_without_root cd_without_root ct_without_root : Value}
    {f_inverse : Addr} {od_inverse an_inverse : Option Addr} {sl_inverse : Array (Option Value)} {oc_inverse kV_inverse dc_inverse pm_inverse cd_inverse ct_inverse : Value}
    {f_value_at : Addr} {od_value_at an_value_at : Option Addr} {sl_value_at : Array (Option Value)} {oc_value_at kV_value_at dc_value_at pm_value_at cd_value_at ct_value_at : Value}
    {f_interpolate : Addr} {od_interpolate an_interpolate : Option Addr} {sl_interpolate : Array (Option Value)} {oc_interpolate kV_interpolate dc_interpolate pm_interpolate cd_interpolate ct_interpolate : Value}
    {f__law_asked : Addr} {od__law_asked an__law_asked : Option Addr} {sl__law_asked : Array (Option Value)} {oc__law_asked kV__law_asked dc__law_asked pm__law_asked cd__law_asked ct__law_asked : Value}
    {f__law_great : Addr} {od__law_great an__law_great : Option Addr} {sl__law_great : Array (Option Value)} {oc__law_great kV__law_great dc__law_great pm__law_great cd__law_great ct__law_great : Value}
    {f__law_places : Addr} {od__law_places an__law_places : Option Addr} {sl__law_places : Array (Option Value)} {oc__law_places kV__law_places dc__law_places pm__law_places cd__law_places ct__law_places : Value}
    {f__law_refused : Addr} {od__law_refused an__law_refused : Option Addr} {sl__law_refused : Array (Option Value)} {oc__law_refused kV__law_refused dc__law_refused pm__law_refused cd__law_refused ct__law_refused : Value}
    {f__law_value : Addr} {od__law_value an__law_value : Option Addr} {sl__law_value : Array (Option Value)} {oc__law_value kV__law_value dc__law_value pm__law_value cd__law_value ct__law_value : Value}
    {f__law_meets : Addr} {od__law_meets an__law_meets : Option Addr} {sl__law_meets : Array (Option Value)} {oc__law_meets kV__law_meets dc__law_meets pm__law_meets cd__law_meets ct__law_meets : Value}
    {f_law : Addr} {od_law an_law : Option Addr} {sl_law : Array (Option Value)} {oc_law kV_law dc_law pm_law cd_law ct_law : Value}
    {c_BadPoints : Addr}
    
    
    
    
    
    
    
    {c_NoInverse : Addr}
    
    
    
    
    
    
    
    
    
    (a__law_box : PySem.W.nsIn K mainGlobals "_law_box" = some (some (.ref f__law_box))) (l__law_box : K.lookup f__law_box = some ⟨oc__law_box, od__law_box, .func (PySem.W.fnOf "_law_box" "_law_box" (defArgs s_Lbox) (defBody s_Lbox) (defScope s_Lbox) .none kV__law_box dc__law_box pm__law_box an__law_box cd__law_box ct__law_box), sl__law_box⟩) (c__law_box : PySem.W.codeIn K cd__law_box "_law_box" = true) (k__law_box : PySem.W.keepIn K (.ref f__law_box) = true)
    (a__law_mix : PySem.W.nsIn K mainGlobals "_law_mix" = some (some (.ref f__law_mix))) (l__law_mix : K.lookup f__law_mix = some ⟨oc__law_mix, od__law_mix, .func (PySem.W.fnOf "_law_mix" "_law_mix" (defArgs s_Lmix) (defBody s_Lmix) (defScope s_Lmix) .none kV__law_mix dc__law_mix pm__law_mix an__law_mix cd__law_mix ct__law_mix), sl__law_mix⟩) (c__law_mix : PySem.W.codeIn K cd__law_mix "_law_mix" = true) (k__law_mix : PySem.W.keepIn K (.ref f__law_mix) = true)
    (a__law_draw : PySem.W.nsIn K mainGlobals "_law_draw" = some (some (.ref f__law_draw))) (l__law_draw : K.lookup f__law_draw = some ⟨oc__law_draw, od__law_draw, .func (PySem.W.fnOf "_law_draw" "_law_draw" (defArgs s_Ldraw) (defBody s_Ldraw) (defScope s_Ldraw) .none kV__law_draw dc__law_draw pm__law_draw an__law_draw cd__law_draw ct__law_draw), sl__law_draw⟩) (c__law_draw : PySem.W.codeIn K cd__law_draw "_law_draw" = true) (k__law_draw : PySem.W.keepIn K (.ref f__law_draw) = true)
    (a__law_is_prime : PySem.W.nsIn K mainGlobals "_law_is_prime" = some (some (.ref f__law_is_prime))) (l__law_is_prime : K.lookup f__law_is_prime = some ⟨oc__law_is_prime, od__law_is_prime, .func (PySem.W.fnOf "_law_is_prime" "_law_is_prime" (defArgs s_Lis_prime) (defBody s_Lis_prime) (defScope s_Lis_prime) .none kV__law_is_prime dc__law_is_prime pm__law_is_prime an__law_is_prime cd__law_is_prime ct__law_is_prime), sl__law_is_prime⟩) (c__law_is_prime : PySem.W.codeIn K cd__law_is_prime "_law_is_prime" = true) (k__law_is_prime : PySem.W.keepIn K (.ref f__law_is_prime) = true)
    (a__law_prime : PySem.W.nsIn K mainGlobals "_law_prime" = some (some (.ref f__law_prime))) (l__law_prime : K.lookup f__law_prime = some ⟨oc__law_prime, od__law_prime, .func (PySem.W.fnOf "_law_prime" "_law_prime" (defArgs s_Lprime) (defBody s_Lprime) (defScope s_Lprime) .none kV__law_prime dc__law_prime pm__law_prime an__law_prime cd__law_prime ct__law_prime), sl__law_prime⟩) (c__law_prime : PySem.W.codeIn K cd__law_prime "_law_prime" = true) (k__law_prime : PySem.W.keepIn K (.ref f__law_prime) = true)
    (a__law_alike : PySem.W.nsIn K mainGlobals "_law_alike" = some (some (.ref f__law_alike))) (l__law_alike : K.lookup f__law_alike = some ⟨oc__law_alike, od__law_alike, .func (PySem.W.fnOf "_law_alike" "_law_alike" (defArgs s_Lalike) (defBody s_Lalike) (defScope s_Lalike) .none kV__law_alike dc__law_alike pm__law_alike an__law_alike cd__law_alike ct__law_alike), sl__law_alike⟩) (c__law_alike : PySem.W.codeIn K cd__law_alike "_law_alike" = true) (k__law_alike : PySem.W.keepIn K (.ref f__law_alike) = true)
    (a_times_root : PySem.W.nsIn K mainGlobals "times_root" = some (some (.ref f_times_root))) (l_times_root : K.lookup f_times_root = some ⟨oc_times_root, od_times_root, .func (PySem.W.fnOf "times_root" "times_root" (defArgs s_times_root) (defBody s_times_root) (defScope s_times_root) .none kV_times_root dc_times_root pm_times_root an_times_root cd_times_root ct_times_root), sl_times_root⟩) (c_times_root : PySem.W.codeIn K cd_times_root "times_root" = true) (k_times_root : PySem.W.keepIn K (.ref f_times_root) = true)
    (a_without_root : PySem.W.nsIn K mainGlobals "without_root" = some (some (.ref f_without_root))) (l_without_root : K.lookup f_without_root = some ⟨oc_without_root, od_without_root, .func (PySem.W.fnOf "without_root" "without_root" (defArgs s_without_root) (defBody s_without_root) (defScope s_without_root) .none kV_without_root dc_without_root pm_without_root an_without_root cd_without_root ct_without_root), sl_without_root⟩) (c_without_root : PySem.W.codeIn K cd_without_root "without_root" = true) (k_without_root : PySem.W.keepIn K (.ref f_without_root) = true)
    (a_inverse : PySem.W.nsIn K mainGlobals "inverse" = some (some (.ref f_inverse))) (l_inverse : K.lookup f_inverse = some ⟨oc_inverse, od_inverse, .func (PySem.W.fnOf "inverse" "inverse" (defArgs s_inverse) (defBody s_inverse) (defScope s_inverse) .none kV_inverse dc_inverse pm_inverse an_inverse cd_inverse ct_inverse), sl_inverse⟩) (c_inverse : PySem.W.codeIn K cd_inverse "inverse" = true) (k_inverse : PySem.W.keepIn K (.ref f_inverse) = true)
    (a_value_at : PySem.W.nsIn K mainGlobals "value_at" = some (some (.ref f_value_at))) (l_value_at : K.lookup f_value_at = some ⟨oc_value_at, od_value_at, .func (PySem.W.fnOf "value_at" "value_at" (defArgs s_value_at) (defBody s_value_at) (defScope s_value_at) .none kV_value_at dc_value_at pm_value_at an_value_at cd_value_at ct_value_at), sl_value_at⟩) (c_value_at : PySem.W.codeIn K cd_value_at "value_at" = true) (k_value_at : PySem.W.keepIn K (.ref f_value_at) = true)
    (a_interpolate : PySem.W.nsIn K mainGlobals "interpolate" = some (some (.ref f_interpolate))) (l_interpolate : K.lookup f_interpolate = some ⟨oc_interpolate, od_interpolate, .func (PySem.W.fnOf "interpolate" "interpolate" (defArgs s_interpolate) (defBody s_interpolate) (defScope s_interpolate) .none kV_interpolate dc_interpolate pm_interpolate an_interpolate cd_interpolate ct_interpolate), sl_interpolate⟩) (c_interpolate : PySem.W.codeIn K cd_interpolate "interpolate" = true) (k_interpolate : PySem.W.keepIn K (.ref f_interpolate) = true)
    (a__law_asked : PySem.W.nsIn K mainGlobals "_law_asked" = some (some (.ref f__law_asked))) (l__law_asked : K.lookup f__law_asked = some ⟨oc__law_asked, od__law_asked, .func (PySem.W.fnOf "_law_asked" "_law_asked" (defArgs s_Lasked) (defBody s_Lasked) (defScope s_Lasked) .none kV__law_asked dc__law_asked pm__law_asked an__law_asked cd__law_asked ct__law_asked), sl__law_asked⟩) (c__law_asked : PySem.W.codeIn K cd__law_asked "_law_asked" = true) (k__law_asked : PySem.W.keepIn K (.ref f__law_asked) = true)
    (a__law_great : PySem.W.nsIn K mainGlobals "_law_great" = some (some (.ref f__law_great))) (l__law_great : K.lookup f__law_great = some ⟨oc__law_great, od__law_great, .func (PySem.W.fnOf "_law_great" "_law_great" (defArgs s_Lgreat) (defBody s_Lgreat) (defScope s_Lgreat) .none kV__law_great dc__law_great pm__law_great an__law_great cd__law_great ct__law_great), sl__law_great⟩) (c__law_great : PySem.W.codeIn K cd__law_great "_law_great" = true) (k__law_great : PySem.W.keepIn K (.ref f__law_great) = true)
    (a__law_places : PySem.W.nsIn K mainGlobals "_law_places" = some (some (.ref f__law_places))) (l__law_places : K.lookup f__law_places = some ⟨oc__law_places, od__law_places, .func (PySem.W.fnOf "_law_places" "_law_places" (defArgs s_Lplaces) (defBody s_Lplaces) (defScope s_Lplaces) .none kV__law_places dc__law_places pm__law_places an__law_places cd__law_places ct__law_places), sl__law_places⟩) (c__law_places : PySem.W.codeIn K cd__law_places "_law_places" = true) (k__law_places : PySem.W.keepIn K (.ref f__law_places) = true)
    (a__law_refused : PySem.W.nsIn K mainGlobals "_law_refused" = some (some (.ref f__law_refused))) (l__law_refused : K.lookup f__law_refused = some ⟨oc__law_refused, od__law_refused, .func (PySem.W.fnOf "_law_refused" "_law_refused" (defArgs s_Lrefused) (defBody s_Lrefused) (defScope s_Lrefused) .none kV__law_refused dc__law_refused pm__law_refused an__law_refused cd__law_refused ct__law_refused), sl__law_refused⟩) (c__law_refused : PySem.W.codeIn K cd__law_refused "_law_refused" = true) (k__law_refused : PySem.W.keepIn K (.ref f__law_refused) = true)
    (a__law_value : PySem.W.nsIn K mainGlobals "_law_value" = some (some (.ref f__law_value))) (l__law_value : K.lookup f__law_value = some ⟨oc__law_value, od__law_value, .func (PySem.W.fnOf "_law_value" "_law_value" (defArgs s_Lvalue) (defBody s_Lvalue) (defScope s_Lvalue) .none kV__law_value dc__law_value pm__law_value an__law_value cd__law_value ct__law_value), sl__law_value⟩) (c__law_value : PySem.W.codeIn K cd__law_value "_law_value" = true) (k__law_value : PySem.W.keepIn K (.ref f__law_value) = true)
    (a__law_meets : PySem.W.nsIn K mainGlobals "_law_meets" = some (some (.ref f__law_meets))) (l__law_meets : K.lookup f__law_meets = some ⟨oc__law_meets, od__law_meets, .func (PySem.W.fnOf "_law_meets" "_law_meets" (defArgs s_Lmeets) (defBody s_Lmeets) (defScope s_Lmeets) .none kV__law_meets dc__law_meets pm__law_meets an__law_meets cd__law_meets ct__law_meets), sl__law_meets⟩) (c__law_meets : PySem.W.codeIn K cd__law_meets "_law_meets" = true) (k__law_meets : PySem.W.keepIn K (.ref f__law_meets) = true)
    (a_law : PySem.W.nsIn K mainGlobals "law" = some (some (.ref f_law))) (l_law : K.lookup f_law = some ⟨oc_law, od_law, .func (PySem.W.fnOf "law" "law" (defArgs s_law) (defBody s_law) (defScope s_law) .none kV_law dc_law pm_law an_law cd_law ct_law), sl_law⟩) (c_law : PySem.W.codeIn K cd_law "law" = true) (k_law : PySem.W.keepIn K (.ref f_law) = true)
    (z_all : PySem.W.nsIn K mainGlobals "all" = some none)
    (z_bool : PySem.W.nsIn K mainGlobals "bool" = some none)
    (z_int : PySem.W.nsIn K mainGlobals "int" = some none)
    (z_isinstance : PySem.W.nsIn K mainGlobals "isinstance" = some none)
    (z_len : PySem.W.nsIn K mainGlobals "len" = some none)
    (z_list : PySem.W.nsIn K mainGlobals "list" = some none)
    (z_range : PySem.W.nsIn K mainGlobals "range" = some none)
    (z_reversed : PySem.W.nsIn K mainGlobals "reversed" = some none)
    (z_set : PySem.W.nsIn K mainGlobals "set" = some none)
    (z_str : PySem.W.nsIn K mainGlobals "str" = some none)
    (z_tuple : PySem.W.nsIn K mainGlobals "tuple" = some none)
    (z_zip : PySem.W.nsIn K mainGlobals "zip" = some none)
    
    (a_BadPoints : PySem.W.nsIn K mainGlobals "BadPoints" = some (some (.ref c_BadPoints)))
    (kc_BadPoints : PySem.W.keepIn K (.ref c_BadPoints) = true)
    (s_BadPoints : PySem.W.subIn K (.ref c_BadPoints) (.type "BaseException") = some true)
    (t_BadPoints : PySem.W.typeIn K (.ref c_BadPoints) = some (.type "type"))
    (i_BadPoints : PySem.W.isClsIn K c_BadPoints = true)
    (hd_BadPoints : PySem.W.hasDictIn K c_BadPoints = true)
    (x_BadPoints : PySem.W.excIn K c_BadPoints [.type "ValueError", .type "Exception", .type "BaseException", .type "object"] "ValueError.__new__" = true)
    
    (a_NoInverse : PySem.W.nsIn K mainGlobals "NoInverse" = some (some (.ref c_NoInverse)))
    (kc_NoInverse : PySem.W.keepIn K (.ref c_NoInverse) = true)
    (s_NoInverse : PySem.W.subIn K (.ref c_NoInverse) (.type "BaseException") = some true)
    (t_NoInverse : PySem.W.typeIn K (.ref c_NoInverse) = some (.type "type"))
    (i_NoInverse : PySem.W.isClsIn K c_NoInverse = true)
    (hd_NoInverse : PySem.W.hasDictIn K c_NoInverse = true)
    (x_NoInverse : PySem.W.excIn K c_NoInverse [.type "ValueError", .type "Exception", .type "BaseException", .type "object"] "ValueError.__new__" = true)
    (u_BadPoints_BadPoints : PySem.W.subIn K (.ref c_BadPoints) (.ref c_BadPoints) = some true)
    (u_NoInverse_BadPoints : PySem.W.subIn K (.ref c_NoInverse) (.ref c_BadPoints) = some false)
    : ∃ fd : FuncData, (∀ (s : Shared) (v : Value), BindsTo s fd ⟨[v], []⟩ [("script", v)]) ∧ ∀ base : Heap, K.In base → base.Ns mainGlobals mg → FnOk l.prog w K mg base CX0 8 fa fd ["script"] (spLaw K) := by
  have e := hfa.symm.trans (PySem.W.mg_of X G a_law)
  cases e
  let T : Top K mg := {
                                        f__law_box := f__law_box, d__law_box := _, F__law_box := fun_mk (st := s_Lbox) l__law_box c__law_box k__law_box, m__law_box := PySem.W.mg_of X G a__law_box, b__law_box := (fun_mk (st := s_Lbox) l__law_box c__law_box k__law_box).binds (ps := ["script", "at"]) (fun _ _ _ _ _ _ us hl => match us, hl with | [_, _], _ => rfl),
                                        f__law_mix := f__law_mix, d__law_mix := _, F__law_mix := fun_mk (st := s_Lmix) l__law_mix c__law_mix k__law_mix, m__law_mix := PySem.W.mg_of X G a__law_mix, b__law_mix := (fun_mk (st := s_Lmix) l__law_mix c__law_mix k__law_mix).binds (ps := ["cell", "salt"]) (fun _ _ _ _ _ _ us hl => match us, hl with | [_, _], _ => rfl),
                                        f__law_draw := f__law_draw, d__law_draw := _, F__law_draw := fun_mk (st := s_Ldraw) l__law_draw c__law_draw k__law_draw, m__law_draw := PySem.W.mg_of X G a__law_draw, b__law_draw := (fun_mk (st := s_Ldraw) l__law_draw c__law_draw k__law_draw).binds (ps := ["box", "many"]) (fun _ _ _ _ _ _ us hl => match us, hl with | [_, _], _ => rfl),
                                        f__law_is_prime := f__law_is_prime, d__law_is_prime := _, F__law_is_prime := fun_mk (st := s_Lis_prime) l__law_is_prime c__law_is_prime k__law_is_prime, m__law_is_prime := PySem.W.mg_of X G a__law_is_prime, b__law_is_prime := (fun_mk (st := s_Lis_prime) l__law_is_prime c__law_is_prime k__law_is_prime).binds (ps := ["n"]) (fun _ _ _ _ _ _ us hl => match us, hl with | [_], _ => rfl),
                                        f__law_prime := f__law_prime, d__law_prime := _, F__law_prime := fun_mk (st := s_Lprime) l__law_prime c__law_prime k__law_prime, m__law_prime := PySem.W.mg_of X G a__law_prime, b__law_prime := (fun_mk (st := s_Lprime) l__law_prime c__law_prime k__law_prime).binds (ps := ["box", "low", "high"]) (fun _ _ _ _ _ _ us hl => match us, hl with | [_, _, _], _ => rfl),
                                        f__law_alike := f__law_alike, d__law_alike := _, F__law_alike := fun_mk (st := s_Lalike) l__law_alike c__law_alike k__law_alike, m__law_alike := PySem.W.mg_of X G a__law_alike, b__law_alike := (fun_mk (st := s_Lalike) l__law_alike c__law_alike k__law_alike).binds (ps := ["told", "due"]) (fun _ _ _ _ _ _ us hl => match us, hl with | [_, _], _ => rfl),
                                        f_times_root := f_times_root, d_times_root := _, F_times_root := fun_mk (st := s_times_root) l_times_root c_times_root k_times_root, m_times_root := PySem.W.mg_of X G a_times_root, b_times_root := (fun_mk (st := s_times_root) l_times_root c_times_root k_times_root).binds (ps := ["coefficients", "root", "q"]) (fun _ _ _ _ _ _ us hl => match us, hl with | [_, _, _], _ => rfl),
                                        f_without_root := f_without_root, d_without_root := _, F_without_root := fun_mk (st := s_without_root) l_without_root c_without_root k_without_root, m_without_root := PySem.W.mg_of X G a_without_root, b_without_root := (fun_mk (st := s_without_root) l_without_root c_without_root k_without_root).binds (ps := ["coefficients", "root", "q"]) (fun _ _ _ _ _ _ us hl => match us, hl with | [_, _, _], _ => rfl),
                                        f_inverse := f_inverse, d_inverse := _, F_inverse := fun_mk (st := s_inverse) l_inverse c_inverse k_inverse, m_inverse := PySem.W.mg_of X G a_inverse, b_inverse := (fun_mk (st := s_inverse) l_inverse c_inverse k_inverse).binds (ps := ["a", "q"]) (fun _ _ _ _ _ _ us hl => match us, hl with | [_, _], _ => rfl),
                                        f_value_at := f_value_at, d_value_at := _, F_value_at := fun_mk (st := s_value_at) l_value_at c_value_at k_value_at, m_value_at := PySem.W.mg_of X G a_value_at, b_value_at := (fun_mk (st := s_value_at) l_value_at c_value_at k_value_at).binds (ps := ["coefficients", "x", "q"]) (fun _ _ _ _ _ _ us hl => match us, hl with | [_, _, _], _ => rfl),
                                        f_interpolate := f_interpolate, d_interpolate := _, F_interpolate := fun_mk (st := s_interpolate) l_interpolate c_interpolate k_interpolate, m_interpolate := PySem.W.mg_of X G a_interpolate, b_interpolate := (fun_mk (st := s_interpolate) l_interpolate c_interpolate k_interpolate).binds (ps := ["points", "q"]) (fun _ _ _ _ _ _ us hl => match us, hl with | [_, _], _ => rfl),
                                        f__law_asked := f__law_asked, d__law_asked := _, F__law_asked := fun_mk (st := s_Lasked) l__law_asked c__law_asked k__law_asked, m__law_asked := PySem.W.mg_of X G a__law_asked, b__law_asked := (fun_mk (st := s_Lasked) l__law_asked c__law_asked k__law_asked).binds (ps := ["points", "q"]) (fun _ _ _ _ _ _ us hl => match us, hl with | [_, _], _ => rfl),
                                        f__law_great := f__law_great, d__law_great := _, F__law_great := fun_mk (st := s_Lgreat) l__law_great c__law_great k__law_great, m__law_great := PySem.W.mg_of X G a__law_great, b__law_great := (fun_mk (st := s_Lgreat) l__law_great c__law_great k__law_great).binds (ps := ["box"]) (fun _ _ _ _ _ _ us hl => match us, hl with | [_], _ => rfl),
                                        f__law_places := f__law_places, d__law_places := _, F__law_places := fun_mk (st := s_Lplaces) l__law_places c__law_places k__law_places, m__law_places := PySem.W.mg_of X G a__law_places, b__law_places := (fun_mk (st := s_Lplaces) l__law_places c__law_places k__law_places).binds (ps := ["box", "q", "many"]) (fun _ _ _ _ _ _ us hl => match us, hl with | [_, _, _], _ => rfl),
                                        f__law_refused := f__law_refused, d__law_refused := _, F__law_refused := fun_mk (st := s_Lrefused) l__law_refused c__law_refused k__law_refused, m__law_refused := PySem.W.mg_of X G a__law_refused, b__law_refused := (fun_mk (st := s_Lrefused) l__law_refused c__law_refused k__law_refused).binds (ps := ["box", "q"]) (fun _ _ _ _ _ _ us hl => match us, hl with | [_, _], _ => rfl),
                                        f__law_value := f__law_value, d__law_value := _, F__law_value := fun_mk (st := s_Lvalue) l__law_value c__law_value k__law_value, m__law_value := PySem.W.mg_of X G a__law_value, b__law_value := (fun_mk (st := s_Lvalue) l__law_value c__law_value k__law_value).binds (ps := ["coefficients", "x", "q"]) (fun _ _ _ _ _ _ us hl => match us, hl with | [_, _, _], _ => rfl),
                                        f__law_meets := f__law_meets, d__law_meets := _, F__law_meets := fun_mk (st := s_Lmeets) l__law_meets c__law_meets k__law_meets, m__law_meets := PySem.W.mg_of X G a__law_meets, b__law_meets := (fun_mk (st := s_Lmeets) l__law_meets c__law_meets k__law_meets).binds (ps := ["box", "q"]) (fun _ _ _ _ _ _ us hl => match us, hl with | [_, _], _ => rfl),
                                        f_law := fa, d_law := _, F_law := fun_mk (st := s_law) l_law c_law k_law, m_law := PySem.W.mg_of X G a_law, b_law := (fun_mk (st := s_law) l_law c_law k_law).binds (ps := ["script"]) (fun _ _ _ _ _ _ us hl => match us, hl with | [_], _ => rfl),
                                        k_interpolate_0_q_points := fun_kbinds (fun_mk (st := s_interpolate) l_interpolate c_interpolate k_interpolate) g_interpolate_0_q_points_rel (fun _ _ _ _ _ _ us ws hl => match us, ws, hl with | [], [_, _], _ => rfl),
                                        k_value_at_0_x_q_coefficients := fun_kbinds (fun_mk (st := s_value_at) l_value_at c_value_at k_value_at) g_value_at_0_x_q_coefficients_rel (fun _ _ _ _ _ _ us ws hl => match us, ws, hl with | [], [_, _, _], _ => rfl),
                                        z_all := PySem.W.mg_none_of X G z_all,
                                        z_bool := PySem.W.mg_none_of X G z_bool,
                                        z_int := PySem.W.mg_none_of X G z_int,
                                        z_isinstance := PySem.W.mg_none_of X G z_isinstance,
                                        z_len := PySem.W.mg_none_of X G z_len,
                                        z_list := PySem.W.mg_none_of X G z_list,
                                        z_range := PySem.W.mg_none_of X G z_range,
                                        z_reversed := PySem.W.mg_none_of X G z_reversed,
                                        z_set := PySem.W.mg_none_of X G z_set,
                                        z_str := PySem.W.mg_none_of X G z_str,
                                        z_tuple := PySem.W.mg_none_of X G z_tuple,
                                        z_zip := PySem.W.mg_none_of X G z_zip,
                                        c_BadPoints := c_BadPoints,
                                        m_BadPoints := PySem.W.mg_of X G a_BadPoints,
                                        kc_BadPoints := kc_BadPoints,
                                        s_BadPoints := s_BadPoints,
                                        t_BadPoints := t_BadPoints,
                                        i_BadPoints := i_BadPoints,
                                        hd_BadPoints := hd_BadPoints,
                                        x_BadPoints := x_BadPoints,
                                        c_NoInverse := c_NoInverse,
                                        m_NoInverse := PySem.W.mg_of X G a_NoInverse,
                                        kc_NoInverse := kc_NoInverse,
                                        s_NoInverse := s_NoInverse,
                                        t_NoInverse := t_NoInverse,
                                        i_NoInverse := i_NoInverse,
                                        hd_NoInverse := hd_NoInverse,
                                        x_NoInverse := x_NoInverse,
                                        u_BadPoints_BadPoints := u_BadPoints_BadPoints,
                                        u_NoInverse_BadPoints := u_NoInverse_BadPoints }
  refine ⟨T.d_law, fun s v => .of_eq rfl, fun base _ _ => ?_⟩
  exact ok_law T law_true
theorem walk {l : PySem.W.OpenLaw} {q : Program} {loose : List Str} {XP : (Str → Option Value) → Heap → Prop} {YP : World → Heap → Prop} {d : DefRec} {K : Params → PySem.W.Frag} (hn : l.most = some 63) (hdf : d.params.defaults = [])
    (hY : ∀ (w : World) (h : Heap), YP w h → (K w.params).In h)
    (F : ∀ (w : World) (mg : Str → Option Value) (fa : Addr) (h : Heap), (K w.params).In h → h.Ns mainGlobals mg → mg d.name = some (.ref fa) →
      ∃ fd : FuncData, (∀ (s : Shared) (u : Value), BindsTo s fd ⟨[u], []⟩ [("script", u)]) ∧ ∀ base : Heap, (K w.params).In base → base.Ns mainGlobals mg → FnOk l.prog w (K w.params) mg base CX0 8 fa fd ["script"] (spLaw (K w.params))) :
    PySem.W.WalkO q loose XP YP l.row.toRowW d [] (fun f vs => PySem.call f vs) :=
  L2.walk_of (n := 63) (k := 8) (x := "script") (CX := fun _ => CX0) (sp := fun w => spLaw (K w.params)) hn (by decide) hdf ⟨rfl, by decide, by decide⟩ hY F (fun _ _ a ns hl _ hS => ⟨a, ns, rfl, hS, hl, fun _ => rfl⟩) fun _ _ _ _ _ z => z
end Toy
open PySem PySem.W PyProof.Rows
set_option maxRecDepth 100000 in
set_option maxHeartbeats 0 in
theorem PySem.Challenge.cw_hushpapers_k02_values_and_interpolation_holds : PySem.Challenge.rw_hushpapers_k02_values_and_interpolation.Holds := by
  w_on; o_law; k_head; (case hw => w_witness2)
  k_fill
  refine Toy.walk (l := PySem.Challenge.rw_hushpapers_k02_values_and_interpolation) rfl rfl (fun w h Y => PySem.W.kIn_of Y) ?F
  case F =>
    intro w mg fa h KX G hmg
    refine' Toy.all_mk KX G hmg ?a__law_box ?l__law_box ?c__law_box ?k__law_box ?a__law_mix ?l__law_mix ?c__law_mix ?k__law_mix ?a__law_draw ?l__law_draw ?c__law_draw ?k__law_draw ?a__law_is_prime ?l__law_is_prime ?c__law_is_prime ?k__law_is_prime ?a__law_prime ?l__law_prime ?c__law_prime ?k__law_prime ?a__law_alike ?l__law_alike ?c__law_alike ?k__law_alike ?a_times_root ?l_times_root ?c_times_root ?k_times_root ?a_without_root ?l_without_root ?c_without_root ?k_without_root ?a_inverse ?l_inverse ?c_inverse ?k_inverse ?a_value_at ?l_value_at ?c_value_at ?k_value_at ?a_interpolate ?l_interpolate ?c_interpolate ?k_interpolate ?a__law_asked ?l__law_asked ?c__law_asked ?k__law_asked ?a__law_great ?l__law_great ?c__law_great ?k__law_great ?a__law_places ?l__law_places ?c__law_places ?k__law_places ?a__law_refused ?l__law_refused ?c__law_refused ?k__law_refused ?a__law_value ?l__law_value ?c__law_value ?k__law_value ?a__law_meets ?l__law_meets ?c__law_meets ?k__law_meets ?a_law ?l_law ?c_law ?k_law ?z_all ?z_bool ?z_int ?z_isinstance ?z_len ?z_list ?z_range ?z_reversed ?z_set ?z_str ?z_tuple ?z_zip ?a_BadPoints ?kc_BadPoints ?s_BadPoints ?t_BadPoints ?i_BadPoints ?hd_BadPoints ?x_BadPoints ?a_NoInverse ?kc_NoInverse ?s_NoInverse ?t_NoInverse ?i_NoInverse ?hd_NoInverse ?x_NoInverse ?u_BadPoints_BadPoints ?u_NoInverse_BadPoints
    (case a__law_box => k_is)
    (case a__law_mix => k_is)
    (case a__law_draw => k_is)
    (case a__law_is_prime => k_is)
    (case a__law_prime => k_is)
    (case a__law_alike => k_is)
    (case a_times_root => k_is)
    (case a_without_root => k_is)
    (case a_inverse => k_is)
    (case a_value_at => k_is)
    (case a_interpolate => k_is)
    (case a__law_asked => k_is)
    (case a__law_great => k_is)
    (case a__law_places => k_is)
    (case a__law_refused => k_is)
    (case a__law_value => k_is)
    (case a__law_meets => k_is)
    (case a_law => k_is)
    (case a_BadPoints => k_is)
    (case a_NoInverse => k_is)
    (case l__law_box => k_is)
    (case l__law_mix => k_is)
    (case l__law_draw => k_is)
    (case l__law_is_prime => k_is)
    (case l__law_prime => k_is)
    (case l__law_alike => k_is)
    (case l_times_root => k_is)
    (case l_without_root => k_is)
    (case l_inverse => k_is)
    (case l_value_at => k_is)
    (case l_interpolate => k_is)
    (case l__law_asked => k_is)
    (case l__law_great => k_is)
    (case l__law_places => k_is)
    (case l__law_refused => k_is)
    (case l__law_value => k_is)
    (case l__law_meets => k_is)
    (case l_law => k_is)
    (case c__law_box => k_is)
    (case k__law_box => k_is)
    (case c__law_mix => k_is)
    (case k__law_mix => k_is)
    (case c__law_draw => k_is)
    (case k__law_draw => k_is)
    (case c__law_is_prime => k_is)
    (case k__law_is_prime => k_is)
    (case c__law_prime => k_is)
    (case k__law_prime => k_is)
    (case c__law_alike => k_is)
    (case k__law_alike => k_is)
    (case c_times_root => k_is)
    (case k_times_root => k_is)
    (case c_without_root => k_is)
    (case k_without_root => k_is)
    (case c_inverse => k_is)
    (case k_inverse => k_is)
    (case c_value_at => k_is)
    (case k_value_at => k_is)
    (case c_interpolate => k_is)
    (case k_interpolate => k_is)
    (case c__law_asked => k_is)
    (case k__law_asked => k_is)
    (case c__law_great => k_is)
    (case k__law_great => k_is)
    (case c__law_places => k_is)
    (case k__law_places => k_is)
    (case c__law_refused => k_is)
    (case k__law_refused => k_is)
    (case c__law_value => k_is)
    (case k__law_value => k_is)
    (case c__law_meets => k_is)
    (case k__law_meets => k_is)
    (case c_law => k_is)
    (case k_law => k_is)
    (case z_all => k_is)
    (case z_bool => k_is)
    (case z_int => k_is)
    (case z_isinstance => k_is)
    (case z_len => k_is)
    (case z_list => k_is)
    (case z_range => k_is)
    (case z_reversed => k_is)
    (case z_set => k_is)
    (case z_str => k_is)
    (case z_tuple => k_is)
    (case z_zip => k_is)
    (case kc_BadPoints => k_is)
    (case s_BadPoints => k_is)
    (case t_BadPoints => k_is)
    (case i_BadPoints => k_is)
    (case hd_BadPoints => k_is)
    (case x_BadPoints => k_exc)
    (case kc_NoInverse => k_is)
    (case s_NoInverse => k_is)
    (case t_NoInverse => k_is)
    (case i_NoInverse => k_is)
    (case hd_NoInverse => k_is)
    (case x_NoInverse => k_exc)
    (case u_BadPoints_BadPoints => k_is)
    (case u_NoInverse_BadPoints => k_is)
