import PyProof.Rows.All
import Wide.All
import OpenK.AllK
import Wide.FinOn
import HandS.ForMost
import HandS.Wide
import HandS.IsInst
import HandS.Gcd
import HandS.NoneIn
import HandS.ForExc
import HandS.ExcIs
import HandS.Star
import HandS.Walk
import HandS.Zip
import HandS.TupAny
import HandS.Strs
import HandS.TupMul
import HandS.ClsMeth
import HandS.DictComp
import HandS.MakeKw
import HandS.Property
import KE.KSuper
import KE.GoesMore
import HandS.Conv
import HandS.Rev
import HandS.RevTup
import HandS.Deep
import HandS.CallSlots
import HandS.EndBits
import HandS.Flow
import PySem.Challenge.RW_hushpapers_k65_range_weights_and_digits
set_option Elab.async false
set_option linter.all false
set_option maxRecDepth 100000
set_option maxHeartbeats 4000000
namespace Toy
open PySem L2
/-! ### values, described; what stands still; environments -/
inductive PV where
  | non | bl (b : Bool) | int (i : Int) | str (x : Str)
  | tup (xs : List PV) | lst (xs : List PV) | fls (xs : List PV)
  | ins (C : Str) (fs : List (Str × PV)) | dct (kvs : List (Key × PV))
  | ty (n : String)
mutual
inductive Is (K : PySem.W.Frag) (cl : Str → Option Addr) (F : Hp) : V → PV → Prop
  | non : Is K cl F .non .non
  | bl (b : Bool) : Is K cl F (.bl b) (.bl b)
  | int (i : Int) : Is K cl F (.int i) (.int i)
  | str (x : Str) : Is K cl F (.str x) (.str x)
  | ty (n : String) : Is K cl F (.ty n) (.ty n)
  | tup {a : Addr} {vs : List V} {ps : List PV} : SqT K F a vs → IsL K cl F vs ps → Is K cl F (.ref a) (.tup ps)
  | lst {a : Addr} {vs : List V} {ps : List PV} : F a = some (.lst vs) → IsL K cl F vs ps → Is K cl F (.ref a) (.lst ps)
  | fls {a : Addr} {vs : List V} {ps : List PV} : SqL K F a vs → IsL K cl F vs ps → Is K cl F (.ref a) (.fls ps)
  | ins {a c dx : Addr} {C : Str} {vs : List (Str × V)} {fs : List (Str × PV)} : cl C = some c → F a = some (.ins c dx vs) → IsF K cl F vs fs → Is K cl F (.ref a) (.ins C fs)
  | dct {a : Addr} {vs : List (Key × V)} {ps : List (Key × PV)} : F a = some (.dK vs) → IsK K cl F vs ps → Is K cl F (.ref a) (.dct ps)
inductive IsL (K : PySem.W.Frag) (cl : Str → Option Addr) (F : Hp) : List V → List PV → Prop
  | nil : IsL K cl F [] []
  | cons {v : V} {p : PV} {vs : List V} {ps : List PV} : Is K cl F v p → IsL K cl F vs ps → IsL K cl F (v :: vs) (p :: ps)
inductive IsF (K : PySem.W.Frag) (cl : Str → Option Addr) (F : Hp) : List (Str × V) → List (Str × PV) → Prop
  | nil : IsF K cl F [] []
  | cons {f : Str} {v : V} {p : PV} {vs : List (Str × V)} {ps : List (Str × PV)} : Is K cl F v p → IsF K cl F vs ps → IsF K cl F ((f, v) :: vs) ((f, p) :: ps)
inductive IsK (K : PySem.W.Frag) (cl : Str → Option Addr) (F : Hp) : List (Key × V) → List (Key × PV) → Prop
  | nil : IsK K cl F [] []
  | cons {f : Key} {v : V} {p : PV} {vs : List (Key × V)} {ps : List (Key × PV)} : Is K cl F v p → IsK K cl F vs ps → IsK K cl F ((f, v) :: vs) ((f, p) :: ps)
end
section
variable {K : PySem.W.Frag} {cl : Str → Option Addr} {F F' : Hp}
def Sub (F F' : Hp) : Prop := ∀ a o, F a = some o → F' a = some o
theorem Sub.refl {F : Hp} : Sub F F := fun _ _ h => h
theorem Sub.trans {F F' F2 : Hp} (a : Sub F F') (b : Sub F' F2) : Sub F F2 := fun x o h => b x o (a x o h)
theorem Sub.rd {a : Addr} {u : HO} (s : Sub F F') (h : Rd F a u) : Rd F' a u := by
  rcases h with h | ⟨o, h⟩
  · exact .inl (s _ _ h)
  · exact .inr ⟨o, s _ _ h⟩
theorem Sub.sqT {a : Addr} {vs : List V} (s : Sub F F') (h : SqT K F a vs) : SqT K F' a vs := h.imp (fun h => s.rd h) id
theorem Sub.sqL {a : Addr} {vs : List V} (s : Sub F F') (h : SqL K F a vs) : SqL K F' a vs := h.imp (fun h => s.rd h) id
mutual
theorem Is.mono (s : Sub F F') : ∀ {v : V} {p : PV}, Is K cl F v p → Is K cl F' v p
  | _, _, .non => .non
  | _, _, .bl b => .bl b
  | _, _, .int i => .int i
  | _, _, .str x => .str x
  | _, _, .ty n => .ty n
  | _, _, .tup h r => .tup (s.sqT h) (IsL.mono s r)
  | _, _, .lst h r => .lst (s _ _ h) (IsL.mono s r)
  | _, _, .fls h r => .fls (s.sqL h) (IsL.mono s r)
  | _, _, .ins c h r => .ins c (s _ _ h) (IsF.mono s r)
  | _, _, .dct h r => .dct (s _ _ h) (IsK.mono s r)
theorem IsL.mono (s : Sub F F') : ∀ {vs : List V} {ps : List PV}, IsL K cl F vs ps → IsL K cl F' vs ps
  | _, _, .nil => .nil
  | _, _, .cons a r => .cons (Is.mono s a) (IsL.mono s r)
theorem IsF.mono (s : Sub F F') : ∀ {vs : List (Str × V)} {ps : List (Str × PV)}, IsF K cl F vs ps → IsF K cl F' vs ps
  | _, _, .nil => .nil
  | _, _, .cons a r => .cons (Is.mono s a) (IsF.mono s r)
theorem IsK.mono (s : Sub F F') : ∀ {vs : List (Key × V)} {ps : List (Key × PV)}, IsK K cl F vs ps → IsK K cl F' vs ps
  | _, _, .nil => .nil
  | _, _, .cons a r => .cons (Is.mono s a) (IsK.mono s r)
end
theorem IsL.len : ∀ {vs : List V} {ps : List PV}, IsL K cl F vs ps → vs.length = ps.length
  | _, _, .nil => rfl
  | _, _, .cons _ r => congrArg (· + 1) r.len
theorem IsL.get : ∀ {vs : List V} {ps : List PV} {i : Nat} {p : PV}, IsL K cl F vs ps → ps[i]? = some p → ∃ v, vs[i]? = some v ∧ Is K cl F v p
  | _, _, _, _, .nil, e => by simp at e
  | _, _, 0, _, .cons a _, e => by simp at e; subst e; exact ⟨_, rfl, a⟩
  | _, _, i + 1, _, .cons _ r, e => by
    obtain ⟨v, h, q⟩ := r.get (i := i) (by simpa using e)
    exact ⟨v, by simpa using h, q⟩
theorem IsL.get' : ∀ {vs : List V} {ps : List PV} {i : Nat} {v : V}, IsL K cl F vs ps → vs[i]? = some v → ∃ p, ps[i]? = some p ∧ Is K cl F v p
  | _, _, _, _, .nil, e => by simp at e
  | _, _, 0, _, .cons a _, e => by simp at e; subst e; exact ⟨_, rfl, a⟩
  | _, _, i + 1, _, .cons _ r, e => by
    obtain ⟨v, h, q⟩ := r.get' (i := i) (by simpa using e)
    exact ⟨v, by simpa using h, q⟩
theorem IsL.append : ∀ {vs ws : List V} {ps qs : List PV}, IsL K cl F vs ps → IsL K cl F ws qs → IsL K cl F (vs ++ ws) (ps ++ qs)
  | _, _, _, _, .nil, s => s
  | _, _, _, _, .cons a r, s => .cons a (r.append s)
theorem IsL.one {v : V} {p : PV} (h : Is K cl F v p) : IsL K cl F [v] [p] := .cons h .nil
theorem IsL.take : ∀ {vs : List V} {ps : List PV} (n : Nat), IsL K cl F vs ps → IsL K cl F (vs.take n) (ps.take n)
  | _, _, 0, _ => .nil
  | _, _, _ + 1, .nil => .nil
  | _, _, n + 1, .cons a r => .cons a (r.take n)
theorem IsL.drop : ∀ {vs : List V} {ps : List PV} (n : Nat), IsL K cl F vs ps → IsL K cl F (vs.drop n) (ps.drop n)
  | _, _, 0, r => r
  | _, _, _ + 1, .nil => .nil
  | _, _, n + 1, .cons _ r => r.drop n
theorem IsL.set {v : V} {p : PV} (h : Is K cl F v p) : ∀ {vs : List V} {ps : List PV} (n : Nat), IsL K cl F vs ps → IsL K cl F (vs.set n v) (ps.set n p)
  | _, _, _, .nil => .nil
  | _, _, 0, .cons _ r => .cons h r
  | _, _, n + 1, .cons a r => .cons a (IsL.set h n r)
theorem IsL.erase : ∀ {vs : List V} {ps : List PV} (n : Nat), IsL K cl F vs ps → IsL K cl F (vs.eraseIdx n) (ps.eraseIdx n)
  | _, _, _, .nil => .nil
  | _, _, 0, .cons _ r => r
  | _, _, n + 1, .cons a r => .cons a (IsL.erase n r)
theorem IsL.rep {v : V} {p : PV} (h : Is K cl F v p) : ∀ n : Nat, IsL K cl F (List.replicate n v) (List.replicate n p)
  | 0 => .nil
  | n + 1 => .cons h (IsL.rep h n)
theorem IsL.reverse {vs : List V} {ps : List PV} (h : IsL K cl F vs ps) : IsL K cl F vs.reverse ps.reverse := by
  induction vs generalizing ps with
  | nil => cases h; exact .nil
  | cons v vs ih =>
    cases h with
    | cons a r =>
      rw [List.reverse_cons, List.reverse_cons]
      exact (ih r).append (.one a)
theorem IsL.ints {vs : List V} : ∀ {ns : List Int}, IsL K cl F vs (ns.map PV.int) → vs = ns.map V.int := by
  intro ns
  induction ns generalizing vs with
  | nil => intro h; cases h; rfl
  | cons n ns ih =>
    intro h
    cases h with
    | cons a r =>
      cases a
      rw [ih r]
      rfl
theorem IsL.of_ints : ∀ ns : List Int, IsL K cl F (ns.map V.int) (ns.map PV.int)
  | [] => .nil
  | n :: ns => .cons (.int n) (IsL.of_ints ns)
theorem IsL.bls {vs : List V} : ∀ {ns : List Bool}, IsL K cl F vs (ns.map PV.bl) → vs = ns.map V.bl := by
  intro ns
  induction ns generalizing vs with
  | nil => intro h; cases h; rfl
  | cons n ns ih =>
    intro h
    cases h with
    | cons a r =>
      cases a
      rw [ih r]
      rfl
theorem IsF.look {f : Str} {p : PV} : ∀ {vs : List (Str × V)} {ps : List (Str × PV)}, IsF K cl F vs ps → ps.lookup f = some p → ∃ v, vs.lookup f = some v ∧ Is K cl F v p
  | _, _, .nil, e => by cases e
  | _, _, .cons (f := g) a r, e => by
    rw [List.lookup_cons] at e ⊢
    split at e
    · next h => cases e; exact ⟨_, rfl, a⟩
    · next h => exact r.look e
theorem IsF.nolook {f : Str} : ∀ {vs : List (Str × V)} {ps : List (Str × PV)}, IsF K cl F vs ps → ps.lookup f = none → vs.lookup f = none
  | _, _, .nil, _ => rfl
  | _, _, .cons (f := g) a r, e => by
    rw [List.lookup_cons] at e ⊢
    split at e
    · cases e
    · next h => exact r.nolook e
def valP (kvs : List (Key × PV)) (k : Key) : Option PV := (kvs.find? fun kv => decide (kv.1 = k)).map (·.2)
theorem IsK.val {k : Key} {p : PV} : ∀ {vs : List (Key × V)} {ps : List (Key × PV)}, IsK K cl F vs ps → valP ps k = some p → ∃ v, valV vs k = some v ∧ Is K cl F v p
  | _, _, .nil, e => by cases e
  | _, _, .cons (f := g) a r, e => by
    unfold valP at e
    unfold valV
    rw [List.find?_cons] at e ⊢
    by_cases h : g = k
    · rw [decide_eq_true h] at e ⊢
      cases e
      exact ⟨_, rfl, a⟩
    · rw [decide_eq_false h] at e ⊢
      exact r.val e
theorem IsK.noval {k : Key} : ∀ {vs : List (Key × V)} {ps : List (Key × PV)}, IsK K cl F vs ps → valP ps k = none → valV vs k = none
  | _, _, .nil, _ => rfl
  | _, _, .cons (f := g) a r, e => by
    unfold valP at e
    unfold valV
    rw [List.find?_cons] at e ⊢
    by_cases h : g = k
    · rw [decide_eq_true h] at e
      cases e
    · rw [decide_eq_false h] at e ⊢
      exact r.noval e
theorem IsK.len : ∀ {vs : List (Key × V)} {ps : List (Key × PV)}, IsK K cl F vs ps → vs.length = ps.length
  | _, _, .nil => rfl
  | _, _, .cons _ r => congrArg (· + 1) r.len
def putP (kvs : List (Key × PV)) (k : Key) (v : PV) : List (Key × PV) :=
  if (kvs.any fun kv => decide (kv.1 = k)) = true then kvs.map (fun kv => if kv.1 = k then (kv.1, v) else kv) else kvs ++ [(k, v)]
theorem IsK.any {k : Key} : ∀ {vs : List (Key × V)} {ps : List (Key × PV)}, IsK K cl F vs ps → (vs.any fun kv => decide (kv.1 = k)) = ps.any fun kv => decide (kv.1 = k)
  | _, _, .nil => rfl
  | _, _, .cons _ r => by rw [List.any_cons, List.any_cons, r.any]
theorem IsK.over {k : Key} {v : V} {p : PV} (h : Is K cl F v p) : ∀ {vs : List (Key × V)} {ps : List (Key × PV)}, IsK K cl F vs ps → IsK K cl F (vs.map fun kv => if kv.1 = k then (kv.1, v) else kv) (ps.map fun kv => if kv.1 = k then (kv.1, p) else kv)
  | _, _, .nil => .nil
  | _, _, .cons (f := g) a r => by
    rw [List.map_cons, List.map_cons]
    by_cases e : g = k
    · rw [if_pos e, if_pos e]
      exact .cons h (r.over h)
    · rw [if_neg e, if_neg e]
      exact .cons a (r.over h)
theorem IsK.append : ∀ {vs ws : List (Key × V)} {ps qs : List (Key × PV)}, IsK K cl F vs ps → IsK K cl F ws qs → IsK K cl F (vs ++ ws) (ps ++ qs)
  | _, _, _, _, .nil, s => s
  | _, _, _, _, .cons a r, s => .cons a (r.append s)
theorem IsK.put {k : Key} {v : V} {p : PV} (h : Is K cl F v p) {vs : List (Key × V)} {ps : List (Key × PV)} (r : IsK K cl F vs ps) : IsK K cl F (putK vs k v) (putP ps k p) := by
  unfold putK putP
  rw [r.any]
  split
  · exact r.over h
  · exact r.append (.cons h .nil)
end
/-! ### results -/
inductive Res (α : Type) where
  | val (a : α) | exc (c : Str) | stuck
def Res.bind {α β : Type} : Res α → (α → Res β) → Res β
  | .val a, f => f a
  | .exc c, _ => .exc c
  | .stuck, _ => .stuck
instance : Monad Res where
  pure := .val
  bind := Res.bind
def wp {α : Type} (m : Res α) (Q : α → Prop) (E : Str → Prop) : Prop := match m with
  | .val a => Q a
  | .exc c => E c
  | .stuck => False
section
variable {α β : Type} {Q : α → Prop} {E : Str → Prop} {R : β → Prop}
theorem wp_val {a : α} : wp (.val a) Q E ↔ Q a := Iff.rfl
theorem wp_bind {m : Res β} {f : β → Res α} : wp (m >>= f) Q E ↔ wp m (fun b => wp (f b) Q E) E := by cases m <;> rfl
theorem wp_mono {m : Res α} {Q' : α → Prop} {E' : Str → Prop} (h : wp m Q E) (q : ∀ a, Q a → Q' a) (e : ∀ c, E c → E' c) : wp m Q' E' := by
  cases m with
  | val a => exact q a h
  | exc c => exact e c h
  | stuck => exact h
@[simp] theorem bind_val {a : β} {f : β → Res α} : (Res.val a >>= f) = f a := rfl
@[simp] theorem bind_exc {c : Str} {f : β → Res α} : (Res.exc c >>= f) = .exc c := rfl
@[simp] theorem bind_stuck {f : β → Res α} : ((Res.stuck : Res β) >>= f) = .stuck := rfl
@[simp] theorem pure_val {a : α} : (pure a : Res α) = .val a := rfl
theorem wp_of_val {m : Res α} {a : α} (h : m = .val a) (q : Q a) : wp m Q E := by subst h; exact q
theorem wp_get {m : Res α} (h : wp m Q (fun _ => False)) : ∃ a, m = .val a ∧ Q a := by
  cases m with
  | val a => exact ⟨a, rfl, h⟩
  | exc c => exact h.elim
  | stuck => exact h.elim
end
/-! ### environments -/
inductive MO where
  | lst (xs : List PV) | dct (kvs : List (Key × PV))
inductive Slot where
  | un | fz (p : PV) | ow (m : MO) | rf (k : Nat) (m : MO)
abbrev Ro := List Slot
def frz (H : Hp) (A : List Addr) : Hp := fun a => if a ∈ A then none else H a
theorem frz_some {H : Hp} {A : List Addr} {a : Addr} {o : HO} : frz H A a = some o ↔ a ∉ A ∧ H a = some o := by
  unfold frz
  by_cases h : a ∈ A
  · rw [if_pos h]
    exact ⟨(fun z => nomatch z), fun z => absurd h z.1⟩
  · rw [if_neg h]
    exact ⟨fun z => ⟨h, z⟩, fun z => z.2⟩
theorem frz_sub {H : Hp} {A : List Addr} : Sub (frz H A) H := fun _ _ h => (frz_some.mp h).2
theorem frz_in {H : Hp} {A : List Addr} {a : Addr} (h : a ∈ A) : frz H A a = none := by unfold frz; rw [if_pos h]
/-- all but A is kept; what is in A' is of A or new -/
def Gr (A : List Addr) (H : Hp) (A' : List Addr) (H' : Hp) : Prop := (∀ x o, x ∉ A → H x = some o → H' x = some o) ∧ ∀ x, x ∈ A' → x ∈ A ∨ H x = none
theorem Gr.refl {A : List Addr} {H : Hp} : Gr A H A H := ⟨fun _ _ _ h => h, fun _ h => .inl h⟩
theorem Gr.trans {A B C : List Addr} {H H1 H2 : Hp} (a : Gr A H B H1) (b : Gr B H1 C H2) : Gr A H C H2 := by
  refine ⟨fun x o n h => ?_, fun x hx => ?_⟩
  · have h1 := a.1 x o n h
    refine b.1 x o (fun z => ?_) h1
    rcases a.2 x z with c | c
    · exact n c
    · rw [c] at h; cases h
  · rcases b.2 x hx with c | c
    · exact a.2 x c
    · cases e : H x with
      | none => exact .inr rfl
      | some o =>
        by_cases m : x ∈ A
        · exact .inl m
        · rw [a.1 x o m e] at c; cases c
theorem Gr.of {A : List Addr} {H H1 : Hp} (s : Sub H H1) : Gr A H A H1 := ⟨fun x o _ h => s x o h, fun _ h => .inl h⟩
theorem Gr.sub {O A A' : List Addr} {H H' : Hp} (g : Gr A H A' H') (hO : ∀ a, a ∈ O → ∃ o, H a = some o) : Sub (frz H (O ++ A)) (frz H' (O ++ A')) := fun x o h => by
  obtain ⟨n, h⟩ := frz_some.mp h
  rw [List.mem_append] at n
  refine frz_some.mpr ⟨fun z => ?_, g.1 x o (fun z => n (.inr z)) h⟩
  rcases List.mem_append.mp z with z | z
  · exact n (.inl z)
  · rcases g.2 x z with c | c
    · exact n (.inr c)
    · rw [c] at h; cases h
def adr : Ro → St → List Addr
  | .ow _ :: ρ, some (.ref a) :: σ => a :: adr ρ σ
  | .rf _ _ :: ρ, some (.ref a) :: σ => a :: adr ρ σ
  | _ :: ρ, _ :: σ => adr ρ σ
  | _, _ => []
def owa : Ro → St → List Addr
  | .ow _ :: ρ, some (.ref a) :: σ => a :: owa ρ σ
  | _ :: ρ, _ :: σ => owa ρ σ
  | _, _ => []
section
variable (K : PySem.W.Frag) (cl : Str → Option Addr)
def MoIs (F H : Hp) (a : Addr) : MO → Prop
  | .lst ps => ∃ vs, H a = some (.lst vs) ∧ IsL K cl F vs ps
  | .dct ps => ∃ vs, H a = some (.dK vs) ∧ IsK K cl F vs ps
def SlotIs (bs : List Addr) (F H : Hp) : Slot → Option V → Prop
  | .un, _ => True
  | .fz p, x => ∃ v, x = some v ∧ Is K cl F v p
  | .ow m, x => ∃ a, x = some (.ref a) ∧ MoIs K cl F H a m
  | .rf k m, x => ∃ a, x = some (.ref a) ∧ bs[k]? = some a ∧ MoIs K cl F H a m
inductive RelS (bs : List Addr) (F H : Hp) : Ro → St → Prop
  | nil : RelS bs F H [] []
  | cons {s : Slot} {x : Option V} {ρ : Ro} {σ : St} : SlotIs K cl bs F H s x → RelS bs F H ρ σ → RelS bs F H (s :: ρ) (x :: σ)
structure Rel (O bs : List Addr) (ρ : Ro) (σ : St) (H : Hp) : Prop where
  sl : RelS K cl bs (frz H (O ++ adr ρ σ)) H ρ σ
  nd : (adr ρ σ).Nodup
  al : ∀ a, a ∈ O → ∃ o, H a = some o
  ow : ∀ a, a ∈ owa ρ σ → a ∉ O
end
section
variable {K : PySem.W.Frag} {cl : Str → Option Addr} {F F' H H' : Hp} {O bs : List Addr} {ρ : Ro} {σ : St}
theorem MoIs.mono {a : Addr} {m : MO} (h : MoIs K cl F H a m) (s : Sub F F') (e : ∀ o, H a = some o → H' a = some o) : MoIs K cl F' H' a m := by
  cases m with
  | lst ps => obtain ⟨vs, h, r⟩ := h; exact ⟨vs, e _ h, r.mono s⟩
  | dct ps => obtain ⟨vs, h, r⟩ := h; exact ⟨vs, e _ h, r.mono s⟩
theorem MoIs.got {a : Addr} {m : MO} (h : MoIs K cl F H a m) : ∃ o, H a = some o := by
  cases m with
  | lst ps => obtain ⟨vs, h, r⟩ := h; exact ⟨_, h⟩
  | dct ps => obtain ⟨vs, h, r⟩ := h; exact ⟨_, h⟩
theorem SlotIs.mono {s : Slot} {x : Option V} (h : SlotIs K cl bs F H s x) (q : Sub F F') (e : ∀ a o, (x = some (.ref a) ∧ s ≠ .un ∧ (∀ p, s ≠ .fz p)) → H a = some o → H' a = some o) : SlotIs K cl bs F' H' s x := by
  cases s with
  | un => trivial
  | fz p => obtain ⟨v, rfl, h⟩ := h; exact ⟨v, rfl, h.mono q⟩
  | ow m => obtain ⟨a, rfl, h⟩ := h; exact ⟨a, rfl, h.mono q fun o => e a o ⟨rfl, (fun z => nomatch z), fun _ z => nomatch z⟩⟩
  | rf k m => obtain ⟨a, rfl, b, h⟩ := h; exact ⟨a, rfl, b, h.mono q fun o => e a o ⟨rfl, (fun z => nomatch z), fun _ z => nomatch z⟩⟩
theorem RelS.mono (h : RelS K cl bs F H ρ σ) (q : Sub F F') (e : ∀ a o, a ∈ adr ρ σ → H a = some o → H' a = some o) : RelS K cl bs F' H' ρ σ := by
  induction h with
  | nil => exact .nil
  | @cons s x ρ σ a r ih =>
    refine .cons (a.mono q fun b o z h => e b o ?_ h) (ih fun b o z h => e b o ?_ h)
    · obtain ⟨rfl, n1, n2⟩ := z
      cases s with
      | un => exact absurd rfl n1
      | fz p => exact absurd rfl (n2 p)
      | ow m => exact List.mem_cons_self
      | rf k m => exact List.mem_cons_self
    · cases s with
      | un => exact z
      | fz p => exact z
      | ow m => obtain ⟨c, rfl, _⟩ := a; exact List.mem_cons_of_mem _ z
      | rf k m => obtain ⟨c, rfl, _⟩ := a; exact List.mem_cons_of_mem _ z
theorem RelS.len (h : RelS K cl bs F H ρ σ) : ρ.length = σ.length := by
  induction h with
  | nil => rfl
  | cons _ _ ih => exact congrArg (· + 1) ih
theorem RelS.get {i : Nat} {s : Slot} (h : RelS K cl bs F H ρ σ) (e : ρ[i]? = some s) : ∃ x, σ[i]? = some x ∧ SlotIs K cl bs F H s x := by
  induction h generalizing i with
  | nil => simp at e
  | cons a r ih =>
    cases i with
    | zero => simp at e; subst e; exact ⟨_, rfl, a⟩
    | succ i =>
      obtain ⟨x, h1, h2⟩ := ih (i := i) (by simpa using e)
      exact ⟨x, by simpa using h1, h2⟩
theorem RelS.adr_got (h : RelS K cl bs F H ρ σ) {a : Addr} (ha : a ∈ adr ρ σ) : ∃ o, H a = some o := by
  induction h with
  | nil => cases ha
  | @cons s x ρ σ a r ih =>
    cases s with
    | un => exact ih ha
    | fz p => exact ih ha
    | ow m =>
      obtain ⟨c, rfl, q⟩ := a
      rcases List.mem_cons.mp ha with e | e
      · rw [e]; exact q.got
      · exact ih e
    | rf k m =>
      obtain ⟨c, rfl, _, q⟩ := a
      rcases List.mem_cons.mp ha with e | e
      · rw [e]; exact q.got
      · exact ih e
theorem Rel.same (h : Rel K cl O bs ρ σ H) (s : Sub H H') : Rel K cl O bs ρ σ H' :=
  ⟨h.sl.mono ((Gr.of s).sub h.al) fun _ _ _ e => s _ _ e, h.nd, fun a ha => let ⟨o, e⟩ := h.al a ha; ⟨o, s _ _ e⟩, h.ow⟩
theorem Rel.sub (h : Rel K cl O bs ρ σ H) (s : Sub H H') : Sub (frz H (O ++ adr ρ σ)) (frz H' (O ++ adr ρ σ)) := (Gr.of s).sub h.al
/-- all of O and of the owned stands -/
theorem Rel.got (h : Rel K cl O bs ρ σ H) {a : Addr} (ha : a ∈ O ++ adr ρ σ) : ∃ o, H a = some o := by
  rcases List.mem_append.mp ha with c | c
  · exact h.al a c
  · exact h.sl.adr_got c
/-- what is new is frozen at once -/
theorem Rel.new_frz (h : Rel K cl O bs ρ σ H) {p : Addr} (hp : H p = none) (o : HO) : frz (upd H p o) (O ++ adr ρ σ) p = some o := by
  refine frz_some.mpr ⟨fun z => ?_, upd_same⟩
  obtain ⟨u, e⟩ := h.got z
  rw [hp] at e
  cases e
theorem sub_new {H : Hp} {p : Addr} (h : H p = none) (o : HO) : Sub H (upd H p o) := fun b u q => by rw [upd_ne (ne_of_none q h)]; exact q
end
/-! ### readings that give a described value -/
def IsV (K : PySem.W.Frag) (cl : Str → Option Addr) (F H : Hp) (v : V) : PV → Prop
  | .lst ps => ∃ a vs, v = .ref a ∧ H a = some (.lst vs) ∧ IsL K cl F vs ps
  | .dct ps => ∃ a vs, v = .ref a ∧ H a = some (.dK vs) ∧ IsK K cl F vs ps
  | p => Is K cl F v p
section
variable (K : PySem.W.Frag) (cl : Str → Option Addr) (W : WX)
def XW (σ : St) (H : Hp) (c : Str) : Prop := ∀ C H', cl c = some C → Sub H H' → W (.ref C) none σ H'
/-- strictly frozen -/
def Pur (t : TE) (ρ : Ro) (m : Res PV) : Prop := ∀ (O bs : List Addr) (σ : St) (H : Hp) (Q : VK), Rel K cl O bs ρ σ H →
  wp m (fun r => ∀ v H', Sub H H' → Is K cl (frz H' (O ++ adr ρ σ)) v r → Q v H') (XW cl W σ H) → t σ H Q
/-- a view: the container may be owned -/
def Vw (t : TE) (ρ : Ro) (m : Res PV) : Prop := ∀ (O bs : List Addr) (σ : St) (H : Hp) (Q : VK), Rel K cl O bs ρ σ H →
  wp m (fun r => ∀ v H', Sub H H' → IsV K cl (frz H' (O ++ adr ρ σ)) H' v r → Q v H') (XW cl W σ H) → t σ H Q
def PurL (t : TA) (ρ : Ro) (m : Res (List PV)) : Prop := ∀ (O bs : List Addr) (σ : St) (H : Hp) (Q : List V → Hp → Prop), Rel K cl O bs ρ σ H →
  wp m (fun r => ∀ vs H', Sub H H' → IsL K cl (frz H' (O ++ adr ρ σ)) vs r → Q vs H') (XW cl W σ H) → t σ H Q
def Tst (t : TT) (ρ : Ro) (m : Res Bool) : Prop := ∀ (O bs : List Addr) (σ : St) (H : Hp) (Q : Bool → Hp → Prop), Rel K cl O bs ρ σ H →
  wp m (fun r => ∀ H', Sub H H' → Q r H') (XW cl W σ H) → t σ H Q
/-- an operation on two values -/
def Op2 (r : R2) (f : PV → PV → Res PV) : Prop := ∀ (A : List Addr) (H : Hp) (x y : V) (p q : PV) (Q : VK) (E : Str → Prop), (∀ a, a ∈ A → ∃ o, H a = some o) → IsV K cl (frz H A) H x p → IsV K cl (frz H A) H y q →
  wp (f p q) (fun z => ∀ v H', Sub H H' → Is K cl (frz H' A) v z → Q v H') E → r x y H Q
def Op1 (r : V → Hp → VK → Prop) (f : PV → Res PV) : Prop := ∀ (A : List Addr) (H : Hp) (x : V) (p : PV) (Q : VK) (E : Str → Prop), (∀ a, a ∈ A → ∃ o, H a = some o) → IsV K cl (frz H A) H x p →
  wp (f p) (fun z => ∀ v H', Sub H H' → Is K cl (frz H' A) v z → Q v H') E → r x H Q
/-- a built-in on one view -/
def Bi1 (r : List V → Hp → VK → Prop) (f : PV → Res PV) : Prop := Op1 K cl (fun x H Q => r [x] H Q) f
def Bi2 (r : List V → Hp → VK → Prop) (f : PV → PV → Res PV) : Prop := Op2 K cl (fun x y H Q => r [x, y] H Q) f
end
section
variable {K : PySem.W.Frag} {cl : Str → Option Addr} {W : WX} {ρ : Ro} {σ : St} {H H' F : Hp} {A : List Addr} {t ta tb tc : TE} {m ma mb : Res PV} {f : PV → PV → Res PV} {r : R2}
theorem Is.view {v : V} {p : PV} (h : Is K cl F v p) (s : Sub F H) : IsV K cl F H v p := by
  cases h with
  | tup h r => exact .tup h r
  | lst h r => exact ⟨_, _, rfl, s _ _ h, r⟩
  | fls h r => exact .fls h r
  | dct h r => exact ⟨_, _, rfl, s _ _ h, r⟩
  | non => exact .non
  | bl b => exact .bl b
  | int i => exact .int i
  | str x => exact .str x
  | ty n => exact .ty n
  | ins c h r => exact .ins c h r
theorem IsV.mono {F' : Hp} {v : V} {p : PV} (h : IsV K cl F H v p) (s : Sub F F') (s2 : Sub H H') : IsV K cl F' H' v p := by
  cases p with
  | tup ps => exact Is.mono s h
  | lst ps => obtain ⟨a, vs, e, h, r⟩ := h; exact ⟨a, vs, e, s2 _ _ h, r.mono s⟩
  | fls ps => exact Is.mono s h
  | dct ps => obtain ⟨a, vs, e, h, r⟩ := h; exact ⟨a, vs, e, s2 _ _ h, r.mono s⟩
  | non => exact Is.mono s h
  | bl b => exact Is.mono s h
  | int i => exact Is.mono s h
  | str x => exact Is.mono s h
  | ty n => exact Is.mono s h
  | ins C fs => exact Is.mono s h
theorem new_frz (hA : ∀ a, a ∈ A → ∃ o, H a = some o) {p : Addr} (hp : H p = none) (o : HO) : frz (upd H p o) A p = some o := by
  refine frz_some.mpr ⟨fun z => ?_, upd_same⟩
  obtain ⟨u, e⟩ := hA _ z
  rw [hp] at e
  cases e
theorem frz_same (s : Sub H H') : Sub (frz H A) (frz H' A) := fun x o h => by
  obtain ⟨n, h⟩ := frz_some.mp h
  exact frz_some.mpr ⟨n, s _ _ h⟩
theorem new_lst (hA : ∀ a, a ∈ A → ∃ o, H a = some o) {p : Addr} (hp : H p = none) {vs : List V} {ps : List PV} (h : IsL K cl (frz H A) vs ps) : Is K cl (frz (upd H p (.lst vs)) A) (.ref p) (.lst ps) :=
  .lst (new_frz hA hp _) (h.mono (frz_same (sub_new hp _)))
theorem new_tup (hA : ∀ a, a ∈ A → ∃ o, H a = some o) {p : Addr} (hp : H p = none) {vs : List V} {ps : List PV} (h : IsL K cl (frz H A) vs ps) : Is K cl (frz (upd H p (.tup vs)) A) (.ref p) (.tup ps) :=
  .tup (.inl (.inl (new_frz hA hp _))) (h.mono (frz_same (sub_new hp _)))
theorem Pur.vw (h : Pur K cl W t ρ m) : Vw K cl W t ρ m := fun O bs σ H Q R q => h O bs σ H Q R (wp_mono q (fun r k v H' s i => k v H' s (i.view frz_sub)) fun _ z => z)
theorem XW.mono {c : Str} (h : XW cl W σ H c) (s : Sub H H') : XW cl W σ H' c := fun C H2 e s2 => h C H2 e (s.trans s2)
theorem pu_var {i : Nat} {p : PV} (h : ρ[i]? = some (.fz p)) : Pur K cl W (tVar i) ρ (.val p) := fun O bs σ H Q R q => by
  obtain ⟨x, e, v, rfl, hv⟩ := R.sl.get h
  exact ⟨v, e, q v H .refl hv⟩
theorem vw_own {i : Nat} {ps : List PV} (h : ρ[i]? = some (.ow (.lst ps))) : Vw K cl W (tVar i) ρ (.val (.lst ps)) := fun O bs σ H Q R q => by
  obtain ⟨x, e, a, rfl, vs, ha, hv⟩ := R.sl.get h
  exact ⟨_, e, q _ H .refl ⟨a, vs, rfl, ha, hv⟩⟩
theorem vw_ownd {i : Nat} {ps : List (Key × PV)} (h : ρ[i]? = some (.ow (.dct ps))) : Vw K cl W (tVar i) ρ (.val (.dct ps)) := fun O bs σ H Q R q => by
  obtain ⟨x, e, a, rfl, vs, ha, hv⟩ := R.sl.get h
  exact ⟨_, e, q _ H .refl ⟨a, vs, rfl, ha, hv⟩⟩
theorem vw_rf {i k : Nat} {ps : List PV} (h : ρ[i]? = some (.rf k (.lst ps))) : Vw K cl W (tVar i) ρ (.val (.lst ps)) := fun O bs σ H Q R q => by
  obtain ⟨x, e, a, rfl, _, vs, ha, hv⟩ := R.sl.get h
  exact ⟨_, e, q _ H .refl ⟨a, vs, rfl, ha, hv⟩⟩
theorem vw_rfd {i k : Nat} {ps : List (Key × PV)} (h : ρ[i]? = some (.rf k (.dct ps))) : Vw K cl W (tVar i) ρ (.val (.dct ps)) := fun O bs σ H Q R q => by
  obtain ⟨x, e, a, rfl, _, vs, ha, hv⟩ := R.sl.get h
  exact ⟨_, e, q _ H .refl ⟨a, vs, rfl, ha, hv⟩⟩
theorem pu_c {v : V} {p : PV} (h : ∀ F, Is K cl F v p) : Pur K cl W (tC v) ρ (.val p) := fun O bs σ H Q R q => q v H .refl (h _)
theorem pu_int {i : Int} : Pur K cl W (tC (.int i)) ρ (.val (.int i)) := pu_c fun _ => .int i
theorem pu_bl {i : Bool} : Pur K cl W (tC (.bl i)) ρ (.val (.bl i)) := pu_c fun _ => .bl i
theorem pu_str {i : Str} : Pur K cl W (tC (.str i)) ρ (.val (.str i)) := pu_c fun _ => .str i
theorem pu_non : Pur K cl W (tC .non) ρ (.val .non) := pu_c fun _ => .non
theorem pu_ty {n : String} : Pur K cl W (tC (.ty n)) ρ (.val (.ty n)) := pu_c fun _ => .ty n
theorem pu_op (ho : Op2 K cl r f) (ha : Vw K cl W ta ρ ma) (hb : Vw K cl W tb ρ mb) : Pur K cl W (tOp r ta tb) ρ (ma >>= fun x => mb >>= fun y => f x y) := fun O bs σ H Q R q => by
  refine ha O bs σ H _ R (wp_mono (wp_bind.mp q) (fun x qx v1 H1 s1 i1 => ?_) fun _ z => z)
  have R1 := R.same s1
  refine hb O bs σ H1 _ R1 (wp_mono (wp_bind.mp qx) (fun y qy v2 H2 s2 i2 => ?_) fun _ z => z.mono s1)
  have R2 := R1.same s2
  refine ho _ H2 v1 v2 x y _ _ (fun a h => R2.got h) (i1.mono (frz_same s2) s2) i2 (wp_mono qy (fun z qz v H' s iz => qz v H' ((s1.trans s2).trans s) iz) fun _ z => z)
theorem pu_un {r : V → Hp → VK → Prop} {f : PV → Res PV} (ho : Op1 K cl r f) (ha : Vw K cl W ta ρ ma) : Pur K cl W (tUn r ta) ρ (ma >>= f) := fun O bs σ H Q R q => by
  refine ha O bs σ H _ R (wp_mono (wp_bind.mp q) (fun x qx v1 H1 s1 i1 => ?_) fun _ z => z)
  exact ho _ H1 v1 x _ _ (fun a h => (R.same s1).got h) i1 (wp_mono qx (fun z qz v H' s iz => qz v H' (s1.trans s) iz) fun _ z => z)
/-- both bools known to be so -/
def asB : PV → Res Bool
  | .bl b => .val b
  | _ => .stuck
theorem isV_bl {v : V} {b : Bool} (h : IsV K cl F H v (.bl b)) : v = .bl b := by cases h; rfl
theorem isV_int {v : V} {b : Int} (h : IsV K cl F H v (.int b)) : v = .int b := by cases h; rfl
theorem wp_asB {p : PV} {Q : Bool → Prop} {E : Str → Prop} (h : wp (asB p) Q E) : ∃ b, p = .bl b ∧ Q b := by
  cases p with
  | bl b => exact ⟨b, rfl, h⟩
  | _ => exact h.elim
theorem ts_val (ha : Vw K cl W ta ρ ma) : Tst K cl W (tB ta) ρ (ma >>= asB) := fun O bs σ H Q R q => by
  refine ha O bs σ H _ R (wp_mono (wp_bind.mp q) (fun x qx v1 H1 s1 i1 => ?_) fun _ z => z)
  obtain ⟨b, rfl, qb⟩ := wp_asB qx
  exact ⟨b, isV_bl i1, qb H1 s1⟩
theorem ts_cmp (ha : Vw K cl W t ρ ma) : Tst K cl W (tTest t) ρ (ma >>= asB) := fun O bs σ H Q R q => by
  refine ha O bs σ H _ R (wp_mono (wp_bind.mp q) (fun x qx v1 H1 s1 i1 => ?_) fun _ z => z)
  obtain ⟨b, rfl, qb⟩ := wp_asB qx
  exact ⟨b, isV_bl i1, qb H1 s1⟩
variable {u w : TT} {mu mw : Res Bool}
theorem ts_and (hu : Tst K cl W u ρ mu) (hw : Tst K cl W w ρ mw) : Tst K cl W (tAnd u w) ρ (mu >>= fun b => if b = true then mw else .val false) := fun O bs σ H Q R q => by
  refine hu O bs σ H _ R (wp_mono (wp_bind.mp q) (fun b qb H1 s1 => ?_) fun _ z => z)
  cases b with
  | true => exact hw O bs σ H1 _ (R.same s1) (wp_mono qb (fun c qc H2 s2 => qc H2 (s1.trans s2)) fun _ z => z.mono s1)
  | false => exact qb H1 s1
theorem ts_or (hu : Tst K cl W u ρ mu) (hw : Tst K cl W w ρ mw) : Tst K cl W (tOr u w) ρ (mu >>= fun b => if b = true then .val true else mw) := fun O bs σ H Q R q => by
  refine hu O bs σ H _ R (wp_mono (wp_bind.mp q) (fun b qb H1 s1 => ?_) fun _ z => z)
  cases b with
  | false => exact hw O bs σ H1 _ (R.same s1) (wp_mono qb (fun c qc H2 s2 => qc H2 (s1.trans s2)) fun _ z => z.mono s1)
  | true => exact qb H1 s1
theorem ts_not (hu : Tst K cl W u ρ mu) : Tst K cl W (tNot u) ρ (mu >>= fun b => .val (!b)) := fun O bs σ H Q R q => by
  refine hu O bs σ H _ R (wp_mono (wp_bind.mp q) (fun b qb H1 s1 => qb H1 s1) fun _ z => z)
theorem pu_andV (ha : Vw K cl W ta ρ ma) (hb : Pur K cl W tb ρ mb) : Pur K cl W (tAndV ta tb) ρ (ma >>= asB >>= fun b => if b = true then mb else .val (.bl false)) := fun O bs σ H Q R q => by
  rw [wp_bind, wp_bind] at q
  refine ha O bs σ H _ R (wp_mono q (fun x qx v1 H1 s1 i1 => ?_) fun _ z => z)
  obtain ⟨b, rfl, qb⟩ := wp_asB qx
  refine ⟨b, isV_bl i1, ?_⟩
  cases b with
  | true => exact hb O bs σ H1 _ (R.same s1) (wp_mono qb (fun c qc v H2 s2 i => qc v H2 (s1.trans s2) i) fun _ z => z.mono s1)
  | false => exact qb _ H1 s1 (.bl false)
theorem pu_orV (ha : Vw K cl W ta ρ ma) (hb : Pur K cl W tb ρ mb) : Pur K cl W (tOrV ta tb) ρ (ma >>= asB >>= fun b => if b = true then .val (.bl true) else mb) := fun O bs σ H Q R q => by
  rw [wp_bind, wp_bind] at q
  refine ha O bs σ H _ R (wp_mono q (fun x qx v1 H1 s1 i1 => ?_) fun _ z => z)
  obtain ⟨b, rfl, qb⟩ := wp_asB qx
  refine ⟨b, isV_bl i1, ?_⟩
  cases b with
  | false => exact hb O bs σ H1 _ (R.same s1) (wp_mono qb (fun c qc v H2 s2 i => qc v H2 (s1.trans s2) i) fun _ z => z.mono s1)
  | true => exact qb _ H1 s1 (.bl true)
theorem pu_notV (ha : Vw K cl W ta ρ ma) : Pur K cl W (tNotV ta) ρ (ma >>= asB >>= fun b => .val (.bl (!b))) := fun O bs σ H Q R q => by
  rw [wp_bind, wp_bind] at q
  refine ha O bs σ H _ R (wp_mono q (fun x qx v1 H1 s1 i1 => ?_) fun _ z => z)
  obtain ⟨b, rfl, qb⟩ := wp_asB qx
  exact ⟨b, isV_bl i1, qb _ H1 s1 (.bl _)⟩
theorem pu_if (hu : Tst K cl W u ρ mu) (ha : Pur K cl W ta ρ ma) (hb : Pur K cl W tb ρ mb) : Pur K cl W (tIf u ta tb) ρ (mu >>= fun b => if b = true then ma else mb) := fun O bs σ H Q R q => by
  refine hu O bs σ H _ R (wp_mono (wp_bind.mp q) (fun b qb H1 s1 => ?_) fun _ z => z)
  cases b with
  | true => exact ha O bs σ H1 _ (R.same s1) (wp_mono qb (fun c qc v H2 s2 i => qc v H2 (s1.trans s2) i) fun _ z => z.mono s1)
  | false => exact hb O bs σ H1 _ (R.same s1) (wp_mono qb (fun c qc v H2 s2 i => qc v H2 (s1.trans s2) i) fun _ z => z.mono s1)
theorem pu_chain {r' : R2} {f' : PV → PV → Res PV} {mc : Res PV} (ho : Op2 K cl r f) (ho' : Op2 K cl r' f') (ha : Vw K cl W ta ρ ma) (hb : Vw K cl W tb ρ mb) (hc : Vw K cl W tc ρ mc) :
    Pur K cl W (tChain r r' ta tb tc) ρ (ma >>= fun x => mb >>= fun y => f x y >>= asB >>= fun b => if b = true then mc >>= fun z => f' y z else .val (.bl false)) := fun O bs σ H Q R q => by
  refine ha O bs σ H _ R (wp_mono (wp_bind.mp q) (fun x qx v1 H1 s1 i1 => ?_) fun _ z => z)
  have R1 := R.same s1
  refine hb O bs σ H1 _ R1 (wp_mono (wp_bind.mp qx) (fun y qy v2 H2 s2 i2 => ?_) fun _ z => z.mono s1)
  have R2 := R1.same s2
  rw [wp_bind, wp_bind] at qy
  refine ho _ H2 v1 v2 x y _ _ (fun a h => R2.got h) (i1.mono (frz_same s2) s2) i2 (wp_mono qy (fun z qz v3 H3 s3 i3 => ?_) fun _ z => z)
  obtain ⟨b, rfl, qb⟩ := wp_asB qz
  refine ⟨b, by cases i3; rfl, ?_⟩
  have s13 := (s1.trans s2).trans s3
  cases b with
  | false => exact qb _ H3 s13 (.bl false)
  | true =>
    have R3 := R2.same s3
    refine hc O bs σ H3 _ R3 (wp_mono (wp_bind.mp qb) (fun z qz v4 H4 s4 i4 => ?_) fun _ z => z.mono s13)
    exact ho' _ H4 v2 v4 y z _ _ (fun a h => (R3.same s4).got h) (i2.mono (frz_same (s3.trans s4)) (s3.trans s4)) i4 (wp_mono qz (fun z qz v H' s iz => qz v H' ((s13.trans s4).trans s) iz) fun _ z => z)
variable {tr : TA} {ml : Res (List PV)}
theorem pl_nil : PurL K cl W tNil ρ (.val []) := fun O bs σ H Q R q => q [] H .refl .nil
theorem pl_cons (ha : Pur K cl W ta ρ ma) (hl : PurL K cl W tr ρ ml) : PurL K cl W (tCons ta tr) ρ (ma >>= fun x => ml >>= fun xs => .val (x :: xs)) := fun O bs σ H Q R q => by
  refine ha O bs σ H _ R (wp_mono (wp_bind.mp q) (fun x qx v1 H1 s1 i1 => ?_) fun _ z => z)
  refine hl O bs σ H1 _ (R.same s1) (wp_mono (wp_bind.mp qx) (fun xs qs vs H2 s2 i2 => ?_) fun _ z => z.mono s1)
  exact qs _ H2 (s1.trans s2) (.cons (i1.mono (frz_same s2)) i2)
def asSq : PV → Res (List PV)
  | .tup ps => .val ps
  | .lst ps => .val ps
  | .fls ps => .val ps
  | _ => .stuck
theorem wp_asSq {p : PV} {v : V} {Q : List PV → Prop} {E : Str → Prop} (h : wp (asSq p) Q E) (i : IsV K cl F H v p) (s : Sub F H := by exact frz_sub) : ∃ a vs ps, v = .ref a ∧ (SqT K H a vs ∨ SqL K H a vs) ∧ IsL K cl F vs ps ∧ Q ps := by
  cases p with
  | tup ps => cases i with | tup h1 r => exact ⟨_, _, ps, rfl, .inl (s.sqT h1), r, h⟩
  | lst ps => obtain ⟨a, vs, e, h1, r⟩ := i; exact ⟨a, vs, ps, e, .inr (.inl (.inl h1)), r, h⟩
  | fls ps => cases i with | fls h1 r => exact ⟨_, _, ps, rfl, .inr (s.sqL h1), r, h⟩
  | _ => exact h.elim
theorem pl_star (ha : Vw K cl W ta ρ ma) (hl : PurL K cl W tr ρ ml) : PurL K cl W (StX.tStar K ta tr) ρ (ma >>= asSq >>= fun ys => ml >>= fun xs => .val (ys ++ xs)) := fun O bs σ H Q R q => by
  rw [wp_bind, wp_bind] at q
  refine ha O bs σ H _ R (wp_mono q (fun x qx v1 H1 s1 i1 => ?_) fun _ z => z)
  obtain ⟨a, vs, ps, rfl, hs, hl1, qp⟩ := wp_asSq qx i1
  refine ⟨a, vs, rfl, hs, hl O bs σ H1 _ (R.same s1) (wp_mono (wp_bind.mp qp) (fun xs qs vs H2 s2 i2 => ?_) fun _ z => z.mono s1)⟩
  exact qs _ H2 (s1.trans s2) ((hl1.mono (frz_same s2)).append i2)
def sized (n : Nat) : Res Unit := if n ≤ sizeLine then .val () else .stuck
theorem wp_sized {n : Nat} {Q : Unit → Prop} {E : Str → Prop} (h : wp (sized n) Q E) : n ≤ sizeLine ∧ Q () := by
  unfold sized at h
  by_cases c : n ≤ sizeLine
  · rw [if_pos c] at h; exact ⟨c, h⟩
  · rw [if_neg c] at h; exact h.elim
def mkT (ps : List PV) : Res PV := sized ps.length >>= fun _ => .val (.tup ps)
def mkL (ps : List PV) : Res PV := sized ps.length >>= fun _ => .val (.lst ps)
theorem pu_tup (hl : PurL K cl W tr ρ ml) : Pur K cl W (tTup tr) ρ (ml >>= mkT) := fun O bs σ H Q R q => by
  refine hl O bs σ H _ R (wp_mono (wp_bind.mp q) (fun ps qs vs H1 s1 i1 => ?_) fun _ z => z)
  obtain ⟨z, qs⟩ := wp_sized (wp_bind.mp qs)
  refine ⟨by rw [i1.len]; exact z, fun p hp => qs _ _ (s1.trans (sub_new hp _)) (new_tup (fun a h => (R.same s1).got h) hp i1)⟩
theorem pu_lst (hl : PurL K cl W tr ρ ml) : Pur K cl W (tLst tr) ρ (ml >>= mkL) := fun O bs σ H Q R q => by
  refine hl O bs σ H _ R (wp_mono (wp_bind.mp q) (fun ps qs vs H1 s1 i1 => ?_) fun _ z => z)
  obtain ⟨z, qs⟩ := wp_sized (wp_bind.mp qs)
  refine ⟨by rw [i1.len]; exact z, fun p hp => qs _ _ (s1.trans (sub_new hp _)) (new_lst (fun a h => (R.same s1).got h) hp i1)⟩
theorem pu_cb1 {r : List V → Hp → VK → Prop} {f : PV → Res PV} (ho : Bi1 K cl r f) (ha : Vw K cl W ta ρ ma) : Pur K cl W (tCB r (tCons ta tNil)) ρ (ma >>= f) := fun O bs σ H Q R q => by
  refine ha O bs σ H _ R (wp_mono (wp_bind.mp q) (fun x qx v1 H1 s1 i1 => ?_) fun _ z => z)
  exact ho _ H1 v1 x _ _ (fun a h => (R.same s1).got h) i1 (wp_mono qx (fun z qz v H' s iz => qz v H' (s1.trans s) iz) fun _ z => z)
theorem pu_cb2 {r : List V → Hp → VK → Prop} (ho : Bi2 K cl r f) (ha : Vw K cl W ta ρ ma) (hb : Vw K cl W tb ρ mb) : Pur K cl W (tCB r (tCons ta (tCons tb tNil))) ρ (ma >>= fun x => mb >>= fun y => f x y) :=
  pu_op (r := fun x y H Q => r [x, y] H Q) ho ha hb
end
/-! ### operations -/
section
variable {X : Cx} {f : Value → Value → Sem Value} {r1 r2 : R2}
def rOr (r1 r2 : R2) : R2 := fun x y H Q => r1 x y H Q ∨ r2 x y H Q
theorem OpR.or (h1 : OpR X f r1) (h2 : OpR X f r2) : OpR X f (rOr r1 r2) := fun pins s σ H x y v u Q I rx ry h => h.elim (h1 pins s σ H x y v u Q I rx ry) (h2 pins s σ H x y v u Q I rx ry)
theorem IxR.or (h1 : IxR X r1) (h2 : IxR X r2) : IxR X (rOr r1 r2) := fun va sl pins s σ H x y v u Q I rx ry h hs => h.elim (fun h => h1 va sl pins s σ H x y v u Q I rx ry h hs) (fun h => h2 va sl pins s σ H x y v u Q I rx ry h hs)
def cOr (r1 r2 : List V → Hp → VK → Prop) : List V → Hp → VK → Prop := fun xs H Q => r1 xs H Q ∨ r2 xs H Q
theorem CallR.or {f : Value} {r1 r2 : List V → Hp → VK → Prop} (h1 : CallR X f r1) (h2 : CallR X f r2) : CallR X f (cOr r1 r2) := fun pins s σ H xs us Q I r h => h.elim (h1 pins s σ H xs us Q I r) (h2 pins s σ H xs us Q I r)
def sOr (r1 r2 : V → Option Int → Option Int → Hp → VK → Prop) : V → Option Int → Option Int → Hp → VK → Prop := fun x l h H Q => r1 x l h H Q ∨ r2 x l h H Q
theorem SlR.or {r1 r2 : V → Option Int → Option Int → Hp → VK → Prop} (h1 : SlR X r1) (h2 : SlR X r2) : SlR X (sOr r1 r2) := fun pins s σ H x v vl vu lo hi sl Q I rx hs pl pu h => h.elim (h1 pins s σ H x v vl vu lo hi sl Q I rx hs pl pu) (h2 pins s σ H x v vl vu lo hi sl Q I rx hs pl pu)
end
section
variable {K : PySem.W.Frag} {cl : Str → Option Addr} {F H : Hp} {r r1 r2 : R2} {f g : PV → PV → Res PV}
def ints2 (g : Int → Int → Res PV) : PV → PV → Res PV
  | .int i, .int j => g i j
  | _, _ => .stuck
theorem o2_ints {g : Int → Int → Res PV} {r : R2} (h : ∀ (A : List Addr) (H : Hp) (i j : Int) (Q : VK) (E : Str → Prop), wp (g i j) (fun z => ∀ v H', Sub H H' → Is K cl (frz H' A) v z → Q v H') E → r (.int i) (.int j) H Q) : Op2 K cl r (ints2 g) := fun A H x y p q Q E hA ix iy w => by
  unfold ints2 at w
  split at w
  · cases isV_int ix
    cases isV_int iy
    exact h A H _ _ Q E w
  · exact w.elim
theorem o2_i0 {g : Int → Int → V} {k : Int → Int → PV} (h : ∀ i j F, Is K cl F (g i j) (k i j)) : Op2 K cl (rI0 g) (ints2 fun i j => .val (k i j)) := o2_ints fun A H i j Q E w => ⟨i, j, rfl, rfl, w _ H .refl (h i j _)⟩
theorem o2_i {C : Int → Int → Prop} [∀ i j, Decidable (C i j)] {g : Int → Int → V} {k : Int → Int → PV} (h : ∀ i j F, Is K cl F (g i j) (k i j)) : Op2 K cl (rI C g) (ints2 fun i j => if C i j then .val (k i j) else .stuck) := o2_ints fun A H i j Q E w => by
  by_cases c : C i j
  · rw [if_pos c] at w
    exact ⟨i, j, rfl, rfl, c, w _ H .refl (h i j _)⟩
  · rw [if_neg c] at w
    exact w.elim
/-- one rule or the other, by what the first mirror makes -/
def orS (f g : PV → PV → Res PV) : PV → PV → Res PV := fun x y => match f x y with
  | .stuck => g x y
  | z => z
theorem o2_or (h1 : Op2 K cl r1 f) (h2 : Op2 K cl r2 g) : Op2 K cl (rOr r1 r2) (orS f g) := fun A H x y p q Q E hA ix iy w => by
  unfold orS at w
  split at w
  · exact .inr (h2 A H x y p q Q E hA ix iy w)
  · exact .inl (h1 A H x y p q Q E hA ix iy w)
instance (i j : Int) : Decidable (CMul i j) := by unfold CMul; infer_instance
instance (i j : Int) : Decidable (CMulW i j) := by unfold CMulW; infer_instance
instance (i j : Int) : Decidable (CDivN i j) := by unfold CDivN; infer_instance
instance (i j : Int) : Decidable (CDivW i j) := by unfold CDivW; infer_instance
instance (i j : Int) : Decidable (CPow i j) := by unfold CPow; infer_instance
/-! +, -, *, //, %, **, shifts -/
def catS : PV → PV → Res PV
  | .str i, .str j => if i.length + j.length ≤ sizeLine then .val (.str (i ++ j)) else .stuck
  | _, _ => .stuck
def catL : PV → PV → Res PV
  | .lst i, .lst j => if i.length + j.length ≤ sizeLine then .val (.lst (i ++ j)) else .stuck
  | _, _ => .stuck
def catT : PV → PV → Res PV
  | .tup i, .tup j => if i.length + j.length ≤ sizeLine then .val (.tup (i ++ j)) else .stuck
  | _, _ => .stuck
theorem isV_str {v : V} {b : Str} (h : IsV K cl F H v (.str b)) : v = .str b := by cases h; rfl
theorem o2_catS : Op2 K cl (fun x y H Q => ∃ i j, x = .str i ∧ y = .str j ∧ i.length + j.length ≤ sizeLine ∧ Q (.str (i ++ j)) H) catS := fun A H x y p q Q E hA ix iy w => by
  unfold catS at w
  split at w
  · cases isV_str ix
    cases isV_str iy
    split at w
    · next c => exact ⟨_, _, rfl, rfl, c, w _ H .refl (.str _)⟩
    · exact w.elim
  · exact w.elim
theorem o2_catL : Op2 K cl rCat catL := fun A H x y p q Q E hA ix iy w => by
  unfold catL at w
  split at w
  · obtain ⟨a, vs, rfl, ha, la⟩ := ix
    obtain ⟨b, ws, rfl, hb, lb⟩ := iy
    split at w
    · next c =>
      rw [← la.len, ← lb.len] at c
      exact ⟨a, b, vs, ws, rfl, rfl, ha, hb, c, fun p hp => w _ _ (sub_new hp _) (new_lst hA hp (la.append lb))⟩
    · exact w.elim
  · exact w.elim
theorem o2_catT : Op2 K cl (rCatA K) catT := fun A H x y p q Q E hA ix iy w => by
  unfold catT at w
  split at w
  · cases ix with
    | tup h1 l1 =>
    cases iy with
    | tup h2 l2 =>
    split at w
    · next c =>
      rw [← l1.len, ← l2.len] at c
      refine ⟨_, _, _, _, rfl, rfl, frz_sub.sqT h1, frz_sub.sqT h2, c, fun e => ?_, fun _ e => ?_, fun _ _ p hp => w _ _ (sub_new hp _) (new_tup hA hp (l1.append l2))⟩
      · refine w _ H .refl (.tup h2 ?_)
        subst e
        cases l1
        exact l2
      · refine w _ H .refl (.tup h1 ?_)
        subst e
        cases l2
        rw [List.append_nil]
        exact l1
    · exact w.elim
  · exact w.elim
def addP : PV → PV → Res PV := orS (ints2 fun i j => .val (.int (i + j))) (orS catS (orS catL catT))
def rAddV (K : PySem.W.Frag) : R2 := rOr (rI0 fun i j => .int (i + j)) (rOr (fun x y H Q => ∃ i j, x = .str i ∧ y = .str j ∧ i.length + j.length ≤ sizeLine ∧ Q (.str (i ++ j)) H) (rOr rCat (rCatA K)))
theorem o2_add : Op2 K cl (rAddV K) addP := o2_or (o2_i0 fun _ _ _ => .int _) (o2_or o2_catS (o2_or o2_catL o2_catT))
theorem op_addV (K : PySem.W.Frag) {X : Cx} (e : X.K = K) : OpR X (binaryOp .Add) (rAddV K) := by
  subst e
  exact op_add.or (op_add_str.or (op_cat.or op_catA))
def subP : PV → PV → Res PV := ints2 fun i j => .val (.int (i - j))
theorem o2_sub : Op2 K cl (rI0 fun i j => .int (i - j)) subP := o2_i0 fun _ _ _ => .int _
def repL : PV → PV → Res PV
  | .lst xs, .int k => if -(2 ^ 63) ≤ k ∧ k < 2 ^ 63 ∧ xs.length * k.toNat ≤ sizeLine then .val (.lst (List.replicate k.toNat xs).flatten) else .stuck
  | _, _ => .stuck
theorem IsL.reps {vs : List V} {ps : List PV} (h : IsL K cl F vs ps) : ∀ n : Nat, IsL K cl F (List.replicate n vs).flatten (List.replicate n ps).flatten
  | 0 => .nil
  | n + 1 => by
    rw [List.replicate_succ, List.replicate_succ, List.flatten_cons, List.flatten_cons]
    exact h.append (h.reps n)
theorem o2_repL : Op2 K cl rRep repL := fun A H x y p q Q E hA ix iy w => by
  unfold repL at w
  split at w
  · obtain ⟨a, vs, rfl, ha, la⟩ := ix
    cases isV_int iy
    split at w
    · next c =>
      rw [← la.len] at c
      exact ⟨a, _, vs, rfl, rfl, ha, c.1, c.2.1, c.2.2, fun p hp => w _ _ (sub_new hp _) (new_lst hA hp (la.reps _))⟩
    · exact w.elim
  · exact w.elim
def mulI : PV → PV → Res PV := orS (ints2 fun i j => if CMul i j then .val (.int (i * j)) else .stuck) (ints2 fun i j => if CMulW i j then .val (.int (i * j)) else .stuck)
def mulP : PV → PV → Res PV := orS mulI repL
def rMulV : R2 := rOr (rOr (rI CMul fun i j => .int (i * j)) (rI CMulW fun i j => .int (i * j))) rRep
theorem o2_mul : Op2 K cl rMulV mulP := o2_or (o2_or (o2_i fun _ _ _ => .int _) (o2_i fun _ _ _ => .int _)) o2_repL
theorem op_mulV {X : Cx} : OpR X (binaryOp .Mult) rMulV := (op_mul.or op_mulW).or op_rep
def fdivP : PV → PV → Res PV := orS (ints2 fun i j => if CDivN i j then .val (.int (i.fdiv j)) else .stuck) (ints2 fun i j => if CDivW i j then .val (.int (i / j)) else .stuck)
def rFdivV : R2 := rOr (rI CDivN fun i j => .int (i.fdiv j)) (rI CDivW fun i j => .int (i / j))
theorem o2_fdiv : Op2 K cl rFdivV fdivP := o2_or (o2_i fun _ _ _ => .int _) (o2_i fun _ _ _ => .int _)
theorem op_fdivV {X : Cx} : OpR X (binaryOp .FloorDiv) rFdivV := op_fdivN.or op_fdivW
def modP : PV → PV → Res PV := ints2 fun i j => if j ≠ 0 then .val (.int (i.fmod j)) else .stuck
theorem o2_mod : Op2 K cl (rI (fun _ j => j ≠ 0) fun i j => .int (i.fmod j)) modP := o2_i (C := fun _ j => j ≠ 0) fun _ _ _ => .int _
def powP : PV → PV → Res PV := ints2 fun i j => if CPow i j then .val (.int (i ^ j.toNat)) else .stuck
theorem o2_pow : Op2 K cl (rI CPow fun i j => .int (i ^ j.toNat)) powP := o2_i fun _ _ _ => .int _
def shlP : PV → PV → Res PV := ints2 fun i j => if CPow i j then .val (.int (i * 2 ^ j.toNat)) else .stuck
theorem o2_shl : Op2 K cl (rI CPow fun i j => .int (i * 2 ^ j.toNat)) shlP := o2_i fun _ _ _ => .int _
def shrP : PV → PV → Res PV := ints2 fun i j => if 0 ≤ j then .val (.int (i / 2 ^ j.toNat)) else .stuck
theorem o2_shr : Op2 K cl (rI (fun _ j => 0 ≤ j) fun i j => .int (i / 2 ^ j.toNat)) shrP := o2_i (C := fun _ j => 0 ≤ j) fun _ _ _ => .int _
def negP : PV → Res PV
  | .int i => .val (.int (-i))
  | _ => .stuck
theorem o1_neg : Op1 K cl (rU fun i => .int (-i)) negP := fun A H x p Q E hA ix w => by
  unfold negP at w
  split at w
  · cases isV_int ix
    exact ⟨_, rfl, w _ H .refl (.int _)⟩
  · exact w.elim
/-! comparisons -/
def ltP : PV → PV → Res PV := ints2 fun i j => .val (.bl (decide (i < j)))
def leP : PV → PV → Res PV := ints2 fun i j => .val (.bl (decide (i ≤ j)))
def gtP : PV → PV → Res PV := ints2 fun i j => .val (.bl (decide (j < i)))
def geP : PV → PV → Res PV := ints2 fun i j => .val (.bl (decide (j ≤ i)))
theorem o2_lt : Op2 K cl (rI0 fun i j => .bl (decide (i < j))) ltP := o2_i0 fun _ _ _ => .bl _
theorem o2_le : Op2 K cl (rI0 fun i j => .bl (decide (i ≤ j))) leP := o2_i0 fun _ _ _ => .bl _
theorem o2_gt : Op2 K cl (rI0 fun i j => .bl (decide (j < i))) gtP := o2_i0 fun _ _ _ => .bl _
theorem o2_ge : Op2 K cl (rI0 fun i j => .bl (decide (j ≤ i))) geP := o2_i0 fun _ _ _ => .bl _
mutual
def toD : PV → Option PyData
  | .non => some .none
  | .bl b => some (.bool b)
  | .int i => some (.int i)
  | .str x => some (.str x)
  | .lst xs => (toDs xs).map .list
  | .tup xs => (toDs xs).map .tuple
  | .fls xs => (toDs xs).map .list
  | .ins _ _ => none
  | .dct _ => none
  | .ty _ => none
def toDs : List PV → Option (List PyData)
  | [] => some []
  | x :: xs => (toD x).bind fun d => (toDs xs).map fun ds => d :: ds
end
mutual
theorem Is.dp : ∀ {v : V} {p : PV} {d : PyData}, Is K cl F v p → toD p = some d → Dp K F v d
  | _, _, _, .non, e => by cases e; exact .non
  | _, _, _, .bl b, e => by cases e; exact .bl b
  | _, _, _, .int b, e => by cases e; exact .int b
  | _, _, _, .str b, e => by cases e; exact .str b
  | _, _, _, .ty n, e => by cases e
  | _, _, _, .ins _ _ _, e => by cases e
  | _, _, _, .dct _ _, e => by cases e
  | _, _, _, .tup h r, e => by
    unfold toD at e
    obtain ⟨ds, e1, rfl⟩ := Option.map_eq_some_iff.mp e
    exact .tup h (IsL.dp r e1)
  | _, _, _, .lst h r, e => by
    unfold toD at e
    obtain ⟨ds, e1, rfl⟩ := Option.map_eq_some_iff.mp e
    exact .lst (.inl (.inl h)) (IsL.dp r e1)
  | _, _, _, .fls h r, e => by
    unfold toD at e
    obtain ⟨ds, e1, rfl⟩ := Option.map_eq_some_iff.mp e
    exact .lst h (IsL.dp r e1)
theorem IsL.dp : ∀ {vs : List V} {ps : List PV} {ds : List PyData}, IsL K cl F vs ps → toDs ps = some ds → DpAll K F vs ds
  | _, _, _, .nil, e => by cases e; exact .nil
  | _, _, _, .cons a r, e => by
    unfold toDs at e
    obtain ⟨d, e1, e2⟩ := Option.bind_eq_some_iff.mp e
    obtain ⟨ds, e3, rfl⟩ := Option.map_eq_some_iff.mp e2
    exact .cons (Is.dp a e1) (IsL.dp r e3)
end
mutual
theorem dp_sub {F F' : Hp} (s : Sub F F') : ∀ {v : V} {d : PyData}, Dp K F v d → Dp K F' v d
  | _, _, .non => .non
  | _, _, .bl b => .bl b
  | _, _, .int b => .int b
  | _, _, .str b => .str b
  | _, _, .lst h r => .lst (s.sqL h) (dpall_sub s r)
  | _, _, .tup h r => .tup (s.sqT h) (dpall_sub s r)
theorem dpall_sub {F F' : Hp} (s : Sub F F') : ∀ {v : List V} {d : List PyData}, DpAll K F v d → DpAll K F' v d
  | _, _, .nil => .nil
  | _, _, .cons a r => .cons (dp_sub s a) (dpall_sub s r)
end
theorem IsV.dp {v : V} {p : PV} {d : PyData} (h : IsV K cl F H v p) (s : Sub F H) (e : toD p = some d) : Dp K H v d := by
  cases p with
  | lst ps =>
    obtain ⟨a, vs, rfl, h, r⟩ := h
    unfold toD at e
    obtain ⟨ds, e1, rfl⟩ := Option.map_eq_some_iff.mp e
    exact .lst (.inl (.inl h)) (dpall_sub s (r.dp e1))
  | dct ps => cases e
  | tup ps => exact dp_sub s (Is.dp (K := K) (cl := cl) (F := F) h e)
  | fls ps => exact dp_sub s (Is.dp (K := K) (cl := cl) (F := F) h e)
  | non => exact dp_sub s (Is.dp (K := K) (cl := cl) (F := F) h e)
  | bl b => exact dp_sub s (Is.dp (K := K) (cl := cl) (F := F) h e)
  | int i => exact dp_sub s (Is.dp (K := K) (cl := cl) (F := F) h e)
  | str x => exact dp_sub s (Is.dp (K := K) (cl := cl) (F := F) h e)
  | ty n => exact dp_sub s (Is.dp (K := K) (cl := cl) (F := F) h e)
  | ins C fs => exact dp_sub s (Is.dp (K := K) (cl := cl) (F := F) h e)
def eqB (p q : PV) : Option Bool := (toD p).bind fun d => (toD q).bind fun e => if SeqAt.shaped d = true ∧ SeqAt.shaped e = true then some (PyData.eqv d e) else none
def eqP (p q : PV) : Res PV := match eqB p q with
  | some b => .val (.bl b)
  | none => .stuck
def neP (p q : PV) : Res PV := match eqB p q with
  | some b => .val (.bl (!b))
  | none => .stuck
theorem eqB_some {p q : PV} {b : Bool} (h : eqB p q = some b) : ∃ d e, toD p = some d ∧ toD q = some e ∧ SeqAt.shaped d = true ∧ SeqAt.shaped e = true ∧ b = PyData.eqv d e := by
  unfold eqB at h
  obtain ⟨d, e1, h⟩ := Option.bind_eq_some_iff.mp h
  obtain ⟨e, e2, h⟩ := Option.bind_eq_some_iff.mp h
  split at h
  · next c => exact ⟨d, e, e1, e2, c.1, c.2, (Option.some.inj h).symm⟩
  · cases h
theorem o2_eq : Op2 K cl (rEqD K) eqP := fun A H x y p q Q E hA ix iy w => by
  unfold eqP at w
  split at w
  · next b h =>
    obtain ⟨d, e, e1, e2, s1, s2, rfl⟩ := eqB_some h
    exact ⟨d, e, ix.dp frz_sub e1, iy.dp frz_sub e2, s1, s2, w _ H .refl (.bl _)⟩
  · exact w.elim
theorem o2_ne : Op2 K cl (rNeD K) neP := fun A H x y p q Q E hA ix iy w => by
  unfold neP at w
  split at w
  · next b h =>
    obtain ⟨d, e, e1, e2, s1, s2, rfl⟩ := eqB_some h
    exact ⟨d, e, ix.dp frz_sub e1, iy.dp frz_sub e2, s1, s2, w _ H .refl (.bl _)⟩
  · exact w.elim
def isNo : PV → Bool
  | .non => true
  | _ => false
theorem is_non {v : V} {p : PV} (h : Is K cl F v p) : decide (v = .non) = isNo p := by cases h <;> rfl
theorem isV_non {v : V} {p : PV} (h : IsV K cl F H v p) : decide (v = .non) = isNo p := by
  cases p with
  | lst ps => obtain ⟨a, vs, rfl, _⟩ := h; rfl
  | dct ps => obtain ⟨a, vs, rfl, _⟩ := h; rfl
  | _ => exact is_non (K := K) (cl := cl) (F := F) h
def isP : PV → PV → Res PV
  | p, .non => .val (.bl (isNo p))
  | _, _ => .stuck
def isnP : PV → PV → Res PV
  | p, .non => .val (.bl (!isNo p))
  | _, _ => .stuck
theorem o2_is : Op2 K cl (fun x y H Q => y = .non ∧ Q (.bl (decide (x = .non))) H) isP := fun A H x y p q Q E hA ix iy w => by
  unfold isP at w
  split at w
  · cases iy
    exact ⟨rfl, w _ H .refl (by rw [isV_non ix]; exact .bl _)⟩
  · exact w.elim
theorem o2_isn : Op2 K cl (fun x y H Q => y = .non ∧ Q (.bl (!decide (x = .non))) H) isnP := fun A H x y p q Q E hA ix iy w => by
  unfold isnP at w
  split at w
  · cases iy
    exact ⟨rfl, w _ H .refl (by rw [isV_non ix]; exact .bl _)⟩
  · exact w.elim
/-! items -/
def ixP : PV → PV → Res PV
  | .lst xs, .int i => match atI xs i with | some p => .val p | none => .stuck
  | .tup xs, .int i => match atI xs i with | some p => .val p | none => .stuck
  | .fls xs, .int i => match atI xs i with | some p => .val p | none => .stuck
  | _, _ => .stuck
def rIxV (K : PySem.W.Frag) : R2 := rOr (rIxL K) (rIxT K)
theorem ix_V {X : Cx} : IxR X (rIxV X.K) := ix_list.or ix_tup
theorem ix_VK (K : PySem.W.Frag) {X : Cx} (e : X.K = K) : IxR X (rIxV K) := by subst e; exact ix_V
theorem IsL.atI {vs : List V} {ps : List PV} {i : Int} {p : PV} (h : IsL K cl F vs ps) (e : atI ps i = some p) : ∃ v, atI vs i = some v ∧ Is K cl F v p := by
  unfold L2.atI at e ⊢
  rw [h.len]
  cases c : ixN ps.length i with
  | none => rw [c] at e; cases e
  | some j =>
    rw [c] at e
    exact h.get e
theorem o2_ix : Op2 K cl (rIxV K) ixP := fun A H x y p q Q E hA ix iy w => by
  unfold ixP at w
  split at w
  · obtain ⟨a, vs, rfl, ha, la⟩ := ix
    cases isV_int iy
    split at w
    · next c =>
      obtain ⟨v, e, i⟩ := la.atI c
      exact .inl ⟨a, vs, _, v, rfl, rfl, .inl (.inl ha), e, w v H .refl i⟩
    · exact w.elim
  · cases ix with
    | tup ha la =>
    cases isV_int iy
    split at w
    · next c =>
      obtain ⟨v, e, i⟩ := la.atI c
      exact .inr ⟨_, _, _, v, rfl, rfl, frz_sub.sqT ha, e, w v H .refl i⟩
    · exact w.elim
  · cases ix with
    | fls ha la =>
    cases isV_int iy
    split at w
    · next c =>
      obtain ⟨v, e, i⟩ := la.atI c
      exact .inl ⟨_, _, _, v, rfl, rfl, frz_sub.sqL ha, e, w v H .refl i⟩
    · exact w.elim
  · exact w.elim
/-! x in xs: flat things only -/
def flatP : PV → Option V
  | .non => some .non
  | .bl b => some (.bl b)
  | .int i => some (.int i)
  | .str x => some (.str x)
  | _ => none
def flatsP : List PV → Option (List V)
  | [] => some []
  | x :: xs => (flatP x).bind fun v => (flatsP xs).map fun vs => v :: vs
theorem flatP_is {v w : V} {p : PV} (h : Is K cl F v p) (e : flatP p = some w) : v = w ∧ flatV v = true := by
  cases h <;> cases e <;> exact ⟨rfl, rfl⟩
theorem isV_flat {v w : V} {p : PV} (h : IsV K cl F H v p) (e : flatP p = some w) : v = w ∧ flatV v = true := by
  cases p with
  | non => exact flatP_is (K := K) (cl := cl) (F := F) h e
  | bl b => exact flatP_is (K := K) (cl := cl) (F := F) h e
  | int i => exact flatP_is (K := K) (cl := cl) (F := F) h e
  | str x => exact flatP_is (K := K) (cl := cl) (F := F) h e
  | tup ps => cases e
  | lst ps => cases e
  | fls ps => cases e
  | dct ps => cases e
  | ty n => cases e
  | ins C fs => cases e
theorem flatsP_is : ∀ {vs : List V} {ps : List PV} {ws : List V}, IsL K cl F vs ps → flatsP ps = some ws → vs = ws ∧ vs.all flatV = true
  | _, _, _, .nil, e => by cases e; exact ⟨rfl, rfl⟩
  | _, _, _, .cons a r, e => by
    unfold flatsP at e
    obtain ⟨d, e1, e2⟩ := Option.bind_eq_some_iff.mp e
    obtain ⟨ds, e3, rfl⟩ := Option.map_eq_some_iff.mp e2
    obtain ⟨rfl, c1⟩ := flatP_is a e1
    obtain ⟨rfl, c2⟩ := flatsP_is r e3
    exact ⟨rfl, by rw [List.all_cons, c1, c2]; rfl⟩
def inP (neg : Bool) (p q : PV) : Res PV := asSq q >>= fun qs => match flatP p, flatsP qs with
  | some v, some vs => .val (.bl (if neg then !inV v vs else inV v vs))
  | _, _ => .stuck
theorem o2_in {neg : Bool} : Op2 K cl (rIn K neg) (inP neg) := fun A H x y p q Q E hA ix iy w => by
  unfold inP at w
  obtain ⟨a, vs, ps, rfl, hs, hl, w⟩ := wp_asSq (wp_bind.mp w) iy
  split at w
  · next v ws e1 e2 =>
    obtain ⟨rfl, c1⟩ := isV_flat ix e1
    obtain ⟨rfl, c2⟩ := flatsP_is hl e2
    exact ⟨a, vs, rfl, hs.symm, c1, c2, w _ H .refl (.bl _)⟩
  · exact w.elim
/-! built-ins -/
def lenP (p : PV) : Res PV := match p with
  | .str z => if z.length ≤ sizeLine then .val (.int z.length) else .stuck
  | .dct kvs => .val (.int kvs.length)
  | p => asSq p >>= fun ps => .val (.int ps.length)
def rLenS (K : PySem.W.Frag) : List V → Hp → VK → Prop := fun xs H Q => ∃ p ys, xs = [.ref p] ∧ (SqL K H p ys ∨ SqT K H p ys) ∧ Q (.int ys.length) H
def rLenV (K : PySem.W.Frag) : List V → Hp → VK → Prop := cOr (rLenS K) (cOr (fun xs H Q => ∃ z, xs = [.str z] ∧ z.length ≤ sizeLine ∧ Q (.int z.length) H) (fun xs H Q => ∃ a kvs, xs = [V.ref a] ∧ H a = some (.dK kvs) ∧ Q (.int kvs.length) H))
theorem call_lenV {X : Cx} : CallR X (.builtin "len") (rLenV X.K) := call_len_seq.or (call_len_str.or call_lenD)
theorem call_lenVK (K : PySem.W.Frag) {X : Cx} (e : X.K = K) : CallR X (.builtin "len") (rLenV K) := by subst e; exact call_lenV
theorem b1_len : Bi1 K cl (rLenV K) lenP := fun A H x p Q E hA ix w => by
  unfold lenP at w
  split at w
  · cases isV_str ix
    split at w
    · next c => exact .inr (.inl ⟨_, rfl, c, w _ H .refl (.int _)⟩)
    · exact w.elim
  · obtain ⟨a, vs, rfl, ha, la⟩ := ix
    exact .inr (.inr ⟨a, vs, rfl, ha, by rw [la.len]; exact w _ H .refl (.int _)⟩)
  · obtain ⟨a, vs, ps, rfl, hs, hl, w⟩ := wp_asSq (wp_bind.mp w) ix
    exact .inl ⟨a, vs, rfl, hs.symm, by rw [hl.len]; exact w _ H .refl (.int _)⟩
def listP (p : PV) : Res PV := asSq p >>= fun ps => .val (.lst ps)
def rListV (K : PySem.W.Frag) : List V → Hp → VK → Prop := fun xs H Q => ∃ p ys, xs = [.ref p] ∧ (SqL K H p ys ∨ SqT K H p ys) ∧ ∀ l, H l = none → Q (.ref l) (upd H l (.lst ys))
theorem call_listV (K : PySem.W.Frag) {X : Cx} (e : X.K = K) : CallR X (.type "list") (rListV K) := by subst e; exact call_list_of
theorem b1_list : Bi1 K cl (rListV K) listP := fun A H x p Q E hA ix w => by
  obtain ⟨a, vs, ps, rfl, hs, hl, w⟩ := wp_asSq (wp_bind.mp w) ix
  exact ⟨a, vs, rfl, hs.symm, fun l hl' => w _ _ (sub_new hl' _) (new_lst hA hl' hl)⟩
def tupleP (p : PV) : Res PV := asSq p >>= fun ps => .val (.tup ps)
def rTupleV (K : PySem.W.Frag) : List V → Hp → VK → Prop := fun xs H Q => ∃ p ys, xs = [.ref p] ∧ ((SqL K H p ys ∧ ∀ l, H l = none → Q (.ref l) (upd H l (.tup ys))) ∨ (SqT K H p ys ∧ Q (.ref p) H))
theorem call_tupleV (K : PySem.W.Frag) {X : Cx} (e : X.K = K) : CallR X (.type "tuple") (rTupleV K) := by subst e; exact call_tuple_of
theorem b1_tuple : Bi1 K cl (rTupleV K) tupleP := fun A H x p Q E hA ix w => by
  cases p with
  | tup ps =>
    cases ix with
    | tup h r => exact ⟨_, _, rfl, .inr ⟨frz_sub.sqT h, w _ H .refl (.tup h r)⟩⟩
  | lst ps =>
    obtain ⟨a, vs, rfl, h, r⟩ := ix
    exact ⟨a, vs, rfl, .inl ⟨.inl (.inl h), fun l hl => w _ _ (sub_new hl _) (new_tup hA hl r)⟩⟩
  | fls ps =>
    cases ix with
    | fls h r => exact ⟨_, _, rfl, .inl ⟨frz_sub.sqL h, fun l hl => w _ _ (sub_new hl _) (new_tup hA hl r)⟩⟩
  | _ => exact w.elim
/-! int, bool, abs, sum, all, any, isinstance -/
def intP : PV → Res PV
  | .int i => .val (.int i)
  | .bl b => .val (.int (if b then 1 else 0))
  | _ => .stuck
def rIntV : List V → Hp → VK → Prop := fun xs H Q => (∃ i, xs = [.int i] ∧ Q (.int i) H) ∨ ∃ k, xs = [.bl k] ∧ Q (.int (if k then 1 else 0)) H
theorem b1_int : Bi1 K cl rIntV intP := fun A H x p Q E hA ix w => by
  unfold intP at w
  split at w
  · cases isV_int ix; exact .inl ⟨_, rfl, w _ H .refl (.int _)⟩
  · cases isV_bl ix; exact .inr ⟨_, rfl, w _ H .refl (.int _)⟩
  · exact w.elim
def boolP : PV → Res PV
  | .int i => .val (.bl (i != 0))
  | .bl b => .val (.bl b)
  | _ => .stuck
def rBoolV : List V → Hp → VK → Prop := fun xs H Q => (∃ i, xs = [.int i] ∧ Q (.bl (i != 0)) H) ∨ ∃ k, xs = [.bl k] ∧ Q (.bl k) H
theorem b1_bool : Bi1 K cl rBoolV boolP := fun A H x p Q E hA ix w => by
  unfold boolP at w
  split at w
  · cases isV_int ix; exact .inl ⟨_, rfl, w _ H .refl (.bl _)⟩
  · cases isV_bl ix; exact .inr ⟨_, rfl, w _ H .refl (.bl _)⟩
  · exact w.elim
def absP : PV → Res PV
  | .int i => .val (.int (if i < 0 then -i else i))
  | _ => .stuck
theorem b1_abs : Bi1 K cl (fun xs H Q => ∃ i, xs = [.int i] ∧ Q (.int (if i < 0 then -i else i)) H) absP := fun A H x p Q E hA ix w => by
  unfold absP at w
  split at w
  · cases isV_int ix; exact ⟨_, rfl, w _ H .refl (.int _)⟩
  · exact w.elim
def maxP : PV → PV → Res PV := ints2 fun i j => .val (.int (if j > i then j else i))
theorem b2_max : Bi2 K cl (fun xs H Q => ∃ i j, xs = [.int i, .int j] ∧ Q (.int (if j > i then j else i)) H) maxP := o2_ints fun A H i j Q E w => ⟨i, j, rfl, w _ H .refl (.int _)⟩
def minP : PV → PV → Res PV := ints2 fun i j => .val (.int (if j < i then j else i))
theorem b2_min : Bi2 K cl (fun xs H Q => ∃ i j, xs = [.int i, .int j] ∧ Q (.int (if j < i then j else i)) H) minP := o2_ints fun A H i j Q E w => ⟨i, j, rfl, w _ H .refl (.int _)⟩
def allI : List PV → Option (List Int)
  | [] => some []
  | .int i :: r => (allI r).map fun is => i :: is
  | _ :: _ => none
theorem allI_eq : ∀ {ps : List PV} {is : List Int}, allI ps = some is → ps = is.map PV.int
  | [], _, e => by cases e; rfl
  | p :: r, is, e => by
    cases p with
    | int i =>
      obtain ⟨js, e1, rfl⟩ := Option.map_eq_some_iff.mp (show (allI r).map (fun is => i :: is) = some is from e)
      rw [allI_eq e1]
      rfl
    | _ => cases e
theorem allI_map : ∀ is : List Int, allI (is.map PV.int) = some is
  | [] => rfl
  | i :: is => by
    show (allI (is.map PV.int)).map (fun js => i :: js) = _
    rw [allI_map is]
    rfl
def allB : List PV → Option (List Bool)
  | [] => some []
  | .bl i :: r => (allB r).map fun is => i :: is
  | _ :: _ => none
theorem allB_eq : ∀ {ps : List PV} {is : List Bool}, allB ps = some is → ps = is.map PV.bl
  | [], _, e => by cases e; rfl
  | p :: r, is, e => by
    cases p with
    | bl i =>
      obtain ⟨js, e1, rfl⟩ := Option.map_eq_some_iff.mp (show (allB r).map (fun is => i :: is) = some is from e)
      rw [allB_eq e1]
      rfl
    | _ => cases e
theorem allB_map : ∀ is : List Bool, allB (is.map PV.bl) = some is
  | [] => rfl
  | i :: is => by
    show (allB (is.map PV.bl)).map (fun js => i :: js) = _
    rw [allB_map is]
    rfl
def asLi : PV → Res (List PV)
  | .lst ps => .val ps
  | .fls ps => .val ps
  | _ => .stuck
theorem wp_asLi {p : PV} {v : V} {Q : List PV → Prop} {E : Str → Prop} (h : wp (asLi p) Q E) (i : IsV K cl F H v p) (s : Sub F H := by exact frz_sub) : ∃ a vs ps, v = .ref a ∧ SqL K H a vs ∧ IsL K cl F vs ps ∧ Q ps := by
  cases p with
  | lst ps => obtain ⟨a, vs, e, h1, r⟩ := i; exact ⟨a, vs, ps, e, .inl (.inl h1), r, h⟩
  | fls ps => cases i with | fls h1 r => exact ⟨_, _, ps, rfl, s.sqL h1, r, h⟩
  | _ => exact h.elim
def sumP (p : PV) : Res PV := asLi p >>= fun ps => match allI ps with
  | some is => .val (.int is.sum)
  | none => .stuck
theorem b1_sum : Bi1 K cl (rSum K) sumP := fun A H x p Q E hA ix w => by
  obtain ⟨a, vs, ps, rfl, hs, hl, w⟩ := wp_asLi (wp_bind.mp w) ix
  split at w
  · next is e =>
    cases allI_eq e
    cases hl.ints
    exact ⟨a, is, rfl, hs, w _ H .refl (.int _)⟩
  · exact w.elim
def allP (p : PV) : Res PV := asLi p >>= fun ps => match allB ps with
  | some is => .val (.bl (is.all id))
  | none => .stuck
theorem b1_all : Bi1 K cl (rAll K) allP := fun A H x p Q E hA ix w => by
  obtain ⟨a, vs, ps, rfl, hs, hl, w⟩ := wp_asLi (wp_bind.mp w) ix
  split at w
  · next is e =>
    cases allB_eq e
    cases hl.bls
    exact ⟨a, is, rfl, hs, w _ H .refl (.bl _)⟩
  · exact w.elim
def anyP (p : PV) : Res PV := asLi p >>= fun ps => match allB ps with
  | some is => .val (.bl (is.any id))
  | none => .stuck
theorem b1_any : Bi1 K cl (rAny K) anyP := fun A H x p Q E hA ix w => by
  obtain ⟨a, vs, ps, rfl, hs, hl, w⟩ := wp_asLi (wp_bind.mp w) ix
  split at w
  · next is e =>
    cases allB_eq e
    cases hl.bls
    exact ⟨a, is, rfl, hs, w _ H .refl (.bl _)⟩
  · exact w.elim
def tyNm : PV → Option String
  | .non => some "NoneType"
  | .bl _ => some "bool"
  | .int _ => some "int"
  | .str _ => some "str"
  | .tup _ => some "tuple"
  | .lst _ => some "list"
  | .dct _ => some "dict"
  | _ => none
def isiP : PV → PV → Res PV
  | p, .ty T => match (tyNm p).bind fun n => kitB n T with
    | some b => .val (.bl b)
    | none => .stuck
  | _, _ => .stuck
theorem isV_ty {v : V} {p : PV} {n : String} (h : IsV K cl F H v p) (s : Sub F H) (e : tyNm p = some n) : TyX K H v (.type n) := by
  cases p with
  | lst ps => obtain ⟨a, vs, rfl, h, _⟩ := h; cases e; exact .base (.lst h)
  | dct ps => obtain ⟨a, vs, rfl, h, _⟩ := h; cases e; exact .base (.dK h)
  | non => cases h; cases e; exact .base .non
  | bl b => cases h; cases e; exact .base (.bl b)
  | int b => cases h; cases e; exact .base (.int b)
  | str b => cases h; cases e; exact .base (.str b)
  | tup ps =>
    cases h with
    | tup h _ =>
      cases e
      rcases s.sqT h with (h | ⟨o, h⟩) | ⟨o, its, n, h, c, _⟩
      · exact .base (.tup h)
      · exact .fTuple h
      · exact .kTuple h c
  | fls ps => cases e
  | ty m => cases e
  | ins C fs => cases e
theorem b2_isi : Bi2 K cl (rIsi K) isiP := fun A H x y p q Q E hA ix iy w => by
  unfold isiP at w
  split at w
  · next T =>
    cases iy
    split at w
    · next b e =>
      obtain ⟨n, e1, e2⟩ := Option.bind_eq_some_iff.mp e
      exact ⟨x, .ty T, .type n, .type T, b, rfl, .ty _, isV_ty ix frz_sub e1, kit_ty e2, w _ H .refl (.bl _)⟩
    · exact w.elim
  · exact w.elim
end
/-! ### statements -/
inductive Fl (S L : Type) where
  | nx (s : S) | rt (v : PV) (r : List MO) | ro (mo : MO) | bk (l : L) | ct (l : L)
/-- forgetting a slot, freezing a slot -/
inductive Wk : Ro → Ro → Prop
  | nil : Wk [] []
  | keep {s : Slot} {ρ ρ' : Ro} : Wk ρ ρ' → Wk (s :: ρ) (s :: ρ')
  | drop {s : Slot} {ρ ρ' : Ro} : Wk ρ ρ' → Wk (s :: ρ) (.un :: ρ')
  | ice {ps : List PV} {ρ ρ' : Ro} : Wk ρ ρ' → Wk (.ow (.lst ps) :: ρ) (.fz (.lst ps) :: ρ')
  | iced {ps : List (Key × PV)} {ρ ρ' : Ro} : Wk ρ ρ' → Wk (.ow (.dct ps) :: ρ) (.fz (.dct ps) :: ρ')
theorem Wk.refl : ∀ ρ : Ro, Wk ρ ρ
  | [] => .nil
  | _ :: ρ => .keep (Wk.refl ρ)
theorem adr_cons {s : Slot} {x : Option V} {ρ : Ro} {σ : St} {a : Addr} (h : a ∈ adr ρ σ) : a ∈ adr (s :: ρ) (x :: σ) := by
  cases s with
  | un => exact h
  | fz p => exact h
  | ow m =>
    cases x with
    | none => exact h
    | some v => cases v <;> first | exact h | exact List.mem_cons_of_mem _ h
  | rf k m =>
    cases x with
    | none => exact h
    | some v => cases v <;> first | exact h | exact List.mem_cons_of_mem _ h
section
variable {K : PySem.W.Frag} {cl : Str → Option Addr} {W : WX} {bs O : List Addr} {F H H' : Hp} {ρ ρ' : Ro} {σ : St}
theorem Wk.adr (w : Wk ρ ρ') : ∀ {σ : St}, (adr ρ' σ).Sublist (adr ρ σ) ∧ (owa ρ' σ).Sublist (owa ρ σ) := by
  induction w with
  | nil => intro σ; exact ⟨by cases σ <;> exact .slnil, by cases σ <;> exact .slnil⟩
  | @keep s ρ ρ' w ih =>
    intro σ
    cases σ with
    | nil => cases s <;> exact ⟨.slnil, .slnil⟩
    | cons x σ =>
      cases s with
      | un => exact ih
      | fz p => exact ih
      | ow m =>
        cases x with
        | none => exact ih
        | some v => cases v <;> first | exact ih | exact ⟨.cons_cons _ ih.1, .cons_cons _ ih.2⟩
      | rf k m =>
        cases x with
        | none => exact ih
        | some v => cases v <;> first | exact ih | exact ⟨.cons_cons _ ih.1, ih.2⟩
  | @drop s ρ ρ' w ih =>
    intro σ
    cases σ with
    | nil => cases s <;> exact ⟨.slnil, .slnil⟩
    | cons x σ =>
      cases s with
      | un => exact ih
      | fz p => exact ih
      | ow m =>
        cases x with
        | none => exact ih
        | some v => cases v <;> first | exact ih | exact ⟨.cons _ ih.1, .cons _ ih.2⟩
      | rf k m =>
        cases x with
        | none => exact ih
        | some v => cases v <;> first | exact ih | exact ⟨.cons _ ih.1, ih.2⟩
  | ice w ih =>
    intro σ
    cases σ with
    | nil => exact ⟨.slnil, .slnil⟩
    | cons x σ =>
      cases x with
      | none => exact ih
      | some v => cases v <;> first | exact ih | exact ⟨.cons _ ih.1, .cons _ ih.2⟩
  | iced w ih =>
    intro σ
    cases σ with
    | nil => exact ⟨.slnil, .slnil⟩
    | cons x σ =>
      cases x with
      | none => exact ih
      | some v => cases v <;> first | exact ih | exact ⟨.cons _ ih.1, .cons _ ih.2⟩
theorem frz_less {H : Hp} {A A' : List Addr} (h : ∀ a, a ∈ A' → a ∈ A) : Sub (frz H A) (frz H A') := fun x o e => by
  obtain ⟨n, e⟩ := frz_some.mp e
  exact frz_some.mpr ⟨fun z => n (h _ z), e⟩
theorem owa_sub : ∀ {ρ : Ro} {σ : St} {a : Addr}, a ∈ owa ρ σ → a ∈ adr ρ σ
  | [], σ, a, h => by cases σ <;> cases h
  | s :: ρ, [], a, h => by cases s <;> cases h
  | s :: ρ, x :: σ, a, h => by
    cases s with
    | un => exact owa_sub (ρ := ρ) h
    | fz p => exact owa_sub (ρ := ρ) h
    | rf k m => exact adr_cons (owa_sub (ρ := ρ) (by cases x with | none => exact h | some v => cases v <;> exact h))
    | ow m =>
      cases x with
      | none => exact owa_sub (ρ := ρ) h
      | some v =>
        cases v with
        | ref b =>
          rcases List.mem_cons.mp h with e | e
          · rw [e]; exact List.mem_cons_self
          · exact List.mem_cons_of_mem _ (owa_sub e)
        | _ => exact owa_sub (ρ := ρ) h
theorem RelS.wk (w : Wk ρ ρ') : ∀ {σ : St} {F F' : Hp}, Sub F F' → (adr ρ σ).Nodup → (∀ a, a ∈ owa ρ σ → a ∉ adr ρ' σ → ∀ o, H a = some o → F' a = some o) → RelS K cl bs F H ρ σ → RelS K cl bs F' H ρ' σ := by
  induction w with
  | nil => intro σ F F' s nd g r; cases r; exact .nil
  | @keep s ρ ρ' w ih =>
    intro σ F F' sF nd g r
    cases r with
    | @cons _ x _ σ a r =>
      refine .cons (a.mono sF fun _ _ _ h => h) ?_
      cases s with
      | un => exact ih sF nd g r
      | fz p => exact ih sF nd g r
      | ow m =>
        obtain ⟨b, rfl, _⟩ := a
        obtain ⟨n1, nd⟩ := List.nodup_cons.mp nd
        refine ih sF nd (fun a ha na => g a (List.mem_cons_of_mem _ ha) fun z => ?_) r
        rcases List.mem_cons.mp z with e | e
        · exact n1 (e ▸ owa_sub ha)
        · exact na e
      | rf k m =>
        obtain ⟨b, rfl, _⟩ := a
        obtain ⟨n1, nd⟩ := List.nodup_cons.mp nd
        refine ih sF nd (fun a ha na => g a ha fun z => ?_) r
        rcases List.mem_cons.mp z with e | e
        · exact n1 (e ▸ owa_sub ha)
        · exact na e
  | @drop s ρ ρ' w ih =>
    intro σ F F' sF nd g r
    cases r with
    | @cons _ x _ σ a r =>
      refine .cons trivial ?_
      cases s with
      | un => exact ih sF nd g r
      | fz p => exact ih sF nd g r
      | ow m =>
        obtain ⟨b, rfl, _⟩ := a
        exact ih sF (List.nodup_cons.mp nd).2 (fun a ha na => g a (List.mem_cons_of_mem _ ha) na) r
      | rf k m =>
        obtain ⟨b, rfl, _⟩ := a
        exact ih sF (List.nodup_cons.mp nd).2 (fun a ha na => g a ha na) r
  | @ice ps ρ ρ' w ih =>
    intro σ F F' sF nd g r
    cases r with
    | @cons _ x _ σ a r =>
      obtain ⟨b, rfl, vs, hb, hl⟩ := a
      obtain ⟨n1, nd⟩ := List.nodup_cons.mp nd
      refine .cons ⟨_, rfl, .lst (g b List.mem_cons_self (fun z => n1 (w.adr.1.subset z)) _ hb) (hl.mono sF)⟩ ?_
      exact ih sF nd (fun a ha na => g a (List.mem_cons_of_mem _ ha) na) r
  | @iced ps ρ ρ' w ih =>
    intro σ F F' sF nd g r
    cases r with
    | @cons _ x _ σ a r =>
      obtain ⟨b, rfl, vs, hb, hl⟩ := a
      obtain ⟨n1, nd⟩ := List.nodup_cons.mp nd
      refine .cons ⟨_, rfl, .dct (g b List.mem_cons_self (fun z => n1 (w.adr.1.subset z)) _ hb) (hl.mono sF)⟩ ?_
      exact ih sF nd (fun a ha na => g a (List.mem_cons_of_mem _ ha) na) r
theorem Rel.wk (R : Rel K cl O bs ρ σ H) (w : Wk ρ ρ') : Rel K cl O bs ρ' σ H := by
  obtain ⟨sl, nd, al, ow⟩ := R
  have s1 := (w.adr (σ := σ)).1
  refine ⟨sl.wk w (frz_less fun a ha => ?_) nd (fun a ha na o e => frz_some.mpr ⟨fun z => ?_, e⟩), nd.sublist s1, al, fun a ha => ow a ((w.adr (σ := σ)).2.subset ha)⟩
  · rcases List.mem_append.mp ha with c | c
    · exact List.mem_append_left _ c
    · exact List.mem_append_right _ (s1.subset c)
  · rcases List.mem_append.mp z with c | c
    · exact ow a ha c
    · exact na c
end
/-! ### statements: the judgement -/
def nad : Ro → Nat → Bool
  | [], _ => false
  | .un :: _, 0 => true
  | .fz _ :: _, 0 => true
  | _ :: _, 0 => false
  | _ :: ρ, i + 1 => nad ρ i
def brs : Ro → List MO
  | [] => []
  | .rf _ m :: ρ => m :: brs ρ
  | _ :: ρ => brs ρ
def rfB : Nat → Ro → Bool
  | _, [] => true
  | n, .rf k _ :: ρ => (k == n) && rfB (n + 1) ρ
  | n, _ :: ρ => rfB n ρ
def uns (n : Nat) : Ro := List.replicate n .un
theorem wk_uns : ∀ {ρ : Ro} {n : Nat}, ρ.length = n → Wk ρ (uns n)
  | [], _, rfl => .nil
  | _ :: ρ, _, rfl => .drop (wk_uns (ρ := ρ) rfl)
section
variable (K : PySem.W.Frag) (cl : Str → Option Addr) (W : WX)
def FlOk {S L : Type} (O bs : List Addr) (ρn : S → Ro) (ρl : L → Ro) (D : Ends) (A : List Addr) (H : Hp) : Fl S L → Prop
  | .nx s => ∀ σ' H', Gr A H (adr (ρn s) σ') H' → Rel K cl O bs (ρn s) σ' H' → D.nx σ' H'
  | .bk s => ∀ σ' H', Gr A H (adr (ρl s) σ') H' → Rel K cl O bs (ρl s) σ' H' → D.bk σ' H'
  | .ct s => ∀ σ' H', Gr A H (adr (ρl s) σ') H' → Rel K cl O bs (ρl s) σ' H' → D.ct σ' H'
  | .rt v r => ∀ (w : V) (H' : Hp), Gr A H [] H' → Is K cl (frz H' O) w v → (∀ (k : Nat) (b : Addr) (m : MO), bs[k]? = some b → r[k]? = some m → MoIs K cl (frz H' O) H' b m) → D.rt w H'
  | .ro mo => ∀ (p : Addr) (H' : Hp), Gr A H [p] H' → p ∉ O → MoIs K cl (frz H' (p :: O)) H' p mo → D.rt (.ref p) H'
def ExOk (O bs : List Addr) (ρx : Ro) (A : List Addr) (H : Hp) (c : Str) : Prop := ∀ C σ' H', cl c = some C → Gr A H (adr ρx σ') H' → Rel K cl O bs ρx σ' H' → W (.ref C) none σ' H'
def Runs {S L : Type} (t : TS) (ρ : Ro) (m : Res (Fl S L)) (ρn : S → Ro) (ρl : L → Ro) (ρx : Ro) : Prop := ∀ (O bs : List Addr) (σ : St) (H : Hp) (D : Ends), Rel K cl O bs ρ σ H → (∀ b, b ∈ bs → b ∈ O) →
  wp m (FlOk K cl O bs ρn ρl D (adr ρ σ) H) (ExOk K cl W O bs ρx (adr ρ σ) H) → t D σ H
end
section
variable {K : PySem.W.Frag} {cl : Str → Option Addr} {W : WX} {bs O A A1 : List Addr} {F H H' H1 : Hp} {ρ ρ' ρx : Ro} {σ : St} {S S1 L : Type} {ρn : S → Ro} {ρj : S1 → Ro} {ρl : L → Ro} {D : Ends} {t u v : TS} {te : TE} {m : Res PV}
theorem FlOk.step {f : Fl S L} (h : FlOk K cl O bs ρn ρl D A H f) (g : Gr A H A1 H1) : FlOk K cl O bs ρn ρl D A1 H1 f := by
  cases f with
  | nx s => exact fun σ' H' g' R => h σ' H' (g.trans g') R
  | bk s => exact fun σ' H' g' R => h σ' H' (g.trans g') R
  | ct s => exact fun σ' H' g' R => h σ' H' (g.trans g') R
  | rt v r => exact fun w H' g' i b => h w H' (g.trans g') i b
  | ro mo => exact fun p H' g' n i => h p H' (g.trans g') n i
theorem ExOk.step {c : Str} (h : ExOk K cl W O bs ρx A H c) (g : Gr A H A1 H1) : ExOk K cl W O bs ρx A1 H1 c := fun C σ' H' e g' R => h C σ' H' e (g.trans g') R
theorem Gr.wk (w : Wk ρ ρ') : Gr (adr ρ σ) H (adr ρ' σ) H := ⟨fun _ _ _ h => h, fun _ h => .inl (w.adr.1.subset h)⟩
theorem ExOk.xw {c : Str} (h : ExOk K cl W O bs ρx (adr ρ σ) H c) (R : Rel K cl O bs ρ σ H) (w : Wk ρ ρx) : XW cl W σ H c := fun C H' e s => h C σ H' e ((Gr.of s).trans (Gr.wk w)) ((R.same s).wk w)
theorem run_one {M : Res (Fl S L)} (h : Runs K cl W (tSeq t tNext) ρ M ρn ρl ρx) : Runs K cl W t ρ M ρn ρl ρx := h
theorem run_assoc {M : Res (Fl S L)} (h : Runs K cl W (tSeq t (tSeq u v)) ρ M ρn ρl ρx) : Runs K cl W (tSeq (tSeq t u) v) ρ M ρn ρl ρx := h
theorem run_skip {M : Res (Fl S L)} (h : Runs K cl W u ρ M ρn ρl ρx) : Runs K cl W (tSeq tNext u) ρ M ρn ρl ρx := h
theorem run_next {s : S} (w : Wk ρ (ρn s)) : Runs K cl W tNext ρ (.val (.nx s)) ρn ρl ρx := fun O bs σ H D R hb q => q σ H (Gr.wk w) (R.wk w)
theorem run_break {s : L} (w : Wk ρ (ρl s)) : Runs (S := S) K cl W (tSeq tBreak u) ρ (.val (.bk s)) ρn ρl ρx := fun O bs σ H D R hb q => q σ H (Gr.wk w) (R.wk w)
theorem run_cont {s : L} (w : Wk ρ (ρl s)) : Runs (S := S) K cl W (tSeq tCont u) ρ (.val (.ct s)) ρn ρl ρx := fun O bs σ H D R hb q => q σ H (Gr.wk w) (R.wk w)
theorem run_wk {M : Res (Fl S L)} (w : Wk ρ ρ') (h : Runs K cl W t ρ' M ρn ρl ρx) : Runs K cl W t ρ M ρn ρl ρx := fun O bs σ H D R hb q =>
  h O bs σ H D (R.wk w) hb (wp_mono q (fun _ z => z.step (Gr.wk w)) fun _ z => z.step (Gr.wk w))
/-! setting a slot -/
theorem adr_setn : ∀ {ρ : Ro} {σ : St} {i : Nat} {p : PV} {x : Option V}, nad ρ i = true → adr (ρ.set i (.fz p)) (σ.set i x) = adr ρ σ
  | [], σ, i, p, x, h => by cases h
  | s :: ρ, [], i, p, x, h => by
    cases i with
    | zero => cases s <;> first | rfl | cases h
    | succ i => cases s <;> rfl
  | s :: ρ, y :: σ, 0, p, x, h => by cases s <;> first | rfl | cases h
  | s :: ρ, y :: σ, i + 1, p, x, h => by
    have ih := adr_setn (ρ := ρ) (σ := σ) (i := i) (p := p) (x := x) (by cases s <;> exact h)
    show adr (s :: ρ.set i (.fz p)) (y :: σ.set i x) = adr (s :: ρ) (y :: σ)
    cases s with
    | un => exact ih
    | fz q => exact ih
    | ow m => cases y with
      | none => exact ih
      | some v => cases v <;> first | exact ih | exact congrArg (_ :: ·) ih
    | rf k m => cases y with
      | none => exact ih
      | some v => cases v <;> first | exact ih | exact congrArg (_ :: ·) ih
theorem owa_setn : ∀ {ρ : Ro} {σ : St} {i : Nat} {p : PV} {x : Option V}, nad ρ i = true → owa (ρ.set i (.fz p)) (σ.set i x) = owa ρ σ
  | [], σ, i, p, x, h => by cases h
  | s :: ρ, [], i, p, x, h => by
    cases i with
    | zero => cases s <;> first | rfl | cases h
    | succ i => cases s <;> rfl
  | s :: ρ, y :: σ, 0, p, x, h => by cases s <;> first | rfl | cases h
  | s :: ρ, y :: σ, i + 1, p, x, h => by
    have ih := owa_setn (ρ := ρ) (σ := σ) (i := i) (p := p) (x := x) (by cases s <;> exact h)
    show owa (s :: ρ.set i (.fz p)) (y :: σ.set i x) = owa (s :: ρ) (y :: σ)
    cases s with
    | un => exact ih
    | fz q => exact ih
    | ow m => cases y with
      | none => exact ih
      | some v => cases v <;> first | exact ih | exact congrArg (_ :: ·) ih
    | rf k m => cases y with
      | none => exact ih
      | some v => cases v <;> first | exact ih
theorem RelS.set {F : Hp} (r : RelS K cl bs F H ρ σ) {i : Nat} {s : Slot} {x : Option V} (h : SlotIs K cl bs F H s x) : RelS K cl bs F H (ρ.set i s) (σ.set i x) := by
  induction r generalizing i with
  | nil => exact .nil
  | cons a r ih =>
    cases i with
    | zero => exact .cons h r
    | succ i => exact .cons a ih
theorem Rel.setfz (R : Rel K cl O bs ρ σ H) {i : Nat} {p : PV} {v : V} (hn : nad ρ i = true) (h : Is K cl (frz H (O ++ adr ρ σ)) v p) : Rel K cl O bs (ρ.set i (.fz p)) (σ.set i (some v)) H := by
  have e := adr_setn (σ := σ) (p := p) (x := some v) hn
  refine ⟨?_, by rw [e]; exact R.nd, R.al, by rw [owa_setn hn]; exact R.ow⟩
  rw [e]
  exact R.sl.set ⟨v, rfl, h⟩
theorem adr_seto : ∀ {ρ : Ro} {σ : St} {i : Nat} {m : MO} {p : Addr}, ρ.length = σ.length → nad ρ i = true → (adr (ρ.set i (.ow m)) (σ.set i (some (.ref p)))).Perm (p :: adr ρ σ) ∧ (owa (ρ.set i (.ow m)) (σ.set i (some (.ref p)))).Perm (p :: owa ρ σ)
  | [], σ, i, m, p, _, h => by cases h
  | s :: ρ, [], i, m, p, e, h => by cases e
  | s :: ρ, y :: σ, 0, m, p, _, h => by cases s <;> first | exact ⟨.refl _, .refl _⟩ | cases h
  | s :: ρ, y :: σ, i + 1, m, p, e, h => by
    have ih := adr_seto (ρ := ρ) (σ := σ) (i := i) (m := m) (p := p) (Nat.succ.inj e) (by cases s <;> exact h)
    show (adr (s :: ρ.set i (.ow m)) (y :: σ.set i (some (.ref p)))).Perm (p :: adr (s :: ρ) (y :: σ)) ∧ (owa (s :: ρ.set i (.ow m)) (y :: σ.set i (some (.ref p)))).Perm (p :: owa (s :: ρ) (y :: σ))
    cases s with
    | un => exact ih
    | fz q => exact ih
    | ow m => cases y with
      | none => exact ih
      | some v => cases v <;> first | exact ih | exact ⟨(ih.1.cons _).trans (.swap _ _ _), (ih.2.cons _).trans (.swap _ _ _)⟩
    | rf k m => cases y with
      | none => exact ih
      | some v => cases v <;> first | exact ih | exact ⟨(ih.1.cons _).trans (.swap _ _ _), ih.2⟩
/-- a new object becomes owned -/
theorem Rel.setow (R : Rel K cl O bs ρ σ H) {i : Nat} {mo : MO} {p : Addr} (s : Sub H H') (hn : nad ρ i = true) (hp : H p = none) (h : MoIs K cl (frz H' (p :: (O ++ adr ρ σ))) H' p mo) :
    Rel K cl O bs (ρ.set i (.ow mo)) (σ.set i (some (.ref p))) H' ∧ Gr (adr ρ σ) H (adr (ρ.set i (.ow mo)) (σ.set i (some (.ref p)))) H' := by
  obtain ⟨e1, e2⟩ := adr_seto (ρ := ρ) (σ := σ) (i := i) (m := mo) (p := p) R.sl.len hn
  have np : p ∉ O ++ adr ρ σ := fun z => by
    obtain ⟨o, e⟩ := R.got z
    rw [hp] at e; cases e
  have memA : ∀ a, a ∈ adr (ρ.set i (.ow mo)) (σ.set i (some (.ref p))) → a = p ∨ a ∈ adr ρ σ := fun a ha => List.mem_cons.mp (e1.mem_iff.mp ha)
  refine ⟨⟨?_, e1.nodup_iff.mpr (List.nodup_cons.mpr ⟨fun z => np (List.mem_append_right _ z), R.nd⟩), fun a ha => let ⟨o, e⟩ := R.al a ha; ⟨o, s _ _ e⟩, fun a ha => ?_⟩, ⟨fun x o _ h => s _ _ h, fun x hx => ?_⟩⟩
  · have s1 : Sub (frz H (O ++ adr ρ σ)) (frz H' (O ++ adr (ρ.set i (.ow mo)) (σ.set i (some (.ref p))))) := fun x o e => by
      obtain ⟨n, e⟩ := frz_some.mp e
      refine frz_some.mpr ⟨fun z => ?_, s _ _ e⟩
      rcases List.mem_append.mp z with c | c
      · exact n (List.mem_append_left _ c)
      · rcases memA x c with c | c
        · rw [c, hp] at e; cases e
        · exact n (List.mem_append_right _ c)
    have s2 : Sub (frz H' (p :: (O ++ adr ρ σ))) (frz H' (O ++ adr (ρ.set i (.ow mo)) (σ.set i (some (.ref p))))) := frz_less fun a ha => by
      rcases List.mem_append.mp ha with c | c
      · exact List.mem_cons_of_mem _ (List.mem_append_left _ c)
      · rcases memA a c with c | c
        · rw [c]; exact List.mem_cons_self
        · exact List.mem_cons_of_mem _ (List.mem_append_right _ c)
    exact (R.sl.mono s1 fun a o _ e => s _ _ e).set ⟨p, rfl, h.mono s2 fun _ e => e⟩
  · rcases List.mem_cons.mp (e2.mem_iff.mp ha) with c | c
    · rw [c]; exact fun z => np (List.mem_append_left _ z)
    · exact R.ow a c
  · rcases memA x hx with c | c
    · rw [c]; exact .inr hp
    · exact .inl c
theorem run_set {i : Nat} {n : PV → Res (Fl S L)} (he : Pur K cl W te ρ m) (hn : nad ρ i = true) (w : Wk ρ ρx) (h : ∀ x, Runs K cl W u (ρ.set i (.fz x)) (n x) ρn ρl ρx) : Runs K cl W (tSeq (tAsg te (gName i)) u) ρ (m >>= n) ρn ρl ρx := fun O bs σ H D R hb q => by
  refine he O bs σ H _ R (wp_mono (wp_bind.mp q) (fun x qx v H' s ix => ?_) fun _ z => z.xw R w)
  have g : Gr (adr ρ σ) H (adr (ρ.set i (.fz x)) (σ.set i (some v))) H' := by rw [adr_setn hn]; exact Gr.of s
  exact h x O bs _ H' D ((R.same s).setfz hn ix) hb (wp_mono qx (fun _ z => z.step g) fun _ z => z.step g)
/-! new lists -/
end
section
variable (K : PySem.W.Frag) (cl : Str → Option Addr) (W : WX)
def New (t : TE) (ρ : Ro) (m : Res (List PV)) : Prop := ∀ (O bs : List Addr) (σ : St) (H : Hp) (Q : VK), Rel K cl O bs ρ σ H →
  wp m (fun ps => ∀ p vs H', Sub H H' → H p = none → H' p = some (.lst vs) → IsL K cl (frz H' (p :: (O ++ adr ρ σ))) vs ps → Q (.ref p) H') (XW cl W σ H) → t σ H Q
def NewD (t : TE) (ρ : Ro) (m : Res (List (Key × PV))) : Prop := ∀ (O bs : List Addr) (σ : St) (H : Hp) (Q : VK), Rel K cl O bs ρ σ H →
  wp m (fun ps => ∀ p vs H', Sub H H' → H p = none → H' p = some (.dK vs) → IsK K cl (frz H' (p :: (O ++ adr ρ σ))) vs ps → Q (.ref p) H') (XW cl W σ H) → t σ H Q
end
section
variable {K : PySem.W.Frag} {cl : Str → Option Addr} {W : WX} {bs O A A1 : List Addr} {F H H' H1 : Hp} {ρ ρ' ρx : Ro} {σ : St} {S S1 L : Type} {ρn : S → Ro} {ρj : S1 → Ro} {ρl : L → Ro} {D : Ends} {t u v : TS} {te ta tb : TE} {m ma mb : Res PV} {tr : TA} {ml : Res (List PV)} {md : Res (List (Key × PV))}
theorem New.pur (h : New K cl W te ρ ml) : Pur K cl W te ρ (ml >>= fun ps => .val (.lst ps)) := fun O bs σ H Q R q => by
  refine h O bs σ H Q R (wp_mono (wp_bind.mp q) (fun ps qs p vs H' s hp hv hl => qs _ H' s (.lst (frz_some.mpr ⟨fun z => ?_, hv⟩) (hl.mono (frz_less fun a ha => List.mem_cons_of_mem _ ha)))) fun _ z => z)
  obtain ⟨o, e⟩ := R.got z
  rw [hp] at e; cases e
theorem NewD.pur (h : NewD K cl W te ρ md) : Pur K cl W te ρ (md >>= fun ps => .val (.dct ps)) := fun O bs σ H Q R q => by
  refine h O bs σ H Q R (wp_mono (wp_bind.mp q) (fun ps qs p vs H' s hp hv hl => qs _ H' s (.dct (frz_some.mpr ⟨fun z => ?_, hv⟩) (hl.mono (frz_less fun a ha => List.mem_cons_of_mem _ ha)))) fun _ z => z)
  obtain ⟨o, e⟩ := R.got z
  rw [hp] at e; cases e
theorem frz_new {p : Addr} (hp : H1 p = none) {A : List Addr} (o : HO) : Sub (frz H1 A) (frz (upd H1 p o) (p :: A)) := fun x u e => by
  obtain ⟨n, e⟩ := frz_some.mp e
  have ne : x ≠ p := ne_of_none e hp
  refine frz_some.mpr ⟨fun z => ?_, by rw [upd_ne ne]; exact e⟩
  rcases List.mem_cons.mp z with c | c
  · exact ne c
  · exact n c
theorem none_back (s : Sub H H1) {p : Addr} (h : H1 p = none) : H p = none := by
  cases e : H p with
  | none => rfl
  | some o => rw [s _ _ e] at h; cases h
def mkN (ps : List PV) : Res (List PV) := sized ps.length >>= fun _ => .val ps
theorem nw_lst (hl : PurL K cl W tr ρ ml) : New K cl W (tLst tr) ρ (ml >>= mkN) := fun O bs σ H Q R q => by
  refine hl O bs σ H _ R (wp_mono (wp_bind.mp q) (fun ps qs vs H1 s1 i1 => ?_) fun _ z => z)
  obtain ⟨z, qs⟩ := wp_sized (wp_bind.mp qs)
  exact ⟨by rw [i1.len]; exact z, fun p hp => qs p vs _ (s1.trans (sub_new hp _)) (none_back s1 hp) upd_same (i1.mono (frz_new hp _))⟩
theorem nw_list (ha : Vw K cl W ta ρ ma) : New K cl W (tCB (rListV K) (tCons ta tNil)) ρ (ma >>= asSq) := fun O bs σ H Q R q => by
  refine ha O bs σ H _ R (wp_mono (wp_bind.mp q) (fun x qx v1 H1 s1 i1 => ?_) fun _ z => z)
  obtain ⟨a, vs, ps, rfl, hs, hl, w⟩ := wp_asSq qx i1
  exact ⟨a, vs, rfl, hs.symm, fun l hl' => w l vs _ (s1.trans (sub_new hl' _)) (none_back s1 hl') upd_same (hl.mono (frz_new hl' _))⟩
theorem nw_rep (ha : Vw K cl W ta ρ ma) (hb : Vw K cl W tb ρ mb) : New K cl W (tOp rMulV ta tb) ρ (ma >>= fun x => mb >>= fun y => repL x y >>= asSq) := fun O bs σ H Q R q => by
  refine ha O bs σ H _ R (wp_mono (wp_bind.mp q) (fun x qx v1 H1 s1 i1 => ?_) fun _ z => z)
  have R1 := R.same s1
  refine hb O bs σ H1 _ R1 (wp_mono (wp_bind.mp qx) (fun y qy v2 H2 s2 i2 => ?_) fun _ z => z.mono s1)
  have i1' := i1.mono (frz_same (A := O ++ adr ρ σ) s2) s2
  have w := wp_bind.mp qy
  unfold repL at w
  split at w
  · obtain ⟨a, vs, rfl, ha, la⟩ := i1'
    cases isV_int i2
    split at w
    · next c =>
      rw [← la.len] at c
      have s12 := s1.trans s2
      exact .inr ⟨a, _, vs, rfl, rfl, ha, c.1, c.2.1, c.2.2, fun p hp => w p _ _ (s12.trans (sub_new hp _)) (none_back s12 hp) upd_same ((la.reps _).mono (frz_new hp _))⟩
    · exact w.elim
  · exact w.elim
theorem nd_new : NewD K cl W tDNewK ρ (.val []) := fun O bs σ H Q R q p hp => q p [] _ (sub_new hp _) hp upd_same .nil
theorem run_setow {i : Nat} {n : List PV → Res (Fl S L)} (he : New K cl W te ρ ml) (hn : nad ρ i = true) (w : Wk ρ ρx) (h : ∀ x, Runs K cl W u (ρ.set i (.ow (.lst x))) (n x) ρn ρl ρx) : Runs K cl W (tSeq (tAsg te (gName i)) u) ρ (ml >>= n) ρn ρl ρx := fun O bs σ H D R hb q => by
  refine he O bs σ H _ R (wp_mono (wp_bind.mp q) (fun x qx p vs H' s hp hv hl => ?_) fun _ z => z.xw R w)
  obtain ⟨R', g⟩ := R.setow (mo := .lst x) s hn hp ⟨vs, hv, hl⟩
  exact h x O bs _ H' D R' hb (wp_mono qx (fun _ z => z.step g) fun _ z => z.step g)
theorem run_setowd {i : Nat} {n : List (Key × PV) → Res (Fl S L)} (he : NewD K cl W te ρ md) (hn : nad ρ i = true) (w : Wk ρ ρx) (h : ∀ x, Runs K cl W u (ρ.set i (.ow (.dct x))) (n x) ρn ρl ρx) : Runs K cl W (tSeq (tAsg te (gName i)) u) ρ (md >>= n) ρn ρl ρx := fun O bs σ H D R hb q => by
  refine he O bs σ H _ R (wp_mono (wp_bind.mp q) (fun x qx p vs H' s hp hv hl => ?_) fun _ z => z.xw R w)
  obtain ⟨R', g⟩ := R.setow (mo := .dct x) s hn hp ⟨vs, hv, hl⟩
  exact h x O bs _ H' D R' hb (wp_mono qx (fun _ z => z.step g) fun _ z => z.step g)
/-! return, if, raise -/
theorem mem_adr0 : ∀ {ρ : Ro} {σ : St} {i : Nat} {mo : MO} {a : Addr}, ρ[i]? = some (.ow mo) → σ[i]? = some (some (.ref a)) → a ∈ adr ρ σ ∧ a ∈ owa ρ σ
  | [], σ, i, mo, a, h, _ => by simp at h
  | s0 :: ρ, [], i, mo, a, h, e => by simp at e
  | s0 :: ρ, x :: σ, 0, mo, a, h, e => by
    simp at h e
    subst h; subst e
    exact ⟨List.mem_cons_self, List.mem_cons_self⟩
  | s0 :: ρ, x :: σ, i + 1, mo, a, h, e => by
    have ih := mem_adr0 (ρ := ρ) (σ := σ) (i := i) (by simpa using h) (by simpa using e)
    refine ⟨adr_cons ih.1, ?_⟩
    have q := ih.2
    cases s0 with
    | un => exact q
    | fz p => exact q
    | rf k m => cases x with
      | none => exact q
      | some v => cases v <;> exact q
    | ow m => cases x with
      | none => exact q
      | some v => cases v <;> first | exact q | exact List.mem_cons_of_mem _ q
theorem Rel.mem_adr (_ : Rel K cl O bs ρ σ H) {i : Nat} {mo : MO} {a : Addr} (h : ρ[i]? = some (.ow mo)) (e : σ[i]? = some (some (.ref a))) : a ∈ adr ρ σ := (mem_adr0 h e).1
theorem Rel.mem_owa (_ : Rel K cl O bs ρ σ H) {i : Nat} {mo : MO} {a : Addr} (h : ρ[i]? = some (.ow mo)) (e : σ[i]? = some (some (.ref a))) : a ∈ owa ρ σ := (mem_adr0 h e).2
theorem run_retNew (he : New K cl W te ρ ml) (w : Wk ρ ρx) : Runs (S := S) K cl W (tSeq (tRet te) u) ρ (ml >>= fun l => .val (.ro (.lst l))) ρn ρl ρx := fun O bs σ H D R hb q => by
  refine he O bs σ H _ R (wp_mono (wp_bind.mp q) (fun l ql p vs H' s hp hv hl => ?_) fun _ z => z.xw R w)
  refine ql p H' ⟨fun x o _ h => s _ _ h, fun x hx => ?_⟩ (fun z => ?_) ⟨vs, hv, hl.mono (frz_less fun b hb => ?_)⟩
  · have : x = p := by simpa using hx
    rw [this]; exact .inr hp
  · obtain ⟨o, e⟩ := R.al p z
    rw [hp] at e; cases e
  · rcases List.mem_cons.mp hb with c | c
    · rw [c]; exact List.mem_cons_self
    · exact List.mem_cons_of_mem _ (List.mem_append_left _ c)
theorem brs_rf : ∀ {ρ : Ro} {n : Nat}, rfB n ρ = true → ∀ {k : Nat} {mo : MO}, (brs ρ)[k]? = some mo → Slot.rf (n + k) mo ∈ ρ
  | [], n, h, k, mo, e => by simp [brs] at e
  | s :: ρ, n, h, k, mo, e => by
    cases s with
    | un => exact List.mem_cons_of_mem _ (brs_rf (ρ := ρ) h e)
    | fz p => exact List.mem_cons_of_mem _ (brs_rf (ρ := ρ) h e)
    | ow m => exact List.mem_cons_of_mem _ (brs_rf (ρ := ρ) h e)
    | rf j m =>
      have h' := Bool.and_eq_true_iff.mp (show (j == n && rfB (n + 1) ρ) = true from h)
      have hj : j = n := by simpa using h'.1
      cases k with
      | zero =>
        simp [brs] at e
        rw [hj, e]
        exact List.mem_cons_self
      | succ k =>
        have e' : (brs ρ)[k]? = some mo := by simpa [brs] using e
        have q := brs_rf (ρ := ρ) h'.2 e'
        rw [show n + (k + 1) = n + 1 + k by omega]
        exact List.mem_cons_of_mem _ q
theorem Rel.byref (R : Rel K cl O bs ρ σ H) (hr : rfB 0 ρ = true) {k : Nat} {b : Addr} {mo : MO} (hb : bs[k]? = some b) (e : (brs ρ)[k]? = some mo) : MoIs K cl (frz H O) H b mo := by
  have q := brs_rf hr e
  rw [Nat.zero_add] at q
  obtain ⟨i, hi, e2⟩ := List.getElem_of_mem q
  obtain ⟨x, h1, a, rfl, h3, h4⟩ := R.sl.get (List.getElem?_eq_some_iff.mpr ⟨hi, e2⟩)
  rw [hb] at h3
  cases h3
  exact h4.mono (frz_less fun a ha => List.mem_append_left _ ha) fun _ e => e
theorem run_ret {r : List MO} (he : Pur K cl W te ρ m) (hr : rfB 0 ρ = true) (e : brs ρ = r) (w : Wk ρ ρx) : Runs (S := S) K cl W (tSeq (tRet te) u) ρ (m >>= fun x => .val (.rt x r)) ρn ρl ρx := fun O bs σ H D R hb q => by
  subst e
  refine he O bs σ H _ R (wp_mono (wp_bind.mp q) (fun x qx v H' s ix => ?_) fun _ z => z.xw R w)
  exact qx v H' ⟨fun a o _ h => s _ _ h, fun _ z => by cases z⟩ (ix.mono (frz_less fun a ha => List.mem_append_left _ ha)) fun k b mo h1 h2 => (R.same s).byref hr h1 h2
/-- an owned thing is given away -/
theorem run_retO {i : Nat} {mo : MO} (h : ρ[i]? = some (.ow mo)) : Runs (S := S) K cl W (tSeq (tRet (tVar i)) u) ρ (.val (.ro mo)) ρn ρl ρx := fun O bs σ H D R hb q => by
  obtain ⟨x, e, a, rfl, hm⟩ := R.sl.get h
  have ma : a ∈ adr ρ σ := R.mem_adr h e
  refine ⟨_, e, q a H ⟨fun _ _ _ h => h, fun x hx => ?_⟩ (R.ow a (R.mem_owa h e)) (hm.mono (frz_less fun b hb => ?_) fun _ e => e)⟩
  · have : x = a := by simpa using hx
    rw [this]; exact .inl ma
  · rcases List.mem_cons.mp hb with c | c
    · rw [c]; exact List.mem_append_right _ ma
    · exact List.mem_append_left _ c
theorem run_retN {r : List MO} (hr : rfB 0 ρ = true) (e : brs ρ = r) : Runs (S := S) K cl W (tSeq tRetN u) ρ (.val (.rt .non r)) ρn ρl ρx := fun O bs σ H D R hb q => by
  subst e
  exact q .non H ⟨fun a o _ h => h, fun _ z => by cases z⟩ .non fun k b mo h1 h2 => R.byref hr h1 h2
theorem run_if {c : TT} {mc : Res Bool} {M1 M2 : Res (Fl S L)} (hc : Tst K cl W c ρ mc) (w : Wk ρ ρx) (h1 : Runs K cl W (tSeq t u) ρ M1 ρn ρl ρx) (h2 : Runs K cl W (tSeq v u) ρ M2 ρn ρl ρx) : Runs K cl W (tSeq (tIfS c t v) u) ρ (mc >>= fun b => if b = true then M1 else M2) ρn ρl ρx := fun O bs σ H D R hb q => by
  refine hc O bs σ H _ R (wp_mono (wp_bind.mp q) (fun b qb H' s => ?_) fun _ z => z.xw R w)
  have g := Gr.of (A := adr ρ σ) s
  cases b with
  | true => exact h1 O bs σ H' D (R.same s) hb (wp_mono qb (fun _ z => z.step g) fun _ z => z.step g)
  | false => exact h2 O bs σ H' D (R.same s) hb (wp_mono qb (fun _ z => z.step g) fun _ z => z.step g)
def seqF (M : Res (Fl S1 L)) (n : S1 → Res (Fl S L)) : Res (Fl S L) := M >>= fun f => match f with
  | .nx s => n s
  | .rt v r => .val (.rt v r)
  | .ro mo => .val (.ro mo)
  | .bk l => .val (.bk l)
  | .ct l => .val (.ct l)
/-- one statement as it stands, then the rest -/
theorem run_seq {M : Res (Fl S1 L)} {n : S1 → Res (Fl S L)} (h1 : Runs K cl W t ρ M ρj ρl ρx) (h2 : ∀ s, Runs K cl W u (ρj s) (n s) ρn ρl ρx) : Runs K cl W (tSeq t u) ρ (seqF M n) ρn ρl ρx := fun O bs σ H D R hb q => by
  refine h1 O bs σ H { D with nx := u D } R hb (wp_mono (wp_bind.mp q) (fun f qf => ?_) fun _ z => z)
  cases f with
  | nx s => exact fun σ' H' g R' => h2 s O bs σ' H' D R' hb (wp_mono qf (fun _ z => z.step g) fun _ z => z.step g)
  | rt v r => exact qf
  | ro mo => exact qf
  | bk l => exact qf
  | ct l => exact qf
/-! owned lists and dicts, changed -/
theorem adr_at : ∀ {ρ : Ro} {σ : St} {i : Nat} {s : Slot} {a : Addr}, ρ[i]? = some s → σ[i]? = some (some (.ref a)) → (∃ mo, s = .ow mo) ∨ (∃ k mo, s = .rf k mo) → a ∈ adr ρ σ
  | [], σ, i, s, a, h, _, _ => by simp at h
  | s0 :: ρ, [], i, s, a, h, e, _ => by simp at e
  | s0 :: ρ, x :: σ, 0, s, a, h, e, z => by
    simp at h e
    subst h; subst e
    rcases z with ⟨mo, rfl⟩ | ⟨k, mo, rfl⟩ <;> exact List.mem_cons_self
  | s0 :: ρ, x :: σ, i + 1, s, a, h, e, z => adr_cons (adr_at (ρ := ρ) (σ := σ) (i := i) (by simpa using h) (by simpa using e) z)
def reSl (s : Slot) (m' : MO) : Slot := match s with
  | .ow _ => .ow m'
  | .rf k _ => .rf k m'
  | s => s
theorem adr_re : ∀ {ρ : Ro} {σ : St} {i : Nat} {s : Slot} {m' : MO}, ρ[i]? = some s → adr (ρ.set i (reSl s m')) σ = adr ρ σ ∧ owa (ρ.set i (reSl s m')) σ = owa ρ σ
  | [], σ, i, s, m', h => by simp at h
  | s0 :: ρ, [], i, s, m', h => by
    cases i with
    | zero => simp at h; subst h; cases s0 <;> exact ⟨rfl, rfl⟩
    | succ i => cases s0 <;> exact ⟨rfl, rfl⟩
  | s0 :: ρ, x :: σ, 0, s, m', h => by
    simp at h; subst h
    cases s0 with
    | un => exact ⟨rfl, rfl⟩
    | fz p => exact ⟨rfl, rfl⟩
    | ow m => cases x with
      | none => exact ⟨rfl, rfl⟩
      | some v => cases v <;> exact ⟨rfl, rfl⟩
    | rf k m => cases x with
      | none => exact ⟨rfl, rfl⟩
      | some v => cases v <;> exact ⟨rfl, rfl⟩
  | s0 :: ρ, x :: σ, i + 1, s, m', h => by
    have ih := adr_re (ρ := ρ) (σ := σ) (i := i) (m' := m') (s := s) (by simpa using h)
    show adr (s0 :: ρ.set i (reSl s m')) (x :: σ) = adr (s0 :: ρ) (x :: σ) ∧ owa (s0 :: ρ.set i (reSl s m')) (x :: σ) = owa (s0 :: ρ) (x :: σ)
    cases s0 with
    | un => exact ih
    | fz p => exact ih
    | ow m => cases x with
      | none => exact ih
      | some v => cases v <;> first | exact ih | exact ⟨congrArg (_ :: ·) ih.1, congrArg (_ :: ·) ih.2⟩
    | rf k m => cases x with
      | none => exact ih
      | some v => cases v <;> first | exact ih | exact ⟨congrArg (_ :: ·) ih.1, ih.2⟩
theorem nodup_at : ∀ {ρ : Ro} {σ : St} {i j : Nat} {s s' : Slot} {a : Addr}, (adr ρ σ).Nodup → ρ[i]? = some s → ρ[j]? = some s' → σ[i]? = some (some (.ref a)) → σ[j]? = some (some (.ref a)) → (∃ mo, s = .ow mo) ∨ (∃ k mo, s = .rf k mo) → (∃ mo, s' = .ow mo) ∨ (∃ k mo, s' = .rf k mo) → i = j
  | [], σ, i, j, s, s', a, _, h, _, _, _, _, _ => by simp at h
  | s0 :: ρ, [], i, j, s, s', a, _, _, _, e, _, _, _ => by simp at e
  | s0 :: ρ, x :: σ, 0, 0, s, s', a, _, _, _, _, _, _, _ => rfl
  | s0 :: ρ, x :: σ, 0, j + 1, s, s', a, nd, h, h', e, e', z, z' => by
    simp at h e
    subst h; subst e
    have q := adr_at (ρ := ρ) (σ := σ) (i := j) (by simpa using h') (by simpa using e') z'
    rcases z with ⟨mo, rfl⟩ | ⟨k, mo, rfl⟩ <;> exact absurd q (List.nodup_cons.mp nd).1
  | s0 :: ρ, x :: σ, i + 1, 0, s, s', a, nd, h, h', e, e', z, z' => by
    simp at h' e'
    subst h'; subst e'
    have q := adr_at (ρ := ρ) (σ := σ) (i := i) (by simpa using h) (by simpa using e) z
    rcases z' with ⟨mo, rfl⟩ | ⟨k, mo, rfl⟩ <;> exact absurd q (List.nodup_cons.mp nd).1
  | s0 :: ρ, x :: σ, i + 1, j + 1, s, s', a, nd, h, h', e, e', z, z' => by
    refine congrArg (· + 1) (nodup_at (ρ := ρ) (σ := σ) ?_ (by simpa using h) (by simpa using h') (by simpa using e) (by simpa using e') z z')
    cases s0 with
    | un => exact nd
    | fz p => exact nd
    | ow m => cases x with
      | none => exact nd
      | some v => cases v <;> first | exact nd | exact (List.nodup_cons.mp nd).2
    | rf k m => cases x with
      | none => exact nd
      | some v => cases v <;> first | exact nd | exact (List.nodup_cons.mp nd).2
/-- the object at a slot gets another content -/
theorem Rel.putH (R : Rel K cl O bs ρ σ H) {i : Nat} {s : Slot} {mo m' : MO} {a : Addr} {H2 : Hp} (hk : ∀ x o, x ≠ a → H x = some o → H2 x = some o) (hg : ∃ o, H2 a = some o) (hi : ρ[i]? = some s) (hs : s = .ow mo ∨ ∃ k, s = .rf k mo) (ha : σ[i]? = some (some (.ref a)))
    (h : MoIs K cl (frz H2 (O ++ adr ρ σ)) H2 a m') : Rel K cl O bs (ρ.set i (reSl s m')) σ H2 ∧ Gr (adr ρ σ) H (adr (ρ.set i (reSl s m')) σ) H2 := by
  have hz : (∃ mo, s = .ow mo) ∨ (∃ k mo, s = .rf k mo) := hs.imp (fun e => ⟨_, e⟩) fun ⟨k, e⟩ => ⟨k, _, e⟩
  have ma := adr_at hi ha hz
  obtain ⟨e1, e2⟩ := adr_re (σ := σ) (m' := m') hi
  have keep : ∀ x u, x ∉ adr ρ σ → H x = some u → H2 x = some u := fun x u n e => hk x u (fun z => n (by rw [z]; exact ma)) e
  have sF : Sub (frz H (O ++ adr ρ σ)) (frz H2 (O ++ adr ρ σ)) := fun x u e => by
    obtain ⟨n, e⟩ := frz_some.mp e
    exact frz_some.mpr ⟨n, keep x u (fun z => n (List.mem_append_right _ z)) e⟩
  refine ⟨⟨?_, by rw [e1]; exact R.nd, fun b hb => ?_, by rw [e2]; exact R.ow⟩, by rw [e1]; exact ⟨keep, fun x hx => .inl hx⟩⟩
  · rw [e1]
    -- each slot: i has the new content, the others stand
    have go : ∀ (ρ0 : Ro) (σ0 : St) (i0 : Nat), RelS K cl bs (frz H (O ++ adr ρ σ)) H ρ0 σ0 → (∀ j, ρ0[j]? = ρ[i0 + j]? ∧ σ0[j]? = σ[i0 + j]?) → i0 ≤ i → RelS K cl bs (frz H2 (O ++ adr ρ σ)) H2 (ρ0.set (i - i0) (reSl s m')) σ0 := by
      intro ρ0
      induction ρ0 with
      | nil => intro σ0 i0 r _ _; cases r; exact .nil
      | cons s0 ρ0 ih =>
        intro σ0 i0 r hj hle
        cases r with
        | @cons _ x _ σ0 b r =>
          by_cases c : i0 = i
          · subst c
            rw [Nat.sub_self]
            have h0 := hj 0
            rw [Nat.add_zero, hi, ha] at h0
            simp at h0
            obtain ⟨rfl, rfl⟩ := h0
            refine .cons ?_ ?_
            · rcases hs with rfl | ⟨k, rfl⟩
              · exact ⟨a, rfl, h⟩
              · obtain ⟨a', e, hk, _⟩ := b
                cases e
                exact ⟨a, rfl, hk, h⟩
            · -- the rest of the slots have other addresses
              have far : ∀ (ρ1 : Ro) (σ1 : St) (j0 : Nat), RelS K cl bs (frz H (O ++ adr ρ σ)) H ρ1 σ1 → (∀ j, ρ1[j]? = ρ[j0 + j]? ∧ σ1[j]? = σ[j0 + j]?) → i0 < j0 → RelS K cl bs (frz H2 (O ++ adr ρ σ)) H2 ρ1 σ1 := by
                intro ρ1
                induction ρ1 with
                | nil => intro σ1 j0 r _ _; cases r; exact .nil
                | cons s1 ρ1 ih1 =>
                  intro σ1 j0 r hj1 hlt
                  cases r with
                  | @cons _ x1 _ σ1 b1 r1 =>
                    refine .cons (b1.mono sF fun a1 o1 z1 e1 => ?_) (ih1 σ1 (j0 + 1) r1 (fun j => ?_) (by omega))
                    · have h1 := hj1 0
                      rw [Nat.add_zero] at h1
                      simp at h1
                      refine hk _ _ (fun z => ?_) e1
                      · subst z
                        have hz1 : (∃ mo, s1 = .ow mo) ∨ (∃ k mo, s1 = .rf k mo) := by
                          obtain ⟨_, n1, n2⟩ := z1
                          cases s1 with
                          | un => exact absurd rfl n1
                          | fz p => exact absurd rfl (n2 p)
                          | ow m => exact .inl ⟨m, rfl⟩
                          | rf k m => exact .inr ⟨k, m, rfl⟩
                        have := nodup_at R.nd hi h1.1.symm ha (by rw [← h1.2, z1.1]) hz hz1
                        omega
                    · have := hj1 (j + 1)
                      rw [show j0 + 1 + j = j0 + (j + 1) by omega]
                      simpa using this
              refine far ρ0 σ0 (i0 + 1) r (fun j => ?_) (by omega)
              have := hj (j + 1)
              rw [show i0 + 1 + j = i0 + (j + 1) by omega]
              simpa using this
          · rw [show i - i0 = (i - (i0 + 1)) + 1 by omega]
            refine .cons (b.mono sF fun a1 o1 z1 e1 => ?_) (ih σ0 (i0 + 1) r (fun j => ?_) (by omega))
            · have h1 := hj 0
              rw [Nat.add_zero] at h1
              simp at h1
              refine hk _ _ (fun z => ?_) e1
              · subst z
                have hz1 : (∃ mo, s0 = .ow mo) ∨ (∃ k mo, s0 = .rf k mo) := by
                  obtain ⟨_, n1, n2⟩ := z1
                  cases s0 with
                  | un => exact absurd rfl n1
                  | fz p => exact absurd rfl (n2 p)
                  | ow m => exact .inl ⟨m, rfl⟩
                  | rf k m => exact .inr ⟨k, m, rfl⟩
                exact c (nodup_at R.nd hi h1.1.symm ha (by rw [← h1.2, z1.1]) hz hz1).symm
            · have := hj (j + 1)
              rw [show i0 + 1 + j = i0 + (j + 1) by omega]
              simpa using this
    have := go ρ σ 0 R.sl (fun j => by rw [Nat.zero_add]; exact ⟨rfl, rfl⟩) (Nat.zero_le _)
    rwa [Nat.sub_zero] at this
  · obtain ⟨u, e⟩ := R.al b hb
    by_cases c : b = a
    · rw [c]; exact hg
    · exact ⟨u, hk _ _ c e⟩
theorem Rel.put (R : Rel K cl O bs ρ σ H) {i : Nat} {s : Slot} {mo m' : MO} {a : Addr} {o : HO} (hi : ρ[i]? = some s) (hs : s = .ow mo ∨ ∃ k, s = .rf k mo) (ha : σ[i]? = some (some (.ref a)))
    (h : MoIs K cl (frz H (O ++ adr ρ σ)) (upd H a o) a m') : Rel K cl O bs (ρ.set i (reSl s m')) σ (upd H a o) ∧ Gr (adr ρ σ) H (adr (ρ.set i (reSl s m')) σ) (upd H a o) := by
  have ma := adr_at hi ha (hs.imp (fun e => ⟨_, e⟩) fun ⟨k, e⟩ => ⟨k, _, e⟩)
  refine R.putH (fun x u n e => by rw [upd_ne n]; exact e) ⟨o, upd_same⟩ hi hs ha (h.mono (fun x u e => ?_) fun _ e => e)
  obtain ⟨n, e⟩ := frz_some.mp e
  exact frz_some.mpr ⟨n, by rw [upd_ne fun z => n (List.mem_append_right _ (by rw [z]; exact ma))]; exact e⟩
end
/-! ### targets, loops, comprehensions -/
section
variable (K : PySem.W.Frag) (cl : Str → Option Addr)
def TgtE (g : TG) (vs : List Nat) (ρ : Ro) {α : Type} (d : PV → Res α) (ρe : α → Ro) : Prop := ∀ (x : PV) (O bs : List Addr) (σ : St) (H : Hp) (v : V) (Q : St → Hp → Prop) (E : Str → Prop), Rel K cl O bs ρ (wipe σ vs) H → Is K cl (frz H (O ++ adr ρ (wipe σ vs))) v x →
  wp (d x) (fun a => ∀ σ2, Rel K cl O bs (ρe a) σ2 H → adr (ρe a) σ2 = adr ρ (wipe σ vs) → (vs ≠ [] → wipe σ2 vs = wipe σ vs) → Q σ2 H) E → g v (wipe σ vs) H Q
/-- what an iterator yields -/
def ItOk (P : Hp → Prop) (F : Hp) (J : It) (ps : List PV) : Prop := ∀ (H : Hp) (B : List Addr), P H → Sub F (frz H B) → (∀ a, a ∈ B → ∃ o, H a = some o) → J.stop ps.length H ∧
  ∀ i p, ps[i]? = some p → J.go i H ∧ ∀ x H', J.yld i H x H' → Sub H H' ∧ Is K cl (frz H' B) x p
def Iter (W : WX) (wi : TI) (ρ : Ro) (mi : Res (List PV)) : Prop := ∀ (O bs : List Addr) (σ : St) (H : Hp) (R : It → Hp → Prop), Rel K cl O bs ρ σ H →
  wp mi (fun ps => ∀ J H', Sub H H' → ItOk K cl (fun _ => True) (frz H' (O ++ adr ρ σ)) J ps → R J H') (XW cl W σ H) → wi σ H R
def IterV (W : WX) (wi : TI) (ρ : Ro) (mi : Res (List PV)) : Prop := ∀ (O bs : List Addr) (σ : St) (H : Hp) (R : It → Hp → Prop), Rel K cl O bs ρ σ H →
  wp mi (fun ps => ∀ J H', Sub H H' → ItOk K cl (Sub H') (frz H' (O ++ adr ρ σ)) J ps → R J H') (XW cl W σ H) → wi σ H R
end
section
variable {K : PySem.W.Frag} {cl : Str → Option Addr} {W : WX} {bs O A A1 : List Addr} {F H H' H1 : Hp} {ρ ρ' ρx : Ro} {σ : St} {S S1 L : Type} {ρn : S → Ro} {ρj : S1 → Ro} {ρl : L → Ro} {D : Ends} {t u v tb : TS} {te ta tc : TE} {m ma mb : Res PV} {tr : TA} {ml : Res (List PV)} {md : Res (List (Key × PV))}
theorem wipe_get : ∀ {vs : List Nat} {σ : St} {k : Nat}, (wipe σ vs)[k]? = if k ∈ vs then σ[k]?.map (fun _ => none) else σ[k]?
  | [], σ, k => by simp [wipe]
  | v :: vs, σ, k => by
    show ((wipe σ vs).set v none)[k]? = _
    by_cases c : v = k
    · subst c
      rw [List.getElem?_set_self']
      rw [if_pos List.mem_cons_self, wipe_get]
      by_cases d : v ∈ vs
      · rw [if_pos d]
        cases σ[v]? <;> rfl
      · rw [if_neg d]
        cases σ[v]? <;> rfl
    · rw [List.getElem?_set_ne c, wipe_get]
      by_cases d : k ∈ vs
      · rw [if_pos d, if_pos (List.mem_cons_of_mem _ d)]
      · rw [if_neg d, if_neg (fun z => (List.mem_cons.mp z).elim (fun e => c e.symm) d)]
theorem wipe_set {vs : List Nat} {σ τ : St} {i : Nat} {x : Option V} (hi : i ∈ vs) (h : wipe τ vs = wipe σ vs) : wipe (τ.set i x) vs = wipe σ vs := by
  rw [← h]
  refine List.ext_getElem? fun k => ?_
  rw [wipe_get, wipe_get]
  by_cases c : k ∈ vs
  · rw [if_pos c, if_pos c]
    by_cases e : i = k
    · subst e
      rw [List.getElem?_set_self']
      cases τ[i]? <;> rfl
    · rw [List.getElem?_set_ne e]
  · rw [if_neg c, if_neg c, List.getElem?_set_ne fun z => c (by rw [← z]; exact hi)]
theorem wipe_wipe {vs : List Nat} {σ : St} : wipe (wipe σ vs) vs = wipe σ vs := by
  refine List.ext_getElem? fun k => ?_
  rw [wipe_get, wipe_get]
  by_cases c : k ∈ vs
  · rw [if_pos c, if_pos c]
    cases σ[k]? <;> rfl
  · rw [if_neg c, if_neg c]
theorem tg_name {i : Nat} {vs : List Nat} (hn : nad ρ i = true) (hv : vs = [] ∨ i ∈ vs) : TgtE K cl (gName i) vs ρ (fun x => .val x) (fun x => ρ.set i (.fz x)) := fun x O bs σ H v Q E R ix q => by
  refine q _ (R.setfz hn ix) (adr_setn hn) fun ne => ?_
  rcases hv with rfl | hv
  · exact absurd rfl ne
  · exact wipe_set hv wipe_wipe
def un2 : PV → Res (PV × PV)
  | .tup [a, b] => .val (a, b)
  | _ => .stuck
def un3 : PV → Res (PV × PV × PV)
  | .tup [a, b, c] => .val (a, b, c)
  | _ => .stuck
def un4 : PV → Res (PV × PV × PV × PV)
  | .tup [a, b, c, d] => .val (a, b, c, d)
  | _ => .stuck
theorem nad_set : ∀ {ρ : Ro} {i j : Nat} {p : PV}, nad ρ j = true → nad (ρ.set i (.fz p)) j = true
  | [], i, j, p, h => by cases h
  | s :: ρ, 0, 0, p, h => rfl
  | s :: ρ, 0, j + 1, p, h => by cases s <;> exact h
  | s :: ρ, i + 1, 0, p, h => by cases s <;> exact h
  | s :: ρ, i + 1, j + 1, p, h => by
    show nad (s :: ρ.set i (.fz p)) (j + 1) = true
    cases s <;> exact nad_set (ρ := ρ) h
theorem tg_2 {i j : Nat} {vs : List Nat} (hi : nad ρ i = true) (hj : nad ρ j = true) (hv : vs = [] ∨ (i ∈ vs ∧ j ∈ vs)) : TgtE K cl (gTup K 2 (gCons (gName i) (gCons (gName j) gNil))) vs ρ un2 (fun x => (ρ.set i (.fz x.1)).set j (.fz x.2)) := fun x O bs σ H v Q E R ix q => by
  unfold un2 at q
  split at q
  · cases ix with
    | tup h l =>
    cases l with
    | cons a l =>
    cases l with
    | cons b l =>
    cases l
    refine ⟨_, _, rfl, frz_sub.sqT h, rfl, _, _, rfl, _, _, rfl, rfl, ?_⟩
    have R1 := R.setfz hi a
    have e1 := adr_setn (σ := wipe σ vs) (p := ‹PV›) (x := some ‹V›) hi
    refine q _ (Rel.setfz (R.setfz hi a) (nad_set hj) (by rw [adr_setn hi]; exact b)) ?_ fun ne => ?_
    · rw [adr_setn (nad_set hj), adr_setn hi]
    · rcases hv with rfl | ⟨h1, h2⟩
      · exact absurd rfl ne
      · exact wipe_set h2 (wipe_set h1 wipe_wipe)
  · exact q.elim
theorem tg_3 {i j k : Nat} {vs : List Nat} (hi : nad ρ i = true) (hj : nad ρ j = true) (hk : nad ρ k = true) (hv : vs = [] ∨ (i ∈ vs ∧ j ∈ vs ∧ k ∈ vs)) : TgtE K cl (gTup K 3 (gCons (gName i) (gCons (gName j) (gCons (gName k) gNil)))) vs ρ un3 (fun x => ((ρ.set i (.fz x.1)).set j (.fz x.2.1)).set k (.fz x.2.2)) := fun x O bs σ H v Q E R ix q => by
  unfold un3 at q
  split at q
  · cases ix with
    | tup h l =>
    cases l with
    | cons a l =>
    cases l with
    | cons b l =>
    cases l with
    | cons c l =>
    cases l
    refine ⟨_, _, rfl, frz_sub.sqT h, rfl, _, _, rfl, _, _, rfl, _, _, rfl, rfl, ?_⟩
    refine q _ (Rel.setfz (Rel.setfz (R.setfz hi a) (nad_set hj) (by rw [adr_setn hi]; exact b)) (nad_set (nad_set hk)) (by rw [adr_setn (nad_set hj), adr_setn hi]; exact c)) ?_ fun ne => ?_
    · rw [adr_setn (nad_set (nad_set hk)), adr_setn (nad_set hj), adr_setn hi]
    · rcases hv with rfl | ⟨h1, h2, h3⟩
      · exact absurd rfl ne
      · exact wipe_set h3 (wipe_set h2 (wipe_set h1 wipe_wipe))
  · exact q.elim
theorem tg_4 {i j k l' : Nat} {vs : List Nat} (hi : nad ρ i = true) (hj : nad ρ j = true) (hk : nad ρ k = true) (hl : nad ρ l' = true) (hv : vs = [] ∨ (i ∈ vs ∧ j ∈ vs ∧ k ∈ vs ∧ l' ∈ vs)) : TgtE K cl (gTup K 4 (gCons (gName i) (gCons (gName j) (gCons (gName k) (gCons (gName l') gNil))))) vs ρ un4 (fun x => (((ρ.set i (.fz x.1)).set j (.fz x.2.1)).set k (.fz x.2.2.1)).set l' (.fz x.2.2.2)) := fun x O bs σ H v Q E R ix q => by
  unfold un4 at q
  split at q
  · cases ix with
    | tup h l =>
    cases l with
    | cons a l =>
    cases l with
    | cons b l =>
    cases l with
    | cons c l =>
    cases l with
    | cons d l =>
    cases l
    refine ⟨_, _, rfl, frz_sub.sqT h, rfl, _, _, rfl, _, _, rfl, _, _, rfl, _, _, rfl, rfl, ?_⟩
    refine q _ (Rel.setfz (Rel.setfz (Rel.setfz (R.setfz hi a) (nad_set hj) (by rw [adr_setn hi]; exact b)) (nad_set (nad_set hk)) (by rw [adr_setn (nad_set hj), adr_setn hi]; exact c)) (nad_set (nad_set (nad_set hl))) (by rw [adr_setn (nad_set (nad_set hk)), adr_setn (nad_set hj), adr_setn hi]; exact d)) ?_ fun ne => ?_
    · rw [adr_setn (nad_set (nad_set (nad_set hl))), adr_setn (nad_set (nad_set hk)), adr_setn (nad_set hj), adr_setn hi]
    · rcases hv with rfl | ⟨h1, h2, h3, h4⟩
      · exact absurd rfl ne
      · exact wipe_set h4 (wipe_set h3 (wipe_set h2 (wipe_set h1 wipe_wipe)))
  · exact q.elim
/-- x = e, a, b = e -/
theorem run_asg {g : TG} {α : Type} {d : PV → Res α} {ρe : α → Ro} {n : α → Res (Fl S L)} (he : Pur K cl W te ρ m) (hg : TgtE K cl g [] ρ d ρe) (w : Wk ρ ρx) (h : ∀ a, Runs K cl W u (ρe a) (n a) ρn ρl ρx) :
    Runs K cl W (tSeq (tAsg te g) u) ρ (m >>= fun x => d x >>= n) ρn ρl ρx := fun O bs σ H D R hb q => by
  refine he O bs σ H _ R (wp_mono (wp_bind.mp q) (fun x qx v H' s ix => ?_) fun _ z => z.xw R w)
  refine hg x O bs σ H' v _ _ (R.same s) ix (wp_mono (wp_bind.mp qx) (fun a qa σ2 R2 e _ => ?_) fun _ z => z)
  have gr : Gr (adr ρ σ) H (adr (ρe a) σ2) H' := by rw [e]; exact Gr.of s
  exact h a O bs σ2 H' D R2 hb (wp_mono qa (fun _ z => z.step gr) fun _ z => z.step gr)
/-! for -/
def forF {S L : Type} (body : PV → S → Res (Fl S S)) : List PV → S → Res (Fl S L)
  | [], s => .val (.nx s)
  | x :: xs, s => body x s >>= fun f => match f with
    | .nx s' => forF body xs s'
    | .ct s' => forF body xs s'
    | .bk s' => .val (.nx s')
    | .rt v r => .val (.rt v r)
    | .ro mo => .val (.ro mo)
theorem run_for {wi : TI} {g : TG} {mi : Res (List PV)} {α : Type} {d : PV → Res α} {ρs : S → Ro} {ρe : S → α → Ro} {s0 : S} {body : α → S → Res (Fl S S)} (hi : Iter K cl W wi ρ mi) (w0 : Wk ρ (ρs s0)) (w : Wk ρ ρx) (hg : ∀ s, TgtE K cl g [] (ρs s) d (ρe s))
    (hb : ∀ a s, Runs K cl W tb (ρe s a) (body a s) ρs ρs ρx) : Runs K cl W (tFor wi g tb) ρ (mi >>= fun ps => forF (fun x s => d x >>= fun a => body a s) ps s0) ρs ρl ρx := fun O bs σ H D R hbs q => by
  refine hi O bs σ H _ R (wp_mono (wp_bind.mp q) (fun ps qp J H1 s1 hJ => ?_) fun _ z => z.xw R w)
  have R1 := R.same s1
  have g1 : Gr (adr ρ σ) H (adr (ρs s0) σ) H1 := (Gr.of s1).trans (Gr.wk w0)
  refine ⟨fun i mm σ' H' => mm = ps.length - i ∧ i ≤ ps.length ∧ ∃ s, Rel K cl O bs (ρs s) σ' H' ∧ Gr (adr ρ σ) H (adr (ρs s) σ') H' ∧ Sub (frz H1 (O ++ adr ρ σ)) (frz H' (O ++ adr (ρs s) σ')) ∧
      wp (forF (L := L) (fun x s => d x >>= fun a => body a s) (ps.drop i) s) (FlOk K cl O bs ρs ρl D (adr ρ σ) H) (ExOk K cl W O bs ρx (adr ρ σ) H),
    ⟨_, rfl, Nat.zero_le _, s0, R1.wk w0, g1, Gr.sub (Gr.wk w0) R1.al, by rw [List.drop_zero]; exact qp⟩, ?_⟩
  rintro i mm σ' H' ⟨rfl, hle, s, R', g', sF, qw⟩
  obtain ⟨hs, hg'⟩ := hJ H' _ trivial sF (fun a ha => R'.got ha)
  by_cases c : i = ps.length
  · subst c
    rw [List.drop_length] at qw
    exact .inl ⟨hs, qw σ' H' g' R'⟩
  · have hlt : i < ps.length := by omega
    obtain ⟨hgo, hy⟩ := hg' i _ (List.getElem?_eq_getElem hlt)
    rw [List.drop_eq_getElem_cons hlt] at qw
    refine .inr ⟨hgo, fun σ2 H2 => ∃ s', Rel K cl O bs (ρs s') σ2 H2 ∧ Gr (adr ρ σ) H (adr (ρs s') σ2) H2 ∧ Sub (frz H1 (O ++ adr ρ σ)) (frz H2 (O ++ adr (ρs s') σ2)) ∧ wp (forF (L := L) (fun x s => d x >>= fun a => body a s) (ps.drop (i + 1)) s') (FlOk K cl O bs ρs ρl D (adr ρ σ) H) (ExOk K cl W O bs ρx (adr ρ σ) H),
      fun σ2 H2 ⟨s', z⟩ => ⟨_, by omega, rfl, by omega, s', z⟩, fun x H2 hyx => ?_⟩
    obtain ⟨s2, ix⟩ := hy x H2 hyx
    have R2 := R'.same s2
    have qw := wp_bind.mp (wp_bind.mp qw)
    refine hg s ps[i] O bs σ' H2 x _ _ R2 ix (wp_mono qw (fun a qa σ3 R3 e3 _ => ?_) fun _ z => z)
    have g3 : Gr (adr ρ σ) H (adr (ρe s a) σ3) H2 := by rw [e3]; exact g'.trans (Gr.of s2)
    have sF3 : Sub (frz H1 (O ++ adr ρ σ)) (frz H2 (O ++ adr (ρe s a) σ3)) := by rw [e3]; exact sF.trans (frz_same s2)
    refine hb a s O bs σ3 H2 _ R3 hbs (wp_mono qa (fun f qf => ?_) fun _ z => z.step g3)
    cases f with
    | nx s' => exact fun σ4 H4 g4 R4 => ⟨s', R4, g3.trans g4, sF3.trans (g4.sub R3.al), qf⟩
    | ct s' => exact fun σ4 H4 g4 R4 => ⟨s', R4, g3.trans g4, sF3.trans (g4.sub R3.al), qf⟩
    | bk s' => exact fun σ4 H4 g4 R4 => qf σ4 H4 (g3.trans g4) R4
    | rt v r => exact FlOk.step (f := Fl.rt v r) qf g3
    | ro mo => exact FlOk.step (f := Fl.ro mo) qf g3
/-! while -/
def whileF {S L : Type} (c : S → Res Bool) (body : S → Res (Fl S S)) : Nat → S → Res (Fl S L)
  | 0, _ => .stuck
  | n + 1, s => c s >>= fun b => if b = true then body s >>= fun f => match f with
      | .nx s' => whileF c body n s'
      | .ct s' => whileF c body n s'
      | .bk s' => .val (.nx s')
      | .rt v r => .val (.rt v r)
      | .ro mo => .val (.ro mo)
    else .val (.nx s)
theorem run_while {c : TT} {ρs : S → Ro} {s0 : S} {fuel : Nat} {mc : S → Res Bool} {body : S → Res (Fl S S)} (w0 : Wk ρ (ρs s0)) (w : ∀ s, Wk (ρs s) ρx) (hc : ∀ s, Tst K cl W c (ρs s) (mc s))
    (hb : ∀ s, Runs K cl W tb (ρs s) (body s) ρs ρs ρx) : Runs K cl W (tWhile c tb) ρ (whileF mc body fuel s0) ρs ρl ρx := fun O bs σ H D R hbs q => by
  refine ⟨fun mm σ' H' => ∃ s, Rel K cl O bs (ρs s) σ' H' ∧ Gr (adr ρ σ) H (adr (ρs s) σ') H' ∧ wp (whileF (L := L) mc body mm s) (FlOk K cl O bs ρs ρl D (adr ρ σ) H) (ExOk K cl W O bs ρx (adr ρ σ) H),
    ⟨fuel, s0, R.wk w0, Gr.wk w0, q⟩, ?_⟩
  rintro mm σ' H' ⟨s, R', g', qw⟩
  cases mm with
  | zero => exact qw.elim
  | succ mm =>
    refine hc s O bs σ' H' _ R' (wp_mono (wp_bind.mp qw) (fun b qb H2 s2 => ?_) fun _ z => (z.step g').xw R' (w s))
    have R2 := R'.same s2
    have g2 := g'.trans (Gr.of s2)
    cases b with
    | false => exact qb σ' H2 g2 R2
    | true =>
      refine ⟨fun σ2 H2 => ∃ s', Rel K cl O bs (ρs s') σ2 H2 ∧ Gr (adr ρ σ) H (adr (ρs s') σ2) H2 ∧ wp (whileF (L := L) mc body mm s') (FlOk K cl O bs ρs ρl D (adr ρ σ) H) (ExOk K cl W O bs ρx (adr ρ σ) H), fun σ2 H2 z => ⟨mm, Nat.lt_succ_self _, z⟩, ?_⟩
      refine hb s O bs σ' H2 _ R2 hbs (wp_mono (wp_bind.mp qb) (fun f qf => ?_) fun _ z => z.step g2)
      cases f with
      | nx s' => exact fun σ4 H4 g4 R4 => ⟨s', R4, g2.trans g4, qf⟩
      | ct s' => exact fun σ4 H4 g4 R4 => ⟨s', R4, g2.trans g4, qf⟩
      | bk s' => exact fun σ4 H4 g4 R4 => qf σ4 H4 (g2.trans g4) R4
      | rt v r => exact FlOk.step (f := Fl.rt v r) qf g2
      | ro mo => exact FlOk.step (f := Fl.ro mo) qf g2
/-! a list comprehension whose parts change nothing -/
def noX {α : Type} : Res α → Res α
  | .val a => .val a
  | _ => .stuck
theorem wp_noX {α : Type} {mm : Res α} {Q : α → Prop} {E E' : Str → Prop} (h : wp (noX mm) Q E) : wp mm Q E' := by
  cases mm with
  | val a => exact h
  | exc c => exact h.elim
  | stuck => exact h.elim
def lcF {α : Type} (d : PV → Res α) (c : α → Res Bool) (e : α → Res PV) : List PV → Res (List PV)
  | [] => .val []
  | x :: xs => noX (d x) >>= fun a => noX (c a) >>= fun b => if b = true then noX (e a) >>= fun y => lcF d c e xs >>= fun ys => .val (y :: ys) else lcF d c e xs
def nads (ρ : Ro) (vs : List Nat) : Bool := vs.all fun i => nad ρ i
theorem adr_setu : ∀ {ρ : Ro} {σ : St} {i : Nat} {x : Option V}, nad ρ i = true → adr ρ (σ.set i x) = adr ρ σ ∧ owa ρ (σ.set i x) = owa ρ σ
  | [], σ, i, x, h => by cases h
  | s :: ρ, [], i, x, h => ⟨rfl, rfl⟩
  | s :: ρ, y :: σ, 0, x, h => by cases s <;> first | exact ⟨rfl, rfl⟩ | cases h
  | s :: ρ, y :: σ, i + 1, x, h => by
    have ih := adr_setu (ρ := ρ) (σ := σ) (i := i) (x := x) (by cases s <;> exact h)
    show adr (s :: ρ) (y :: σ.set i x) = adr (s :: ρ) (y :: σ) ∧ owa (s :: ρ) (y :: σ.set i x) = owa (s :: ρ) (y :: σ)
    cases s with
    | un => exact ih
    | fz q => exact ih
    | ow m => cases y with
      | none => exact ih
      | some v => cases v <;> first | exact ih | exact ⟨congrArg (_ :: ·) ih.1, congrArg (_ :: ·) ih.2⟩
    | rf k m => cases y with
      | none => exact ih
      | some v => cases v <;> first | exact ih | exact ⟨congrArg (_ :: ·) ih.1, ih.2⟩
def wipeR (ρ : Ro) : List Nat → Ro
  | [] => ρ
  | v :: vs => (wipeR ρ vs).set v .un
theorem RelS.setun {F : Hp} (r : RelS K cl bs F H ρ σ) {i : Nat} {x : Option V} : RelS K cl bs F H (ρ.set i .un) (σ.set i x) := r.set trivial
theorem adr_wipe1 : ∀ {ρ : Ro} {σ : St} {i : Nat} {x : Option V}, nad ρ i = true → adr (ρ.set i .un) (σ.set i x) = adr ρ σ ∧ owa (ρ.set i .un) (σ.set i x) = owa ρ σ
  | [], σ, i, x, h => by cases h
  | s :: ρ, [], i, x, h => by
    cases i with
    | zero => cases s <;> exact ⟨rfl, rfl⟩
    | succ i => cases s <;> exact ⟨rfl, rfl⟩
  | s :: ρ, y :: σ, 0, x, h => by cases s <;> first | exact ⟨rfl, rfl⟩ | cases h
  | s :: ρ, y :: σ, i + 1, x, h => by
    have ih := adr_wipe1 (ρ := ρ) (σ := σ) (i := i) (x := x) (by cases s <;> exact h)
    show adr (s :: ρ.set i .un) (y :: σ.set i x) = adr (s :: ρ) (y :: σ) ∧ owa (s :: ρ.set i .un) (y :: σ.set i x) = owa (s :: ρ) (y :: σ)
    cases s with
    | un => exact ih
    | fz q => exact ih
    | ow m => cases y with
      | none => exact ih
      | some v => cases v <;> first | exact ih | exact ⟨congrArg (_ :: ·) ih.1, congrArg (_ :: ·) ih.2⟩
    | rf k m => cases y with
      | none => exact ih
      | some v => cases v <;> first | exact ih | exact ⟨congrArg (_ :: ·) ih.1, ih.2⟩
theorem nad_setu : ∀ {ρ : Ro} {i j : Nat}, nad ρ j = true → nad (ρ.set i .un) j = true
  | [], i, j, h => by cases h
  | s :: ρ, 0, 0, h => rfl
  | s :: ρ, 0, j + 1, h => by cases s <;> exact h
  | s :: ρ, i + 1, 0, h => by cases s <;> exact h
  | s :: ρ, i + 1, j + 1, h => by
    show nad (s :: ρ.set i .un) (j + 1) = true
    cases s <;> exact nad_setu (ρ := ρ) h
theorem nad_wipe {j : Nat} (h : nad ρ j = true) : ∀ vs : List Nat, nad (wipeR ρ vs) j = true
  | [] => h
  | _ :: vs => nad_setu (nad_wipe h vs)
theorem Rel.wipe (R : Rel K cl O bs ρ σ H) : ∀ {vs : List Nat}, nads ρ vs = true → Rel K cl O bs (wipeR ρ vs) (wipe σ vs) H ∧ adr (wipeR ρ vs) (wipe σ vs) = adr ρ σ
  | [], _ => ⟨R, rfl⟩
  | v :: vs, h => by
    have h' := Bool.and_eq_true_iff.mp (show (nad ρ v && nads ρ vs) = true from h)
    obtain ⟨R', e⟩ := R.wipe h'.2
    obtain ⟨e1, e2⟩ := adr_wipe1 (σ := L2.wipe σ vs) (x := none) (nad_wipe h'.1 vs)
    refine ⟨⟨?_, ?_, R'.al, ?_⟩, e1.trans e⟩
    · show RelS K cl bs (frz H (O ++ adr ((wipeR ρ vs).set v .un) ((L2.wipe σ vs).set v none))) H _ _
      rw [e1]
      exact R'.sl.setun
    · show (adr ((wipeR ρ vs).set v .un) ((L2.wipe σ vs).set v none)).Nodup
      rw [e1]; exact R'.nd
    · show ∀ a, a ∈ owa ((wipeR ρ vs).set v .un) ((L2.wipe σ vs).set v none) → a ∉ O
      rw [e2]; exact R'.ow
/-- O may grow by an object that is not owned -/
theorem Rel.wider (R : Rel K cl O bs ρ σ H) {a : Addr} {o : HO} (ha : H a = none) : Rel K cl (a :: O) bs ρ σ (upd H a o) := by
  have nA : ∀ b, b ∈ O ++ adr ρ σ → b ≠ a := fun b hb z => by
    obtain ⟨u, e⟩ := R.got hb
    rw [z, ha] at e; cases e
  refine ⟨R.sl.mono (fun x u e => ?_) fun b u hb e => by rw [upd_ne (nA b (List.mem_append_right _ hb))]; exact e, R.nd, fun b hb => ?_, fun b hb => ?_⟩
  · obtain ⟨n, e⟩ := frz_some.mp e
    have ne : x ≠ a := ne_of_none e ha
    refine frz_some.mpr ⟨fun z => ?_, by rw [upd_ne ne]; exact e⟩
    rcases List.mem_cons.mp (show x ∈ a :: (O ++ adr ρ σ) from z) with c | c
    · exact ne c
    · exact n c
  · rcases List.mem_cons.mp hb with c | c
    · rw [c]; exact ⟨o, upd_same⟩
    · obtain ⟨u, e⟩ := R.al b c
      exact ⟨u, by rw [upd_ne (nA b (List.mem_append_left _ c))]; exact e⟩
  · intro z
    rcases List.mem_cons.mp z with c | c
    · exact nA b (List.mem_append_right _ (owa_sub hb)) c
    · exact R.ow b hb c
/-- an object of O changes -/
theorem Rel.putO (R : Rel K cl O bs ρ σ H) {a : Addr} {o : HO} (ha : a ∈ O) (hn : a ∉ adr ρ σ) : Rel K cl O bs ρ σ (upd H a o) := by
  refine ⟨R.sl.mono (fun x u e => ?_) fun b u hb e => by rw [upd_ne fun z => hn (by rw [← z]; exact hb)]; exact e, R.nd, fun b hb => ?_, R.ow⟩
  · obtain ⟨n, e⟩ := frz_some.mp e
    exact frz_some.mpr ⟨n, by rw [upd_ne fun z => n (by rw [z]; exact List.mem_append_left _ ha)]; exact e⟩
  · by_cases c : b = a
    · rw [c]; exact ⟨o, upd_same⟩
    · obtain ⟨u, e⟩ := R.al b hb
      exact ⟨u, by rw [upd_ne c]; exact e⟩
theorem nw_lc {wi : TI} {g : TG} {tt : TT} {vs : List Nat} {mi : Res (List PV)} {α : Type} {d : PV → Res α} {ρe : α → Ro} {mc : α → Res Bool} {me : α → Res PV} (hi : IterV K cl W wi ρ mi) (hv : nads ρ vs = true) (hne : vs ≠ []) (hg : TgtE K cl g vs (wipeR ρ vs) d ρe)
    (ht : ∀ a, Tst K cl (fun _ _ _ _ => False) tt (ρe a) (mc a)) (he : ∀ a, Pur K cl (fun _ _ _ _ => False) te (ρe a) (me a)) : New K cl W (tLc wi g tt te vs) ρ (mi >>= fun ps => sized ps.length >>= fun _ => lcF d mc me ps) := fun O bs σ H Q R q => by
  refine hi O bs σ H _ R (wp_mono (wp_bind.mp q) (fun ps qp J H1 s1 hJ => ?_) fun _ z => z)
  obtain ⟨hz, qp⟩ := wp_sized (wp_bind.mp qp)
  intro Da hD
  have R1 := R.same s1
  have hD0 : H Da = none := none_back s1 hD
  obtain ⟨Rw, ew⟩ := R1.wipe hv
  have Rw0 := Rw.wider (o := .lst []) hD
  have nDA : Da ∉ O ++ adr ρ σ := fun z => by
    obtain ⟨u, e⟩ := R1.got z
    rw [hD] at e; cases e
  refine ⟨fun i mm H2 => mm = ps.length - i ∧ i ≤ ps.length ∧ Sub H1 H2 ∧ Rel K cl (Da :: O) bs (wipeR ρ vs) (wipe σ vs) H2 ∧ ∃ acc qs, H2 Da = some (.lst acc) ∧ acc.length ≤ i ∧ IsL K cl (frz H2 (Da :: (O ++ adr ρ σ))) acc qs ∧
      wp (lcF d mc me (ps.drop i)) (fun ys => ∀ p ws H', Sub H H' → H p = none → H' p = some (.lst ws) → IsL K cl (frz H' (p :: (O ++ adr ρ σ))) ws (qs ++ ys) → Q (.ref p) H') (XW cl W σ H),
    ⟨_, rfl, Nat.zero_le _, sub_new hD _, Rw0, [], [], upd_same, Nat.le_refl _, .nil, by rw [List.drop_zero]; exact qp⟩, ?_⟩
  rintro i mm H2 ⟨rfl, hle, s2, R2, acc, qs, ha, hal, hl, qw⟩
  have sF : Sub (frz H1 (O ++ adr ρ σ)) (frz H2 (Da :: (O ++ adr ρ σ))) := fun x u e => by
    obtain ⟨n, e⟩ := frz_some.mp e
    refine frz_some.mpr ⟨fun z => ?_, s2 _ _ e⟩
    rcases List.mem_cons.mp z with c | c
    · rw [c, hD] at e; cases e
    · exact n c
  have gotB : ∀ a, a ∈ Da :: (O ++ adr ρ σ) → ∃ o, H2 a = some o := fun a z => R2.got (by rw [ew]; exact z)
  obtain ⟨hs, hgo⟩ := hJ H2 _ s2 sF gotB
  by_cases c : i = ps.length
  · subst c
    rw [List.drop_length] at qw
    have := qw Da acc H2 (s1.trans s2) hD0 ha (by rw [List.append_nil]; exact hl)
    exact .inl ⟨hs, this⟩
  · have hlt : i < ps.length := by omega
    obtain ⟨hgi, hy⟩ := hgo i _ (List.getElem?_eq_getElem hlt)
    rw [List.drop_eq_getElem_cons hlt] at qw
    refine .inr ⟨hgi, fun H3 => Sub H1 H3 ∧ Rel K cl (Da :: O) bs (wipeR ρ vs) (wipe σ vs) H3 ∧ ∃ acc qs, H3 Da = some (.lst acc) ∧ acc.length ≤ i + 1 ∧ IsL K cl (frz H3 (Da :: (O ++ adr ρ σ))) acc qs ∧
      wp (lcF d mc me (ps.drop (i + 1))) (fun ys => ∀ p ws H', Sub H H' → H p = none → H' p = some (.lst ws) → IsL K cl (frz H' (p :: (O ++ adr ρ σ))) ws (qs ++ ys) → Q (.ref p) H') (XW cl W σ H),
      fun H3 z => ⟨_, by omega, rfl, by omega, z⟩, fun x H3 hyx => ?_⟩
    obtain ⟨s3, ix⟩ := hy x H3 hyx
    have R3 := R2.same s3
    have qw := wp_bind.mp qw
    refine hg ps[i] (Da :: O) bs σ H3 x _ _ R3 (by rw [ew]; exact ix) (wp_mono (wp_noX (E' := fun _ => False) qw) (fun a qa σ4 R4 e4 w4 => ?_) fun _ z => z)
    refine ⟨w4 hne, ht a (Da :: O) bs σ4 H3 _ R4 (wp_mono (wp_noX (E' := fun _ => False) (wp_bind.mp qa)) (fun b qb H5 s5 => ?_) fun _ z => z.elim)⟩
    have R5 := R3.same s5
    have ha5 := s5 _ _ (s3 _ _ ha)
    have s25 := s3.trans s5
    cases b with
    | false => exact ⟨s2.trans s25, R5, acc, qs, ha5, by omega, hl.mono (frz_same s25), qb⟩
    | true =>
      refine he a (Da :: O) bs σ4 H5 _ (R4.same s5) (wp_mono (wp_noX (E' := fun _ => False) (wp_bind.mp qb)) (fun y qy vy H6 s6 iy => ?_) fun _ z => z.elim)
      rw [e4, ew] at iy
      have ha6 := s6 _ _ ha5
      have keepD : ∀ x u, x ≠ Da → H6 x = some u → upd H6 Da (.lst (acc ++ [vy])) x = some u := fun x u n e => by rw [upd_ne n]; exact e
      have sD : Sub (frz H6 (Da :: (O ++ adr ρ σ))) (frz (upd H6 Da (.lst (acc ++ [vy]))) (Da :: (O ++ adr ρ σ))) := fun x u e => by
        obtain ⟨n, e⟩ := frz_some.mp e
        exact frz_some.mpr ⟨n, keepD x u (fun z => n (z ▸ List.mem_cons_self)) e⟩
      refine ⟨acc, ha6, by omega, fun x u e => keepD x u (ne_of_none e hD) (s6 _ _ (s25 _ _ (s2 _ _ e))), (R5.same s6).putO List.mem_cons_self (by rw [ew]; exact fun z => nDA (List.mem_append_right _ z)), acc ++ [vy], qs ++ [y], upd_same, by rw [List.length_append, List.length_singleton]; omega, ?_, ?_⟩
      · exact ((hl.mono (frz_same (s25.trans s6))).append (.one iy)).mono sD
      · refine wp_mono (wp_bind.mp qy) (fun ys qys p ws H' h1 h2 h3 h4 => ?_) fun _ z => z
        exact qys p ws H' h1 h2 h3 (by rw [List.append_assoc] at h4; exact h4)
theorem ts_yes : Tst K cl W tYes ρ (.val true) := fun O bs σ H Q R q => q H .refl
end
/-! ### enumerate(tuple), walked -/
section
open PySem.Spec PyProof.Rows
abbrev enO (p : Addr) : Obj := { cls := .type "enumerate", data := .fields #[.none, .bool false, .ref p, rawInt 0, .none, .none] }
set_option maxHeartbeats 1000000 in
theorem meets_enT {v : Value} {ob : Obj} {Hh : Heap → Prop} (B : Begins v ob Hh) :
    Meets (Builtin.«enumerate.__new__» ⟨[.type "enumerate", v], []⟩) (fun _ R st => Hh st.heap ∧ R (.ok (.ret (.ref (st.heap.push ob).objs.size))) { st with heap := (st.heap.push ob).push (enO st.heap.objs.size) }) :=
  .of_wp fun prog w A R st z => by
    obtain ⟨h0, gs, dr, tk, o5⟩ := st
    obtain ⟨z1, z2⟩ := z
    have sub := sub_enumerate
    have q1 : ∀ {A2 : Around} {E2 : Value → Shared → Prop} {Q2 : Value → Shared → Prop}, Q2 (.ref h0.objs.size) ⟨h0.push ob, gs, dr, tk, o5⟩ → wpAny (model prog w) A2 (pyIter v) Q2 E2 ⟨h0, gs, dr, tk, o5⟩ :=
      fun y => B.iter prog w _ _ ⟨h0, gs, dr, tk, o5⟩ _ z1 y
    wp_walk using q1
    refine wpAny_stack_any fun below => wpAny_pure ?_
    split
    · rename_i c _ _ _ _ _
      cases (c == Value.type "enumerate") <;> (wp_walk using q1; exact ⟨_, rfl, z2⟩)
    · wp_walk using q1
      exact ⟨_, rfl, z2⟩
section
variable {prog : Program} {w : World} {A : Around} {E : Value → Shared → Prop} {st : Shared}
theorem call_enT {v : Value} {ob : Obj} {Hh : Heap → Prop} {Q : Value → Shared → Prop} (B : Begins v ob Hh) (z : Hh st.heap)
    (q : ∀ g, IsEnum g (st.heap.objs.size + 1) st.heap.objs.size 0 .none → g.get? st.heap.objs.size = some ob → (∀ b o, st.heap.get? b = some o → g.get? b = some o) → Q (.ref (st.heap.objs.size + 1)) { st with heap := g }) :
    wpAny (model prog w) A (call (.type "enumerate") [v]) Q E st := by
  refine callType_new F.called_enumerate (by decide) (F.typeCall_enumerate_1 _) (F.newCall_enumerate_1 _) (fun ob2 => F.args_object_init_2 ob2 _) F.entry_enumerate_new (meets_enT B) ⟨z, ?_⟩
  have sz : (st.heap.push ob).objs.size = st.heap.objs.size + 1 := Heap.size_push ..
  show _ ∧ _
  rw [sz]
  have en : IsEnum ((st.heap.push ob).push (enO st.heap.objs.size)) (st.heap.objs.size + 1) st.heap.objs.size 0 .none := by
    have y := Heap.get?_push_size (st.heap.push ob) (o := enO st.heap.objs.size) rfl
    rw [sz] at y
    exact y
  exact ⟨⟨_, en, rfl⟩, q _ en (Heap.get?_push_of_some _ (Heap.get?_push_size _ B.free)) fun b o y => Heap.get?_push_of_some _ (Heap.get?_push_of_some _ y)⟩
end
/-- the tuple at a as it stands, each item in a new pair -/
def IteT (K : PySem.W.Frag) (a : Addr) : It :=
  ⟨fun i H => ∃ (ys : List V) (y : V), SqT K H a ys ∧ ys[i]? = some y, fun i H v H2 => ∃ T y, v = .ref T ∧ H T = none ∧ H2 = upd H T (.tup [.int (i : Nat), y]) ∧ ∀ ys, SqT K H a ys → ys[i]? = some y, fun i H => ∃ ys : List V, SqT K H a ys ∧ ys.length = i⟩
theorem turn_enT {P : Program} {w : World} {K : PySem.W.Frag} {elts : List Expr} {kk : Nat} {tpos : Pos} (a e it : Addr) :
    Turn P w K (.Tuple elts kk tpos) (IteT K a) [e, it] e (fun i g => (∃ old, IsEnum g e it ((i : Nat) : Int) old) ∧ g.IsTupleIter it a i ∧ e ≠ it ∧ a ≠ it ∧ a ≠ e) where
  mem := by simp
  obj := fun i g z b hb => by
    obtain ⟨⟨old, en⟩, ⟨o, o1, o2, o3⟩, _⟩ := z
    rcases (show b = e ∨ b = it by simpa using hb) with y | y
    · subst y
      exact ⟨_, en, fun v q => nomatch q⟩
    · subst y
      exact ⟨o, o1, fun v q => by rw [o3] at q; cases q⟩
  keep := fun i g g2 z k => let ⟨⟨old, en⟩, ti, n1, n2, n3⟩ := z; ⟨⟨old, k e (by simp) _ en⟩, ti.at fun o q => k it (by simp) o q, n1, n2, n3⟩
  item := by
    intro X eP ew eK hc i pins s σ H E I hf z hg
    subst eP ew eK
    obtain ⟨⟨old, en⟩, ti, n1, n2, n3⟩ := z
    obtain ⟨ys, y, hq, hy⟩ := hg
    obtain ⟨its, rv, p, _⟩ := I.tuple hq
    obtain ⟨u, hu, ru⟩ := rv.get hy
    have le : e < s.heap.objs.size := Heap.lt_size en
    have li : it < s.heap.objs.size := by
      obtain ⟨_, q, _⟩ := ti
      exact Heap.lt_size q
    have D := Draws.tuple (prog := X.prog) (w := X.w) (A := X.A.in1) (show X.A.in1.handled = none from I.ok.hd hc) it a n2 its.toArray
    refine wpAny_pyNext_enum_itemD D en ⟨ti, show s.heap.IsTuple a its.toArray from p⟩ (by rw [List.size_toArray]; exact (List.getElem?_eq_some_iff.mp hu).1) n1 (by simp [n1, n3.symm]) fun x g tk hx eo dt hT _ hk => ?_
    have ex : x = u := by
      have q1 : its[i]? = some x := by simpa using hx
      rw [hu] at q1
      exact (Option.some.inj q1).symm
    subst ex
    refine ⟨_, rfl, wpAny_letOwnedTupleGo_enum (s := { s with heap := g, toks := tk + 1 }) eo fun g2 en2 sb => ?_⟩
    have hT2 : g2.get? s.heap.objs.size = some { cls := .type "tuple", data := .seq #[.int i tk, x] } := (sb.2 _ (Nat.ne_of_gt le)).trans hT
    have new : ObjOk X.prog X.w (upd H s.heap.objs.size (.tup [.int (i : Nat), y])) g2 s.heap.objs.size (.tup [.int (i : Nat), y]) :=
      ⟨by show 2 ≤ sizeLine; decide, [.int i tk, x], .cons ⟨_, rfl⟩ (.cons ru .nil), ⟨_, hT2, rfl, _, rfl⟩⟩
    have I1 : Inv X pins σ (upd H s.heap.objs.size (.tup [.int (i : Nat), y])) { s with heap := g2, toks := tk + 1 } :=
      I.turnedNew (ch := [e, it]) (fun b ob nb q => (sb.2 b fun z => nb (by simp [z])).trans (hk b ob (fun z => nb (by simp [z])) (fun z => nb (by simp [z])) q)) hf (Nat.le_refl _) new
    refine ⟨.ref s.heap.objs.size, _, I1, rfl, ⟨_, y, rfl, I.hok.fresh (Nat.le_refl _), rfl, fun zs hz => by rw [I.tuple_inj hz hq]; exact hy⟩, ⟨⟨x, ?_⟩, dt.1.at fun o q => (sb.2 it (Ne.symm n1)).trans q, n1, n2, n3⟩, fun b hb => ?_⟩
    · rw [show ((i + 1 : Nat) : Int) = (i : Int) + 1 by omega]
      exact en2
    · have lb : b < s.heap.objs.size := by
        rcases (show b = e ∨ b = it by simpa using hb) with y | y
        · rw [y]; exact le
        · rw [y]; exact li
      rw [upd_ne (Nat.ne_of_lt lb)]
      exact (hf b hb).1
  done := by
    intro X eP ew eK hc i pins s σ H E I hf z hg
    subst eP ew eK
    obtain ⟨⟨old, en⟩, ti, n1, n2, n3⟩ := z
    obtain ⟨ys, hq, hy⟩ := hg
    obtain ⟨its, rv, p, _⟩ := I.tuple hq
    obtain ⟨f0, f1, f2, f3, f4, f5⟩ := hf it (by simp)
    have D := Draws.tuple (prog := X.prog) (w := X.w) (A := X.A.in1) (show X.A.in1.handled = none from I.ok.hd hc) it a n2 its.toArray
    have hn : its.toArray.size = i := by
      rw [List.size_toArray, ← rv.length]
      exact hy
    exact wpAny_pyNext_enum_endD D en ⟨by rw [hn]; exact ti, show s.heap.IsTuple a its.toArray from p⟩ fun g eb => ⟨rfl, I.turned (t' := s.toks) (fun b o nb q => eb b o nb q) f0 f1 f3 f4 f5⟩
  self := fun A i s Q E z h => let ⟨⟨_, en⟩, _⟩ := z; wpAny_pyIter_enum en h
def iEnT (K : PySem.W.Frag) (ta : TA) : TI := fun σ H R => ta σ H fun vs H1 => ∃ a ys, vs = [.ref a] ∧ SqT K H1 a ys ∧ R (IteT K a) H1
theorem pi_enT {X : Cx} {e : Expr} {ta : TA} {p pos tpos : Pos} {elts : List Expr} {kk : Nat} (hg : Gl X "enumerate") (hm : X.mg "enumerate" = none) (ha : PA X [e] ta) (hs : starEach [e] X.env = [(false, eval e X.env)] := by rfl) :
    PI X (.Tuple elts kk tpos) (.Call (.Name "enumerate" p) [e] [] pos) (iEnT X.K ta) := by
  refine ⟨fun pins s σ H R I h => ?_⟩
  refine Call_ (ld_blt I hg hm boot_enumerate (PyProof.Rows.callWith_type1 (thn (ha.run pos pins s σ H _ I h) fun us s1 ⟨vs, H1, I1, r1, a, ys, ex, hq, q⟩ => ?_) hs rfl))
  subst ex
  obtain ⟨u, eu, ru⟩ := vals1 r1
  subst eu
  cases ru
  obtain ⟨its, rv, p2, _⟩ := I1.tuple hq
  have lt : a < s1.heap.objs.size := by
    obtain ⟨o, o1, _⟩ := (show s1.heap.IsTuple a its.toArray from p2)
    exact Heap.lt_size o1
  refine call_enT (begins_tuple a its.toArray) (show s1.heap.IsTuple a its.toArray from p2) fun g en hi hk => wpAny_pyIter_enum en ?_
  have I2 : Inv X pins σ H1 { s1 with heap := g } := I1.kept (t' := s1.toks) hk
  refine ⟨s1.heap.objs.size + 1, [s1.heap.objs.size + 1, s1.heap.objs.size], _, _, H1, rfl, I2, turn_enT a (s1.heap.objs.size + 1) s1.heap.objs.size, ⟨⟨.none, en⟩, ⟨_, hi, rfl, rfl⟩, Nat.succ_ne_self _, Nat.ne_of_lt lt, Nat.ne_of_lt (Nat.lt_succ_of_lt lt)⟩, fun b hb => ?_, q⟩
  have le : s1.heap.objs.size ≤ b := by
    rcases (show b = s1.heap.objs.size + 1 ∨ b = s1.heap.objs.size by simpa using hb) with z | z
    · rw [z]
      exact Nat.le_succ _
    · rw [z]
      exact Nat.le_refl _
  exact I1.fpOk le (I1.hok.fresh le)
theorem walk_enT {K : PySem.W.Frag} {a : Addr} {ys : List V} : Walk (IteT K a) ys.length (fun H => SqT K H a ys) (YPair (fun i => some (.int (i : Nat))) (fun i => ys[i]?)) := by
  refine ⟨fun i _ hi q => ⟨ys, ys[i], q, by simp [hi]⟩, fun _ q => ⟨ys, q, rfl⟩, fun i H v H2 _ q z => ?_⟩
  obtain ⟨T, y, h1, h2, h3, h4⟩ := z
  exact ⟨T, .int (i : Nat), y, h1, h2, h3, rfl, h4 ys q⟩
end
/-! ### iterators -/
def iSeqV (K : PySem.W.Frag) (tl : TE) : TI := fun σ H R => iList K tl σ H R ∨ iTup K tl σ H R
theorem pi_or {X : Cx} {tg e : Expr} {w1 w2 : TI} (h1 : PI X tg e w1) (h2 : PI X tg e w2) : PI X tg e (fun σ H R => w1 σ H R ∨ w2 σ H R) := ⟨fun pins s σ H R I h => h.elim (h1.run pins s σ H R I) (h2.run pins s σ H R I)⟩
theorem pi_seqV (K : PySem.W.Frag) {X : Cx} {tg l : Expr} {tl : TE} (e : X.K = K) (hl : PE X l tl) : PI X tg l (iSeqV K tl) := by
  subst e
  exact pi_or (pi_list hl) (pi_tup hl)
section
variable {K : PySem.W.Frag} {cl : Str → Option Addr} {W : WX} {bs O A A1 B : List Addr} {F H H' H1 : Hp} {ρ ρ' ρx : Ro} {σ : St} {S S1 L : Type} {ρn : S → Ro} {ρj : S1 → Ro} {ρl : L → Ro} {D : Ends} {t u v tb : TS} {te ta tc : TE} {m ma mb : Res PV} {tr : TA} {ml : Res (List PV)} {md : Res (List (Key × PV))} {P : Hp → Prop}
theorem sqL_det {a : Addr} {xs ys : List V} (h : F a = some (.lst xs)) (q : SqL K F a ys) (s : ∀ o, K.lookup a = some o → False) : xs = ys := by
  rcases q with (q | ⟨o, q⟩) | ⟨o, _, _, q, _⟩
  · rw [h] at q; cases q; rfl
  · rw [h] at q; cases q
  · exact (s o q).elim
theorem Iter.view {wi : TI} {mi : Res (List PV)} (h : Iter K cl W wi ρ mi) : IterV K cl W wi ρ mi := fun O bs σ H R r q => h O bs σ H R r (wp_mono q (fun ps k J H' s i => k J H' s fun H2 B _ sF hB => i H2 B trivial sF hB) fun _ z => z)
theorem itOk_list {a : Addr} {vs : List V} {ps : List PV} (hP : ∀ H, P H → Sub F H → SqL K H a vs) (hl : IsL K cl F vs ps) : ItOk K cl (fun H => P H ∧ Sub F H) F (Itl K a) ps := fun H B hp sF hB => by
  have hs := hP H hp.1 hp.2
  refine ⟨⟨vs, hs, by rw [hl.len]; exact Nat.le_refl _⟩, fun i p hi => ?_⟩
  obtain ⟨v, hv, iv⟩ := hl.get hi
  refine ⟨⟨vs, v, hs, hv⟩, fun x H' hy => ?_⟩
  obtain ⟨rfl, hx⟩ := hy
  have := hx vs hs
  rw [hv] at this
  cases this
  exact ⟨.refl, iv.mono sF⟩
theorem itOk_tup {a : Addr} {vs : List V} {ps : List PV} (hP : ∀ H, P H → Sub F H → SqT K H a vs) (hl : IsL K cl F vs ps) : ItOk K cl (fun H => P H ∧ Sub F H) F (Itt K a) ps := fun H B hp sF hB => by
  have hs := hP H hp.1 hp.2
  refine ⟨⟨vs, hs, by rw [hl.len]; exact Nat.le_refl _⟩, fun i p hi => ?_⟩
  obtain ⟨v, hv, iv⟩ := hl.get hi
  refine ⟨⟨vs, v, hs, hv⟩, fun x H' hy => ?_⟩
  obtain ⟨rfl, hx⟩ := hy
  have := hx vs hs
  rw [hv] at this
  cases this
  exact ⟨.refl, iv.mono sF⟩
theorem ItOk.of {P' : Hp → Prop} {J : It} {ps : List PV} (h : ItOk K cl P F J ps) (g : ∀ H B, P' H → Sub F (frz H B) → P H) : ItOk K cl P' F J ps := fun H B hp sF hB => h H B (g H B hp sF) sF hB
theorem it_seq (he : Pur K cl W te ρ m) : Iter K cl W (iSeqV K te) ρ (m >>= asSq) := fun O bs σ H R r q => by
  have key : ∀ (v : V) (H' : Hp) (x : PV), Sub H H' → Is K cl (frz H' (O ++ adr ρ σ)) v x → wp (asSq x) (fun ps => ∀ J H', Sub H H' → ItOk K cl (fun _ => True) (frz H' (O ++ adr ρ σ)) J ps → R J H') (XW cl W σ H) →
      (∃ a vs, v = .ref a ∧ SqL K H' a vs ∧ R (Itl K a) H') ∨ (∃ a vs, v = .ref a ∧ SqT K H' a vs ∧ R (Itt K a) H') := fun v H' x s i w => by
    cases i with
    | tup h l => exact .inr ⟨_, _, rfl, frz_sub.sqT h, w _ H' s ((itOk_tup (P := fun _ => True) (fun H _ sF => sF.sqT h) l).of fun H B _ sF => ⟨trivial, sF.trans frz_sub⟩)⟩
    | lst h l => exact .inl ⟨_, _, rfl, .inl (.inl (frz_sub _ _ h)), w _ H' s ((itOk_list (P := fun _ => True) (fun H _ sF => .inl (.inl (sF _ _ h))) l).of fun H B _ sF => ⟨trivial, sF.trans frz_sub⟩)⟩
    | fls h l => exact .inl ⟨_, _, rfl, frz_sub.sqL h, w _ H' s ((itOk_list (P := fun _ => True) (fun H _ sF => sF.sqL h) l).of fun H B _ sF => ⟨trivial, sF.trans frz_sub⟩)⟩
    | _ => exact w.elim
  have w := wp_bind.mp q
  cases m with
  | stuck => exact w.elim
  | exc c => exact .inl (he O bs σ H _ r w)
  | val x =>
    cases x with
    | tup ps =>
      refine .inr (he O bs σ H _ r (wp_val.mpr fun v H' s i => ?_))
      rcases key v H' _ s i w with ⟨a, vs, rfl, hs, z⟩ | ⟨a, vs, rfl, hs, z⟩
      · cases i with
        | tup h l => exact ⟨a, rfl, ⟨_, frz_sub.sqT h⟩, w _ H' s ((itOk_tup (P := fun _ => True) (fun H _ sF => sF.sqT h) l).of fun H B _ sF => ⟨trivial, sF.trans frz_sub⟩)⟩
      · exact ⟨a, rfl, ⟨_, hs⟩, z⟩
    | lst ps =>
      refine .inl (he O bs σ H _ r (wp_val.mpr fun v H' s i => ?_))
      cases i with
      | lst h l => exact ⟨_, rfl, ⟨_, .inl (.inl (frz_sub _ _ h))⟩, w _ H' s ((itOk_list (P := fun _ => True) (fun H _ sF => .inl (.inl (sF _ _ h))) l).of fun H B _ sF => ⟨trivial, sF.trans frz_sub⟩)⟩
    | fls ps =>
      refine .inl (he O bs σ H _ r (wp_val.mpr fun v H' s i => ?_))
      cases i with
      | fls h l => exact ⟨_, rfl, ⟨_, frz_sub.sqL h⟩, w _ H' s ((itOk_list (P := fun _ => True) (fun H _ sF => sF.sqL h) l).of fun H B _ sF => ⟨trivial, sF.trans frz_sub⟩)⟩
    | _ => exact w.elim
/-- over an owned list, in a comprehension -/
theorem itv_seq (he : Vw K cl W te ρ m) : IterV K cl W (iList K te) ρ (m >>= asLi) := fun O bs σ H R r q => by
  refine he O bs σ H _ r (wp_mono (wp_bind.mp q) (fun x w v H' s i => ?_) fun _ z => z)
  cases x with
  | lst ps =>
    obtain ⟨a, vs, rfl, h, l⟩ := i
    exact ⟨a, rfl, ⟨_, .inl (.inl h)⟩, w _ H' s ((itOk_list (P := Sub H') (fun H2 s2 _ => .inl (.inl (s2 _ _ h))) l).of fun H2 B s2 sF => ⟨s2, sF.trans frz_sub⟩)⟩
  | fls ps => cases i with
    | fls h l => exact ⟨_, rfl, ⟨_, frz_sub.sqL h⟩, w _ H' s ((itOk_list (P := Sub H') (fun H2 s2 sF => sF.sqL h) l).of fun H2 B s2 sF => ⟨s2, sF.trans frz_sub⟩)⟩
  | _ => exact w.elim
def rngP (lo hi : Int) : List PV := (List.range (hi - lo).toNat).map fun i => .int (lo + (i : Nat))
theorem rng_get {lo hi : Int} {i : Nat} {p : PV} (h : (rngP lo hi)[i]? = some p) : i < (hi - lo).toNat ∧ p = .int (lo + (i : Nat)) := by
  unfold rngP at h
  rw [List.getElem?_map] at h
  obtain ⟨j, e, rfl⟩ := Option.map_eq_some_iff.mp h
  obtain ⟨h1, h2⟩ := List.getElem?_eq_some_iff.mp e
  rw [List.length_range] at h1
  rw [List.getElem_range] at h2
  subst h2
  exact ⟨h1, rfl⟩
theorem rng_len {lo hi : Int} : (rngP lo hi).length = (hi - lo).toNat := by
  unfold rngP
  rw [List.length_map, List.length_range]
theorem itOk_rng {lo : Int} {n : Nat} {ps : List PV} (hl : ps.length = n) (h : ∀ i p, ps[i]? = some p → i < n ∧ p = .int (lo + (i : Nat))) : ItOk K cl P F (Itr lo n) ps := fun H B _ _ hB => by
  refine ⟨by rw [hl]; exact Nat.le_refl _, fun i p hi => ?_⟩
  obtain ⟨h1, rfl⟩ := h i p hi
  refine ⟨h1, fun x H' hy => ?_⟩
  obtain ⟨rfl, rfl⟩ := hy
  exact ⟨.refl, .int _⟩
def rng1 : PV → Res (List PV)
  | .int j => if -(2 ^ 62) ≤ j ∧ j < 2 ^ 62 then .val (rngP 0 j) else .stuck
  | _ => .stuck
def rng2 : PV → PV → Res (List PV)
  | .int i, .int j => if -(2 ^ 62) ≤ i ∧ i < 2 ^ 62 ∧ -(2 ^ 62) ≤ j ∧ j < 2 ^ 62 then .val (rngP i j) else .stuck
  | _, _ => .stuck
theorem it_rng1 (he : Vw K cl W te ρ m) : Iter K cl W (iRng1 (tCons te tNil)) ρ (m >>= rng1) := fun O bs σ H R r q => by
  refine he O bs σ H _ r (wp_mono (wp_bind.mp q) (fun x w v H' s i => ?_) fun _ z => z)
  unfold rng1 at w
  split at w
  · next j =>
    cases isV_int i
    split at w
    · next c => exact ⟨j, rfl, c.1, c.2, w _ H' s (itOk_rng (by rw [rng_len, Int.sub_zero]) fun i p h => by have := rng_get h; rwa [Int.sub_zero] at this)⟩
    · exact w.elim
  · exact w.elim
theorem it_rng2 (ha : Vw K cl W ta ρ ma) (hb : Vw K cl W te ρ m) : Iter K cl W (iRng2 (tCons ta (tCons te tNil))) ρ (ma >>= fun x => m >>= fun y => rng2 x y) := fun O bs σ H R r q => by
  refine ha O bs σ H _ r (wp_mono (wp_bind.mp q) (fun x qx v1 H1 s1 i1 => ?_) fun _ z => z)
  refine hb O bs σ H1 _ (r.same s1) (wp_mono (wp_bind.mp qx) (fun y w v2 H2 s2 i2 => ?_) fun _ z => z.mono s1)
  unfold rng2 at w
  split at w
  · next i j =>
    cases isV_int i1
    cases isV_int i2
    split at w
    · next c => exact ⟨i, j, rfl, c, w _ H2 (s1.trans s2) (itOk_rng rng_len fun i p h => rng_get h)⟩
    · exact w.elim
  · exact w.elim
/-! zip and enumerate: lists or tuples -/
def zipP (ps qs : List PV) : List PV := List.zipWith (fun a b => .tup [a, b]) ps qs
theorem zip_get {ps qs : List PV} {i : Nat} {p : PV} (h : (zipP ps qs)[i]? = some p) : ∃ a b, ps[i]? = some a ∧ qs[i]? = some b ∧ p = .tup [a, b] := by
  unfold zipP at h
  rw [List.getElem?_zipWith] at h
  split at h
  · next a b h1 h2 => exact ⟨a, b, h1, h2, (Option.some.inj h).symm⟩
  · cases h
theorem two_new {H : Hp} {T : Addr} {x y : V} {p q : PV} (hT : H T = none) (hB : ∀ a, a ∈ B → ∃ o, H a = some o) (h1 : Is K cl (frz H B) x p) (h2 : Is K cl (frz H B) y q) : Is K cl (frz (upd H T (.tup [x, y])) B) (.ref T) (.tup [p, q]) :=
  new_tup hB hT (.cons h1 (.one h2))
theorem itOk_zip {J : It} {R1 R2 : Hp → List V → Prop} {vs ws : List V} {ps qs : List PV} (h1 : ∀ H, P H → Sub F H → R1 H vs) (h2 : ∀ H, P H → Sub F H → R2 H ws) (hl : IsL K cl F vs ps) (hr : IsL K cl F ws qs)
    (hgo : ∀ i H, (∃ (xs ys : List V) (x y : V), R1 H xs ∧ R2 H ys ∧ xs[i]? = some x ∧ ys[i]? = some y) → J.go i H)
    (hy : ∀ i H v H', J.yld i H v H' → ∃ T x y, v = .ref T ∧ H T = none ∧ H' = upd H T (.tup [x, y]) ∧ (∀ xs, R1 H xs → xs[i]? = some x) ∧ ∀ ys, R2 H ys → ys[i]? = some y)
    (hs : ∀ i H, (∃ xs ys : List V, R1 H xs ∧ R2 H ys ∧ i = min xs.length ys.length) → J.stop i H) : ItOk K cl (fun H => P H ∧ Sub F H) F J (zipP ps qs) := fun H B hp sF hB => by
  have a1 := h1 H hp.1 hp.2
  have a2 := h2 H hp.1 hp.2
  refine ⟨hs _ H ⟨vs, ws, a1, a2, ?_⟩, fun i p hi => ?_⟩
  · unfold zipP
    rw [List.length_zipWith, hl.len, hr.len]
  · obtain ⟨a, b, e1, e2, rfl⟩ := zip_get hi
    obtain ⟨v, e3, i3⟩ := hl.get e1
    obtain ⟨w, e4, i4⟩ := hr.get e2
    refine ⟨hgo i H ⟨vs, ws, v, w, a1, a2, e3, e4⟩, fun x H' hyx => ?_⟩
    obtain ⟨T, x1, y1, rfl, hT, rfl, q1, q2⟩ := hy i H x H' hyx
    have b1 := q1 vs a1
    have b2 := q2 ws a2
    rw [e3] at b1
    rw [e4] at b2
    cases b1
    cases b2
    exact ⟨sub_new hT _, two_new hT hB (i3.mono sF) (i4.mono sF)⟩
end
section
variable {K : PySem.W.Frag} {cl : Str → Option Addr} {W : WX} {bs O A A1 B : List Addr} {F H H' H1 : Hp} {ρ ρ' ρx : Ro} {σ : St} {S S1 L : Type} {ρn : S → Ro} {ρj : S1 → Ro} {ρl : L → Ro} {D : Ends} {t u v tb : TS} {te ta tc : TE} {m ma mb : Res PV} {tr : TA} {ml : Res (List PV)} {md : Res (List (Key × PV))} {P : Hp → Prop}
def zipV : PV → PV → Res (List PV)
  | .tup ps, .tup qs => .val (zipP ps qs)
  | .lst ps, .lst qs => .val (zipP ps qs)
  | _, _ => .stuck
theorem itOk_zL {a b : Addr} {vs ws : List V} {ps qs : List PV} (h1 : ∀ H, P H → Sub F H → SqL K H a vs) (h2 : ∀ H, P H → Sub F H → SqL K H b ws) (hl : IsL K cl F vs ps) (hr : IsL K cl F ws qs) : ItOk K cl (fun H => P H ∧ Sub F H) F (Itz K a b) (zipP ps qs) :=
  itOk_zip (R1 := fun H xs => SqL K H a xs) (R2 := fun H xs => SqL K H b xs) h1 h2 hl hr (fun _ _ h => h) (fun _ _ _ _ h => h) (fun i H ⟨xs, ys, h1, h2, e⟩ => ⟨xs, ys, h1, h2, by omega⟩)
theorem itOk_zT {a b : Addr} {vs ws : List V} {ps qs : List PV} (h1 : ∀ H, P H → Sub F H → SqT K H a vs) (h2 : ∀ H, P H → Sub F H → SqT K H b ws) (hl : IsL K cl F vs ps) (hr : IsL K cl F ws qs) : ItOk K cl (fun H => P H ∧ Sub F H) F (RZ.ItzT K a b) (zipP ps qs) :=
  itOk_zip (R1 := fun H xs => SqT K H a xs) (R2 := fun H xs => SqT K H b xs) h1 h2 hl hr (fun _ _ h => h) (fun _ _ _ _ h => h) (fun i H ⟨xs, ys, h1, h2, e⟩ => ⟨xs, ys, h1, h2, by omega⟩)
theorem it_zip (ha : Pur K cl W ta ρ ma) (hb : Pur K cl W te ρ m) : Iter K cl W (RZ.iZipA K (tCons ta (tCons te tNil))) ρ (ma >>= fun x => m >>= fun y => zipV x y) := fun O bs σ H R r q => by
  refine ha O bs σ H _ r (wp_mono (wp_bind.mp q) (fun x qx v1 H1 s1 i1 => ?_) fun _ z => z)
  refine hb O bs σ H1 _ (r.same s1) (wp_mono (wp_bind.mp qx) (fun y w v2 H2 s2 i2 => ?_) fun _ z => z.mono s1)
  have i1' := i1.mono (frz_same (A := O ++ adr ρ σ) s2)
  unfold zipV at w
  split at w
  · cases i1' with
    | tup h1 l1 =>
    cases i2 with
    | tup h2 l2 =>
    exact ⟨_, _, _, _, rfl, .inr ⟨frz_sub.sqT h1, frz_sub.sqT h2, w _ H2 (s1.trans s2) ((itOk_zT (P := fun _ => True) (fun H _ sF => sF.sqT h1) (fun H _ sF => sF.sqT h2) l1 l2).of fun H B _ sF => ⟨trivial, sF.trans frz_sub⟩)⟩⟩
  · cases i1' with
    | lst h1 l1 =>
    cases i2 with
    | lst h2 l2 =>
    exact ⟨_, _, _, _, rfl, .inl ⟨.inl (.inl (frz_sub _ _ h1)), .inl (.inl (frz_sub _ _ h2)), w _ H2 (s1.trans s2) ((itOk_zL (P := fun _ => True) (fun H _ sF => .inl (.inl (sF _ _ h1))) (fun H _ sF => .inl (.inl (sF _ _ h2))) l1 l2).of fun H B _ sF => ⟨trivial, sF.trans frz_sub⟩)⟩⟩
  · exact w.elim
theorem itv_zip (ha : Vw K cl W ta ρ ma) (hb : Vw K cl W te ρ m) : IterV K cl W (RZ.iZipA K (tCons ta (tCons te tNil))) ρ (ma >>= fun x => m >>= fun y => zipV x y) := fun O bs σ H R r q => by
  refine ha O bs σ H _ r (wp_mono (wp_bind.mp q) (fun x qx v1 H1 s1 i1 => ?_) fun _ z => z)
  refine hb O bs σ H1 _ (r.same s1) (wp_mono (wp_bind.mp qx) (fun y w v2 H2 s2 i2 => ?_) fun _ z => z.mono s1)
  have i1' := i1.mono (frz_same (A := O ++ adr ρ σ) s2) s2
  unfold zipV at w
  split at w
  · cases i1' with
    | tup h1 l1 =>
    cases i2 with
    | tup h2 l2 =>
    exact ⟨_, _, _, _, rfl, .inr ⟨frz_sub.sqT h1, frz_sub.sqT h2, w _ H2 (s1.trans s2) ((itOk_zT (P := fun _ => True) (fun H _ sF => sF.sqT h1) (fun H _ sF => sF.sqT h2) l1 l2).of fun H B _ sF => ⟨trivial, sF.trans frz_sub⟩)⟩⟩
  · obtain ⟨a, vs, rfl, h1, l1⟩ := i1'
    obtain ⟨b, ws, rfl, h2, l2⟩ := i2
    exact ⟨_, _, _, _, rfl, .inl ⟨.inl (.inl h1), .inl (.inl h2), w _ H2 (s1.trans s2) ((itOk_zL (P := Sub H2) (fun H s _ => .inl (.inl (s _ _ h1))) (fun H s _ => .inl (.inl (s _ _ h2))) l1 l2).of fun H B s sF => ⟨s, sF.trans frz_sub⟩)⟩⟩
  · exact w.elim
def enumP (ps : List PV) : List PV := (List.range ps.length).zipWith (fun (i : Nat) p => .tup [.int i, p]) ps
theorem enum_get {ps : List PV} {i : Nat} {p : PV} (h : (enumP ps)[i]? = some p) : ∃ a, ps[i]? = some a ∧ p = .tup [.int (i : Nat), a] := by
  unfold enumP at h
  rw [List.getElem?_zipWith] at h
  split at h
  · next a b h1 h2 =>
    obtain ⟨e1, e2⟩ := List.getElem?_eq_some_iff.mp h1
    rw [List.getElem_range] at e2
    subst e2
    exact ⟨b, h2, (Option.some.inj h).symm⟩
  · cases h
theorem itOk_enum {J : It} {R1 : Hp → List V → Prop} {vs : List V} {ps : List PV} (h1 : ∀ H, P H → Sub F H → R1 H vs) (hl : IsL K cl F vs ps) (hgo : ∀ i H, (∃ (xs : List V) (x : V), R1 H xs ∧ xs[i]? = some x) → J.go i H)
    (hy : ∀ i H v H', J.yld i H v H' → ∃ T x, v = .ref T ∧ H T = none ∧ H' = upd H T (.tup [.int (i : Nat), x]) ∧ (∀ xs, R1 H xs → xs[i]? = some x)) (hs : ∀ i H, (∃ xs : List V, R1 H xs ∧ i = xs.length) → J.stop i H) : ItOk K cl (fun H => P H ∧ Sub F H) F J (enumP ps) := fun H B hp sF hB => by
  have a1 := h1 H hp.1 hp.2
  refine ⟨hs _ H ⟨vs, a1, ?_⟩, fun i p hi => ?_⟩
  · unfold enumP
    rw [List.length_zipWith, List.length_range, hl.len, Nat.min_self]
  · obtain ⟨a, e1, rfl⟩ := enum_get hi
    obtain ⟨v, e3, i3⟩ := hl.get e1
    refine ⟨hgo i H ⟨vs, v, a1, e3⟩, fun x H' hyx => ?_⟩
    obtain ⟨T, x1, rfl, hT, rfl, q1⟩ := hy i H x H' hyx
    have b1 := q1 vs a1
    rw [e3] at b1
    cases b1
    exact ⟨sub_new hT _, two_new hT hB (.int _) (i3.mono sF)⟩
def asTu : PV → Res (List PV)
  | .tup ps => .val ps
  | _ => .stuck
theorem itv_enum (he : Vw K cl W te ρ m) : IterV K cl W (iEnum K (tCons te tNil)) ρ (m >>= asLi >>= fun ps => .val (enumP ps)) := fun O bs σ H R r q => by
  rw [wp_bind, wp_bind] at q
  refine he O bs σ H _ r (wp_mono q (fun x w v H' s i => ?_) fun _ z => z)
  cases x with
  | lst ps =>
    obtain ⟨a, vs, rfl, h, l⟩ := i
    exact ⟨a, vs, rfl, .inl (.inl h), w _ H' s ((itOk_enum (J := Ite K _) (P := Sub H') (R1 := fun H xs => SqL K H a xs) (fun H2 s2 _ => .inl (.inl (s2 _ _ h))) l (fun _ _ h => h) (fun _ _ _ _ h => h) (fun i H ⟨xs, h, e⟩ => ⟨xs, h, by omega⟩)).of fun H2 B s2 sF => ⟨s2, sF.trans frz_sub⟩)⟩
  | fls ps => cases i with
    | fls h l => exact ⟨_, _, rfl, frz_sub.sqL h, w _ H' s ((itOk_enum (J := Ite K _) (P := Sub H') (R1 := fun H xs => SqL K H _ xs) (fun H2 s2 sF => sF.sqL h) l (fun _ _ h => h) (fun _ _ _ _ h => h) (fun i H ⟨xs, h, e⟩ => ⟨xs, h, by omega⟩)).of fun H2 B s2 sF => ⟨s2, sF.trans frz_sub⟩)⟩
  | _ => exact w.elim
theorem it_enum (he : Pur K cl W te ρ m) : Iter K cl W (iEnum K (tCons te tNil)) ρ (m >>= asLi >>= fun ps => .val (enumP ps)) := fun O bs σ H R r q => by
  rw [wp_bind, wp_bind] at q
  refine he O bs σ H _ r (wp_mono q (fun x w v H' s i => ?_) fun _ z => z)
  cases i with
  | lst h l => exact ⟨_, _, rfl, .inl (.inl (frz_sub _ _ h)), w _ H' s ((itOk_enum (J := Ite K _) (P := fun _ => True) (R1 := fun H xs => SqL K H _ xs) (fun H2 _ sF => .inl (.inl (sF _ _ h))) l (fun _ _ h => h) (fun _ _ _ _ h => h) (fun i H ⟨xs, h, e⟩ => ⟨xs, h, by omega⟩)).of fun H2 B _ sF => ⟨trivial, sF.trans frz_sub⟩)⟩
  | fls h l => exact ⟨_, _, rfl, frz_sub.sqL h, w _ H' s ((itOk_enum (J := Ite K _) (P := fun _ => True) (R1 := fun H xs => SqL K H _ xs) (fun H2 _ sF => sF.sqL h) l (fun _ _ h => h) (fun _ _ _ _ h => h) (fun i H ⟨xs, h, e⟩ => ⟨xs, h, by omega⟩)).of fun H2 B _ sF => ⟨trivial, sF.trans frz_sub⟩)⟩
  | _ => exact w.elim
theorem it_enT (he : Pur K cl W te ρ m) : Iter K cl W (iEnT K (tCons te tNil)) ρ (m >>= asTu >>= fun ps => .val (enumP ps)) := fun O bs σ H R r q => by
  rw [wp_bind, wp_bind] at q
  refine he O bs σ H _ r (wp_mono q (fun x w v H' s i => ?_) fun _ z => z)
  cases i with
  | tup h l => exact ⟨_, _, rfl, frz_sub.sqT h, w _ H' s ((itOk_enum (J := IteT K _) (P := fun _ => True) (R1 := fun H xs => SqT K H _ xs) (fun H2 _ sF => sF.sqT h) l (fun _ _ h => h) (fun _ _ _ _ h => h) (fun i H ⟨xs, h, e⟩ => ⟨xs, h, e.symm⟩)).of fun H2 B _ sF => ⟨trivial, sF.trans frz_sub⟩)⟩
  | _ => exact w.elim
/-! lists and dicts, changed by statements -/
theorem run_append {i : Nat} {s : Slot} {ps : List PV} {n : PV → Res (Fl S L)} (hi : ρ[i]? = some s) (hs : s = .ow (.lst ps) ∨ ∃ k, s = .rf k (.lst ps)) (he : Pur K cl W te ρ m) (w : Wk ρ ρx) (h : ∀ x, Runs K cl W u (ρ.set i (reSl s (.lst (ps ++ [x])))) (n x) ρn ρl ρx) :
    Runs K cl W (tSeq (tDrop (tBM K "list" rAppend (tVar i) (tCons te tNil))) u) ρ (m >>= fun x => sized (ps.length + 1) >>= fun _ => n x) ρn ρl ρx := fun O bs σ H D R hb q => by
  have got : ∃ a vs, σ[i]? = some (some (.ref a)) ∧ H a = some (.lst vs) ∧ IsL K cl (frz H (O ++ adr ρ σ)) vs ps := by
    obtain ⟨x, e, q⟩ := R.sl.get hi
    rcases hs with rfl | ⟨k, rfl⟩
    · obtain ⟨a, rfl, vs, h1, h2⟩ := q; exact ⟨a, vs, e, h1, h2⟩
    · obtain ⟨a, rfl, _, vs, h1, h2⟩ := q; exact ⟨a, vs, e, h1, h2⟩
  obtain ⟨a, vs, ha, hv, hl⟩ := got
  refine ⟨_, ha, .inl ⟨rfl, _, .inl (.inl hv)⟩, he O bs σ H _ R (wp_mono (wp_bind.mp q) (fun x qx v H' s' ix => ?_) fun _ z => z.xw R w)⟩
  obtain ⟨hz, qx⟩ := wp_sized (wp_bind.mp qx)
  have R' := R.same s'
  have hl' := hl.mono (frz_same (A := O ++ adr ρ σ) s')
  obtain ⟨R2, g2⟩ := R'.put (m' := .lst (ps ++ [x])) (o := .lst (vs ++ [v])) hi (by rcases hs with e | ⟨k, e⟩; exact .inl e; exact .inr ⟨k, e⟩) ha ⟨_, upd_same, hl'.append (.one ix)⟩
  have g := (Gr.of (A := adr ρ σ) s').trans g2
  refine ⟨a, vs, v, rfl, rfl, s' _ _ hv, by rw [hl.len]; omega, ?_⟩
  exact h x O bs σ _ D R2 hb (wp_mono qx (fun _ z => z.step g) fun _ z => z.step g)
def setL (ps : List PV) (k x : PV) : Res (List PV) := match k with
  | .int k => match ixN ps.length k with
    | some j => .val (ps.set j x)
    | none => .stuck
  | _ => .stuck
theorem run_setitem {i : Nat} {s : Slot} {ps : List PV} {n : List PV → Res (Fl S L)} (hi : ρ[i]? = some s) (hs : s = .ow (.lst ps) ∨ ∃ k, s = .rf k (.lst ps)) (he : Pur K cl W te ρ m) (hk : Vw K cl W ta ρ ma) (w : Wk ρ ρx) (h : ∀ qs, Runs K cl W u (ρ.set i (reSl s (.lst qs))) (n qs) ρn ρl ρx) :
    Runs K cl W (tSeq (tAsg te (gSub (tVar i) ta rSetL)) u) ρ (m >>= fun x => ma >>= fun k => setL ps k x >>= n) ρn ρl ρx := fun O bs σ H D R hb q => by
  have got : ∃ a vs, σ[i]? = some (some (.ref a)) ∧ H a = some (.lst vs) ∧ IsL K cl (frz H (O ++ adr ρ σ)) vs ps := by
    obtain ⟨x, e, q⟩ := R.sl.get hi
    rcases hs with rfl | ⟨k, rfl⟩
    · obtain ⟨a, rfl, vs, h1, h2⟩ := q; exact ⟨a, vs, e, h1, h2⟩
    · obtain ⟨a, rfl, _, vs, h1, h2⟩ := q; exact ⟨a, vs, e, h1, h2⟩
  obtain ⟨a, vs, ha, hv, hl⟩ := got
  refine he O bs σ H _ R (wp_mono (wp_bind.mp q) (fun x qx v H1 s1 ix => ?_) fun _ z => z.xw R w)
  have R1 := R.same s1
  refine ⟨_, ha, hk O bs σ H1 _ R1 (wp_mono (wp_bind.mp qx) (fun k qk v2 H2 s2 ik => ?_) fun _ z => (z.step (Gr.of s1)).xw R1 w)⟩
  have R2 := R1.same s2
  have s12 := s1.trans s2
  have hl' := hl.mono (frz_same (A := O ++ adr ρ σ) s12)
  unfold setL at qk
  split at qk
  · next k =>
    cases isV_int ik
    split at qk
    · next j hj =>
      obtain ⟨R3, g3⟩ := R2.put (m' := .lst (ps.set j x)) (o := .lst (vs.set j v)) hi (by rcases hs with e | ⟨k, e⟩; exact .inl e; exact .inr ⟨k, e⟩) ha ⟨_, upd_same, IsL.set (ix.mono (frz_same s2)) j hl'⟩
      have g := (Gr.of (A := adr ρ σ) s12).trans g3
      exact ⟨a, vs, k, j, rfl, rfl, s12 _ _ hv, by rw [hl.len]; exact hj, h _ O bs σ _ D R3 hb (wp_mono qk (fun _ z => z.step g) fun _ z => z.step g)⟩
    · exact qk.elim
  · exact qk.elim
def keyP : PV → Res Key
  | .int i => .val (.inl i)
  | .str x => .val (.inr x)
  | _ => .stuck
theorem wp_key {p : PV} {v : V} {Q : Key → Prop} {E : Str → Prop} (h : wp (keyP p) Q E) (i : IsV K cl F H v p) : ∃ k, v = kV k ∧ Q k := by
  cases p with
  | int j => exact ⟨.inl j, isV_int i, h⟩
  | str x => exact ⟨.inr x, isV_str i, h⟩
  | _ => exact h.elim
theorem run_dput {i : Nat} {s : Slot} {ps : List (Key × PV)} {n : List (Key × PV) → Res (Fl S L)} (hi : ρ[i]? = some s) (hs : s = .ow (.dct ps) ∨ ∃ k, s = .rf k (.dct ps)) (he : Pur K cl W te ρ m) (hk : Vw K cl W ta ρ ma) (w : Wk ρ ρx) (h : ∀ qs, Runs K cl W u (ρ.set i (reSl s (.dct qs))) (n qs) ρn ρl ρx) :
    Runs K cl W (tSeq (sDPut (tVar i) ta te) u) ρ (m >>= fun x => ma >>= fun k => keyP k >>= fun k => sized (ps.length + 1) >>= fun _ => n (putP ps k x)) ρn ρl ρx := fun O bs σ H D R hb q => by
  have got : ∃ a vs, σ[i]? = some (some (.ref a)) ∧ H a = some (.dK vs) ∧ IsK K cl (frz H (O ++ adr ρ σ)) vs ps := by
    obtain ⟨x, e, q⟩ := R.sl.get hi
    rcases hs with rfl | ⟨k, rfl⟩
    · obtain ⟨a, rfl, vs, h1, h2⟩ := q; exact ⟨a, vs, e, h1, h2⟩
    · obtain ⟨a, rfl, _, vs, h1, h2⟩ := q; exact ⟨a, vs, e, h1, h2⟩
  obtain ⟨a, vs, ha, hv, hl⟩ := got
  refine he O bs σ H _ R (wp_mono (wp_bind.mp q) (fun x qx v H1 s1 ix => ?_) fun _ z => z.xw R w)
  have R1 := R.same s1
  refine ⟨_, ha, hk O bs σ H1 _ R1 (wp_mono (wp_bind.mp qx) (fun k qk v2 H2 s2 ik => ?_) fun _ z => (z.step (Gr.of s1)).xw R1 w)⟩
  have R2 := R1.same s2
  have s12 := s1.trans s2
  have hl' := hl.mono (frz_same (A := O ++ adr ρ σ) s12)
  obtain ⟨k, rfl, qk⟩ := wp_key (wp_bind.mp qk) ik
  obtain ⟨hz, qk⟩ := wp_sized (wp_bind.mp qk)
  obtain ⟨R3, g3⟩ := R2.put (m' := .dct (putP ps k x)) (o := .dK (putK vs k v)) hi (by rcases hs with e | ⟨k, e⟩; exact .inl e; exact .inr ⟨k, e⟩) ha ⟨_, upd_same, IsK.put (ix.mono (frz_same s2)) hl'⟩
  have g := (Gr.of (A := adr ρ σ) s12).trans g3
  exact ⟨a, _, rfl, .inl ⟨vs, k, s12 _ _ hv, rfl, by rw [hl.len]; omega, rfl⟩, h _ O bs σ _ D R3 hb (wp_mono qk (fun _ z => z.step g) fun _ z => z.step g)⟩
/-! reading a dict -/
def dgetP (d k : PV) : Res PV := match d with
  | .dct ps => keyP k >>= fun k => match valP ps k with
    | some p => .val p
    | none => .stuck
  | _ => .stuck
theorem pu_dget (hd : Vw K cl W ta ρ ma) (hk : Vw K cl W te ρ m) : Pur K cl W (tDGet ta te) ρ (ma >>= fun d => m >>= fun k => dgetP d k) := fun O bs σ H Q R q => by
  refine hd O bs σ H _ R (wp_mono (wp_bind.mp q) (fun x qx v1 H1 s1 i1 => ?_) fun _ z => z)
  refine hk O bs σ H1 _ (R.same s1) (wp_mono (wp_bind.mp qx) (fun y qy v2 H2 s2 i2 => ?_) fun _ z => z.mono s1)
  have i1' := i1.mono (frz_same (A := O ++ adr ρ σ) s2) s2
  unfold dgetP at qy
  split at qy
  · obtain ⟨a, vs, rfl, h, l⟩ := i1'
    obtain ⟨k, rfl, qy⟩ := wp_key (wp_bind.mp qy) i2
    split at qy
    · next p e =>
      obtain ⟨v, e2, iv⟩ := l.val e
      exact ⟨a, v, rfl, .inl ⟨vs, k, .inl h, rfl, e2.symm⟩, qy v H2 (s1.trans s2) iv⟩
    · exact qy.elim
  · exact qy.elim
def dinP (neg : Bool) (k d : PV) : Res PV := match d with
  | .dct ps => keyP k >>= fun k => .val (.bl (if neg then !(valP ps k).isSome else (valP ps k).isSome))
  | _ => .stuck
theorem IsK.isSome {vs : List (Key × V)} {ps : List (Key × PV)} (h : IsK K cl F vs ps) (k : Key) : (valV vs k).isSome = (valP ps k).isSome := by
  cases e : valP ps k with
  | none => rw [h.noval e]; rfl
  | some p => obtain ⟨v, e2, _⟩ := h.val e; rw [e2]; rfl
theorem pu_din (hk : Vw K cl W te ρ m) (hd : Vw K cl W ta ρ ma) : Pur K cl W (tDIn te ta) ρ (m >>= fun k => ma >>= fun d => dinP false k d) := fun O bs σ H Q R q => by
  refine hk O bs σ H _ R (wp_mono (wp_bind.mp q) (fun y qx v1 H1 s1 i1 => ?_) fun _ z => z)
  refine hd O bs σ H1 _ (R.same s1) (wp_mono (wp_bind.mp qx) (fun x qy v2 H2 s2 i2 => ?_) fun _ z => z.mono s1)
  have i1' := i1.mono (frz_same (A := O ++ adr ρ σ) s2) s2
  unfold dinP at qy
  split at qy
  · obtain ⟨a, vs, rfl, h, l⟩ := i2
    obtain ⟨k, rfl, qy⟩ := wp_key (wp_bind.mp qy) i1'
    exact ⟨a, valV vs k, rfl, .inl ⟨vs, k, .inl h, rfl, rfl⟩, by rw [l.isSome]; exact qy _ H2 (s1.trans s2) (.bl _)⟩
  · exact qy.elim
theorem pu_dnin (hk : Vw K cl W te ρ m) (hd : Vw K cl W ta ρ ma) : Pur K cl W (tDNotIn te ta) ρ (m >>= fun k => ma >>= fun d => dinP true k d) := fun O bs σ H Q R q => by
  refine hk O bs σ H _ R (wp_mono (wp_bind.mp q) (fun y qx v1 H1 s1 i1 => ?_) fun _ z => z)
  refine hd O bs σ H1 _ (R.same s1) (wp_mono (wp_bind.mp qx) (fun x qy v2 H2 s2 i2 => ?_) fun _ z => z.mono s1)
  have i1' := i1.mono (frz_same (A := O ++ adr ρ σ) s2) s2
  unfold dinP at qy
  split at qy
  · obtain ⟨a, vs, rfl, h, l⟩ := i2
    obtain ⟨k, rfl, qy⟩ := wp_key (wp_bind.mp qy) i1'
    exact ⟨a, valV vs k, rfl, .inl ⟨vs, k, .inl h, rfl, rfl⟩, by rw [l.isSome]; exact qy _ H2 (s1.trans s2) (.bl _)⟩
  · exact qy.elim
/-! x += e; a, b = e, f -/
def addI : PV → PV → Res PV := ints2 fun i j => .val (.int (i + j))
theorem wp_ints2 {g : Int → Int → Res PV} {p q : PV} {Q : PV → Prop} {E : Str → Prop} (h : wp (ints2 g p q) Q E) : ∃ i j, p = .int i ∧ q = .int j ∧ wp (g i j) Q E := by
  unfold ints2 at h
  split at h
  · exact ⟨_, _, rfl, rfl, h⟩
  · exact h.elim
theorem run_aug {i : Nat} {p : PV} {n : PV → Res (Fl S L)} {f : Int → Int → Int} (hi : ρ[i]? = some (.fz p)) (he : Vw K cl W te ρ m) (hn : nad ρ i = true) (w : Wk ρ ρx) (h : ∀ x, Runs K cl W u (ρ.set i (.fz x)) (n x) ρn ρl ρx) :
    Runs K cl W (tSeq (tAug i te (ipI f)) u) ρ (m >>= fun y => ints2 (fun i j => .val (.int (f i j))) p y >>= n) ρn ρl ρx := fun O bs σ H D R hb q => by
  obtain ⟨x, e, v, rfl, hv⟩ := R.sl.get hi
  refine ⟨v, e, he O bs σ H _ R (wp_mono (wp_bind.mp q) (fun y qy v2 H' s iy => ?_) fun _ z => z.xw R w)⟩
  obtain ⟨i1, j1, rfl, rfl, qy⟩ := wp_ints2 (wp_bind.mp qy)
  cases hv
  cases isV_int iy
  have g : Gr (adr ρ σ) H (adr (ρ.set i (.fz (.int (f i1 j1)))) (σ.set i (some (.int (f i1 j1))))) H' := by rw [adr_setn hn]; exact Gr.of s
  exact ⟨i1, j1, rfl, rfl, h _ O bs _ H' D ((R.same s).setfz hn (.int _)) hb (wp_mono qy (fun _ z => z.step g) fun _ z => z.step g)⟩
theorem run_par {i j : Nat} {n : PV → PV → Res (Fl S L)} (ha : Pur K cl W ta ρ ma) (hb' : Pur K cl W te ρ m) (hi : nad ρ i = true) (hj : nad ρ j = true) (w : Wk ρ ρx) (h : ∀ x y, Runs K cl W u ((ρ.set i (.fz x)).set j (.fz y)) (n x y) ρn ρl ρx) :
    Runs K cl W (tSeq (tPar i j (tCons ta (tCons te tNil))) u) ρ (ma >>= fun x => m >>= fun y => n x y) ρn ρl ρx := fun O bs σ H D R hb q => by
  refine ha O bs σ H _ R (wp_mono (wp_bind.mp q) (fun x qx v1 H1 s1 i1 => ?_) fun _ z => z.xw R w)
  refine hb' O bs σ H1 _ (R.same s1) (wp_mono (wp_bind.mp qx) (fun y qy v2 H2 s2 i2 => ?_) fun _ z => (z.step (Gr.of s1)).xw (R.same s1) w)
  have s12 := s1.trans s2
  have g : Gr (adr ρ σ) H (adr ((ρ.set i (.fz x)).set j (.fz y)) ((σ.set i (some v1)).set j (some v2))) H2 := by rw [adr_setn (nad_set hj), adr_setn hi]; exact Gr.of s12
  refine ⟨v1, v2, rfl, h x y O bs _ H2 D (Rel.setfz ((R.same s12).setfz hi (i1.mono (frz_same s2))) (nad_set hj) (by rw [adr_setn hi]; exact i2)) hb (wp_mono qy (fun _ z => z.step g) fun _ z => z.step g)⟩
end
/-! ### defs, calls, errors, fields -/
section
variable (K : PySem.W.Frag) (cl : Str → Option Addr)
def spP (mf : List PV → Res PV) : Sp := fun vs H Q E => ∃ O ps, (∀ a, a ∈ O → ∃ o, H a = some o) ∧ IsL K cl (frz H O) vs ps ∧
  wp (mf ps) (fun r => ∀ v H', Sub H H' → Is K cl (frz H' O) v r → Q v H') (fun c => ∀ C H', cl c = some C → Sub H H' → E (.ref C) none H')
end
def retF (M : Res (Fl Unit Empty)) : Res PV := M >>= fun f => match f with
  | .nx _ => .val .non
  | .rt v _ => .val v
  | .ro _ => .stuck
def ap0 (f : Res PV) : List PV → Res PV
  | [] => f
  | _ => .stuck
def ap1 (f : PV → Res PV) : List PV → Res PV
  | [a] => f a
  | _ => .stuck
def ap2 (f : PV → PV → Res PV) : List PV → Res PV
  | [a, b] => f a b
  | _ => .stuck
def ap3 (f : PV → PV → PV → Res PV) : List PV → Res PV
  | [a, b, c] => f a b c
  | _ => .stuck
def ap4 (f : PV → PV → PV → PV → Res PV) : List PV → Res PV
  | [a, b, c, d] => f a b c d
  | _ => .stuck
def ap5 (f : PV → PV → PV → PV → PV → Res PV) : List PV → Res PV
  | [a, b, c, d, e] => f a b c d e
  | _ => .stuck
def ap6 (f : PV → PV → PV → PV → PV → PV → Res PV) : List PV → Res PV
  | [a, b, c, d, e, g] => f a b c d e g
  | _ => .stuck
def ap7 (f : PV → PV → PV → PV → PV → PV → PV → Res PV) : List PV → Res PV
  | [a, b, c, d, e, g, h] => f a b c d e g h
  | _ => .stuck
/-- mf answers lists of n values alone -/
def Takn (n : Nat) (mf : List PV → Res PV) : Prop := ∀ ps, ps.length ≠ n → mf ps = .stuck
theorem takn0 {f : Res PV} : Takn 0 (ap0 f) := fun ps h => by
  unfold ap0; split
  · exact absurd rfl h
  · rfl
theorem takn1 {f : PV → Res PV} : Takn 1 (ap1 f) := fun ps h => by
  unfold ap1; split
  · exact absurd rfl h
  · rfl
theorem takn2 {f : PV → PV → Res PV} : Takn 2 (ap2 f) := fun ps h => by
  unfold ap2; split
  · exact absurd rfl h
  · rfl
theorem takn3 {f : PV → PV → PV → Res PV} : Takn 3 (ap3 f) := fun ps h => by
  unfold ap3; split
  · exact absurd rfl h
  · rfl
theorem takn4 {f : PV → PV → PV → PV → Res PV} : Takn 4 (ap4 f) := fun ps h => by
  unfold ap4; split
  · exact absurd rfl h
  · rfl
theorem takn5 {f : PV → PV → PV → PV → PV → Res PV} : Takn 5 (ap5 f) := fun ps h => by
  unfold ap5; split
  · exact absurd rfl h
  · rfl
theorem takn6 {f : PV → PV → PV → PV → PV → PV → Res PV} : Takn 6 (ap6 f) := fun ps h => by
  unfold ap6; split
  · exact absurd rfl h
  · rfl
theorem takn7 {f : PV → PV → PV → PV → PV → PV → PV → Res PV} : Takn 7 (ap7 f) := fun ps h => by
  unfold ap7; split
  · exact absurd rfl h
  · rfl
section
variable {P : Program} {w : World} {K : PySem.W.Frag} {mg : Str → Option Value} {base : Heap} {cl : Str → Option Addr}
theorem fz_adr : ∀ (qs : List PV) (n : Nat) (σ : St), adr (qs.map Slot.fz ++ uns n) σ = []
  | [], 0, [] => rfl
  | [], 0, _ :: _ => rfl
  | [], n + 1, [] => rfl
  | [], n + 1, _ :: σ => fz_adr [] n σ
  | _ :: qs, n, [] => rfl
  | _ :: qs, n, _ :: σ => fz_adr qs n σ
theorem fz_owa : ∀ (qs : List PV) (n : Nat) (σ : St), owa (qs.map Slot.fz ++ uns n) σ = []
  | [], 0, [] => rfl
  | [], 0, _ :: _ => rfl
  | [], n + 1, [] => rfl
  | [], n + 1, _ :: σ => fz_owa [] n σ
  | _ :: qs, n, [] => rfl
  | _ :: qs, n, _ :: σ => fz_owa qs n σ
theorem uns_adr (n : Nat) (σ : St) : adr (uns n) σ = [] := fz_adr [] n σ
theorem fz_rel {F H : Hp} : ∀ {vs : List V} {qs : List PV} (n : Nat), IsL K cl F vs qs → RelS K cl [] F H (qs.map Slot.fz ++ uns n) (vs.map some ++ List.replicate n none)
  | _, _, 0, .nil => .nil
  | _, _, n + 1, .nil => .cons trivial (fz_rel n .nil)
  | _, _, n, .cons a r => .cons ⟨_, rfl, a⟩ (fz_rel n r)
open PySem.Spec PyProof.Rows in
theorem fnP {x qual : Str} {st : Stmt} {f : Addr} {fd : FuncData} {N ps : List Str} {k n : Nat} {mf : List PV → Res PV} (F : Fun K x qual st f fd) (S : FnScope N ps (defScope st)) (hn : ps.length = n) (tk : Takn n mf)
    (h : ∀ (cdv : Value) (A : Around) (outer : List Env) (s : Shared) (H : Hp) (E : XK), Room k (A.deeper (envOfC qual (defScope st) s.heap.objs.size f cdv)) → ∀ qs : List PV, qs.length = n →
      ∃ t, PSs (cxOf (L2.CX P w) P w K mg base N qual (defScope st) f cdv A outer s H E) (defBody st) t ∧ ∃ M, Runs K cl (fun c d _ H' => E c d H') t (qs.map Slot.fz ++ uns (N.length - n)) M (fun _ : Unit => uns N.length) (fun l : Empty => nomatch l) (uns N.length) ∧ mf qs = retF M) :
    FnOk P w K mg base (L2.CX P w) (k + 1) f fd ps (spP K cl mf) := by
  have len : ∀ vs H Q E, spP K cl mf vs H Q E → vs.length = n := fun vs H Q E ⟨O, qs, hO, hl, hw⟩ => by
    rw [hl.len]
    refine Classical.byContradiction fun c => ?_
    rw [tk qs c] at hw
    exact hw
  refine F.okX S (fun vs H Q E h => (len vs H Q E h).trans hn.symm) (fun cdv A outer s H vs Q E hr hsp => ?_)
  have hvn := len vs H Q E hsp
  obtain ⟨O, qs, hO, hl, hw⟩ := hsp
  have hqn : qs.length = n := by rw [← hl.len]; exact hvn
  obtain ⟨t, ht, M, hM, e⟩ := h cdv A outer s H E hr qs hqn
  refine ⟨t, ht, ?_⟩
  rw [e] at hw
  have st0 : L2.start N vs = vs.map some ++ List.replicate (N.length - n) none := by unfold L2.start; rw [hvn]
  rw [st0]
  have R : Rel K cl O [] (qs.map Slot.fz ++ uns (N.length - n)) (vs.map some ++ List.replicate (N.length - n) none) H :=
    ⟨by rw [fz_adr, List.append_nil]; exact fz_rel _ hl, by rw [fz_adr]; exact List.nodup_nil, hO, by rw [fz_owa]; exact fun _ z => nomatch z⟩
  have sub : ∀ {A' : List Addr} {H' : Hp}, Gr (adr (qs.map Slot.fz ++ uns (N.length - n)) (vs.map some ++ List.replicate (N.length - n) none)) H A' H' → Sub H H' := fun {A' H'} g x o e => g.1 x o (by rw [fz_adr]; exact fun z => nomatch z) e
  refine hM O [] _ H _ R (fun _ z => nomatch z) (wp_mono (wp_bind.mp hw) (fun fl q => ?_) fun c q C σ' H' e g _ => q C H' e (sub g))
  cases fl with
  | nx s => exact fun σ' H' g R' => q .non H' (sub g) .non
  | rt v r => exact fun w' H' g i _ => q w' H' (sub g) i
  | ro mo => exact q.elim
  | bk l => exact nomatch l
  | ct l => exact nomatch l
end
section
variable {K : PySem.W.Frag} {cl : Str → Option Addr} {W Wo : WX} {bs O A A1 B : List Addr} {F H H' H1 : Hp} {ρ ρ' ρx ρh : Ro} {σ : St} {S S1 L : Type} {ρn : S → Ro} {ρj : S1 → Ro} {ρl : L → Ro} {D : Ends} {t u v tb : TS} {te ta tc td : TE} {m ma mb mc md : Res PV} {tr : TA} {ml : Res (List PV)} {mf : List PV → Res PV}
theorem pu_call (hl : PurL K cl W tr ρ ml) : Pur K cl W (tCallS (spP K cl mf) (WE W) tr) ρ (ml >>= mf) := fun O bs σ H Q R q => by
  refine hl O bs σ H _ R (wp_mono (wp_bind.mp q) (fun ps qs vs H1 s1 i1 => ?_) fun _ z => z)
  exact ⟨O ++ adr ρ σ, ps, fun a h => (R.same s1).got h, i1, wp_mono qs (fun r qr v H' s i => qr v H' (s1.trans s) i) fun c qc C H' e s => qc C H' e (s1.trans s)⟩
theorem pu_call1 {f : PV → Res PV} (ha : Pur K cl W ta ρ ma) : Pur K cl W (tCallS (spP K cl (ap1 f)) (WE W) (tCons ta tNil)) ρ (ma >>= f) := fun O bs σ H Q R q =>
  pu_call (mf := ap1 f) (pl_cons ha pl_nil) O bs σ H Q R (by cases ma <;> exact q)
theorem pu_call2 {f : PV → PV → Res PV} (ha : Pur K cl W ta ρ ma) (hb : Pur K cl W te ρ m) : Pur K cl W (tCallS (spP K cl (ap2 f)) (WE W) (tCons ta (tCons te tNil))) ρ (ma >>= fun x => m >>= fun y => f x y) := fun O bs σ H Q R q =>
  pu_call (mf := ap2 f) (pl_cons ha (pl_cons hb pl_nil)) O bs σ H Q R (by cases ma <;> cases m <;> exact q)
theorem pu_call3 {f : PV → PV → PV → Res PV} (ha : Pur K cl W ta ρ ma) (hb : Pur K cl W te ρ m) (hc : Pur K cl W tc ρ mc) : Pur K cl W (tCallS (spP K cl (ap3 f)) (WE W) (tCons ta (tCons te (tCons tc tNil)))) ρ (ma >>= fun x => m >>= fun y => mc >>= fun z => f x y z) := fun O bs σ H Q R q =>
  pu_call (mf := ap3 f) (pl_cons ha (pl_cons hb (pl_cons hc pl_nil))) O bs σ H Q R (by cases ma <;> cases m <;> cases mc <;> exact q)
theorem pu_call4 {f : PV → PV → PV → PV → Res PV} (ha : Pur K cl W ta ρ ma) (hb : Pur K cl W te ρ m) (hc : Pur K cl W tc ρ mc) (hd : Pur K cl W td ρ md) : Pur K cl W (tCallS (spP K cl (ap4 f)) (WE W) (tCons ta (tCons te (tCons tc (tCons td tNil))))) ρ (ma >>= fun x => m >>= fun y => mc >>= fun z => md >>= fun z' => f x y z z') := fun O bs σ H Q R q =>
  pu_call (mf := ap4 f) (pl_cons ha (pl_cons hb (pl_cons hc (pl_cons hd pl_nil)))) O bs σ H Q R (by cases ma <;> cases m <;> cases mc <;> cases md <;> exact q)
theorem pu_call5 {f : PV → PV → PV → PV → PV → Res PV} {t5 : TE} {m5 : Res PV} (ha : Pur K cl W ta ρ ma) (hb : Pur K cl W te ρ m) (hc : Pur K cl W tc ρ mc) (hd : Pur K cl W td ρ md) (h5 : Pur K cl W t5 ρ m5) : Pur K cl W (tCallS (spP K cl (ap5 f)) (WE W) (tCons ta (tCons te (tCons tc (tCons td (tCons t5 tNil)))))) ρ (ma >>= fun x => m >>= fun y => mc >>= fun z => md >>= fun z' => m5 >>= fun z5 => f x y z z' z5) := fun O bs σ H Q R q =>
  pu_call (mf := ap5 f) (pl_cons ha (pl_cons hb (pl_cons hc (pl_cons hd (pl_cons h5 pl_nil))))) O bs σ H Q R (by cases ma <;> cases m <;> cases mc <;> cases md <;> cases m5 <;> exact q)
/-- calls by keywords: the wish doesn't hang on the slots -/
theorem pu_callK {E : XK} {tk : TA} {mk : Res (List PV)} {gV : List V → List V → List V} {gP : List PV → List PV → List PV} (hg : ∀ {F : Hp} {vs : List V} {ps : List PV} {ws : List V} {qs : List PV}, IsL K cl F vs ps → IsL K cl F ws qs → IsL K cl F (gV vs ws) (gP ps qs))
    (hl : PurL K cl (fun c d _ H => E c d H) tr ρ ml) (hk : PurL K cl (fun c d _ H => E c d H) tk ρ mk) : Pur K cl (fun c d _ H => E c d H) (tCallK (spP K cl mf) gV E tr tk) ρ (ml >>= fun ps => mk >>= fun qs => mf (gP ps qs)) := fun O bs σ H Q R q => by
  refine hl O bs σ H _ R (wp_mono (wp_bind.mp q) (fun ps q1 vs H1 s1 i1 => ?_) fun _ z => z)
  refine hk O bs σ H1 _ (R.same s1) (wp_mono (wp_bind.mp q1) (fun qs q2 ws H2 s2 i2 => ?_) fun _ z => z.mono s1)
  have s12 := s1.trans s2
  exact ⟨O ++ adr ρ σ, gP ps qs, fun a h => (R.same s12).got h, hg (i1.mono (frz_same s2)) i2, wp_mono q2 (fun r qr v H' s i => qr v H' (s12.trans s) i) fun c qc C H' e s => qc C H' e (s12.trans s)⟩
/-! errors -/
theorem run_raise {c : Str} {C : Addr} (hc : cl c = some C) (w : Wk ρ ρx) : Runs (S := S) (L := L) K cl W (tSeq (fun _ σ H => (fun (_ : St) (H : Hp) (Q : XK) => Q (.ref C) none H) σ H fun cls d H' => W cls d σ H') u) ρ (.exc c) ρn ρl ρx := fun O bs σ H D R hb q =>
  q C σ H hc (Gr.wk w) (R.wk w)
def tryF {α : Type} (M : Res α) (hit : Str → Option Bool) (h : Res α) : Res α := match M with
  | .exc c => match hit c with
    | some true => noX h
    | some false => .exc c
    | none => .stuck
  | x => x
theorem run_try {c : Value} {ts : Addr → Value → Option Addr → TS} {tb : WX → TS} {M Mh : Res (Fl S L)} {hit : Str → Option Bool} (hm : ∀ c' C b, cl c' = some C → hit c' = some b → PySem.W.exmOne K (.ref C) c = some b) (w : Wk ρh ρx) (hb : ∀ W', Runs K cl W' (tb W') ρ M ρn ρl ρh)
    (hh : ∀ a cls d, Runs K cl (fun _ _ _ _ => False) (ts a cls d) ρh Mh ρn ρl ρx) : Runs K cl W (fun D σ H => tb (wOnly K c ts W D) D σ H) ρ (tryF M hit Mh) ρn ρl ρx := fun O bs σ H D R hbs q => by
  refine hb _ O bs σ H D R hbs ?_
  cases M with
  | val f => exact q
  | stuck => exact q
  | exc c' =>
    intro C σ' H' e g R'
    replace q : wp (match hit c' with | some true => noX Mh | some false => Res.exc c' | none => .stuck) (FlOk K cl O bs ρn ρl D (adr ρ σ) H) (ExOk K cl W O bs ρx (adr ρ σ) H) := q
    cases hc : hit c' with
    | none => rw [hc] at q; exact q.elim
    | some b =>
      rw [hc] at q
      refine ⟨b, hm c' C b e hc, fun hy a _ => ?_, fun hn => ?_⟩
      · subst hy
        exact hh a _ _ O bs σ' H' D R' hbs (wp_mono (wp_noX (E' := fun _ => False) q) (fun f z => z.step g) fun _ z => z.elim)
      · subst hn
        have q' : ExOk K cl W O bs ρx (adr ρ σ) H c' := q
        exact q' C σ' H' e (g.trans (Gr.wk w)) (R'.wk w)
/-! fields -/
def fldP (cs : List Str) (f : Str) : PV → Res PV
  | .ins C fs => if C ∈ cs then match fs.lookup f with
    | some p => .val p
    | none => .stuck
    else .stuck
  | _ => .stuck
theorem pu_fld {cs : List Str} {f : Str} (hF : ∀ C, C ∈ cs → ∀ c, cl C = some c → Cls K c ∧ NoAttr K c f) (ha : Vw K cl W ta ρ ma) : Pur K cl W (tFld K ta f) ρ (ma >>= fldP cs f) := fun O bs σ H Q R q => by
  refine ha O bs σ H _ R (wp_mono (wp_bind.mp q) (fun x qx v1 H1 s1 i1 => ?_) fun _ z => z)
  unfold fldP at qx
  split at qx
  · next C fs =>
    split at qx
    · next hC =>
      split at qx
      · next p e =>
        cases i1 with
        | ins hc h l =>
          obtain ⟨v, e2, iv⟩ := l.look e
          obtain ⟨c1, c2⟩ := hF C hC _ hc
          exact ⟨_, _, _, _, v, rfl, frz_sub _ _ h, c1, c2, e2, qx v H1 s1 iv⟩
      · exact qx.elim
    · exact qx.elim
  · exact qx.elim
/-! slices -/
def partP : PV → Res Int
  | .int i => .val i
  | _ => .stuck
def PrtO (K : PySem.W.Frag) (cl : Str → Option Addr) (W : WX) (t : TO) (ρ : Ro) (m : Res (Option Int)) : Prop := ∀ (O bs : List Addr) (σ : St) (H : Hp) (Q : Option Int → Hp → Prop), Rel K cl O bs ρ σ H →
  wp m (fun r => ∀ H', Sub H H' → Q r H') (XW cl W σ H) → t σ H Q
theorem pr_none : PrtO K cl W tNoPart ρ (.val none) := fun O bs σ H Q R q => q H .refl
theorem pr_some (ha : Vw K cl W ta ρ ma) : PrtO K cl W (tPart ta) ρ (ma >>= partP >>= fun i => .val (some i)) := fun O bs σ H Q R q => by
  rw [wp_bind, wp_bind] at q
  refine ha O bs σ H _ R (wp_mono q (fun x qx v1 H1 s1 i1 => ?_) fun _ z => z)
  unfold partP at qx
  split at qx
  · cases isV_int i1; exact ⟨_, rfl, qx H1 s1⟩
  · exact qx.elim
def cutP (xs : List PV) (lo hi : Option Int) : List PV := (xs.drop (HT.sIx xs.length 0 lo)).take (HT.sIx xs.length xs.length hi - HT.sIx xs.length 0 lo)
theorem IsL.cut {vs : List V} {ps : List PV} (h : IsL K cl F vs ps) (lo hi : Option Int) : IsL K cl F (cutV vs lo hi) (cutP ps lo hi) := by
  unfold cutV cutP
  rw [h.len]
  exact (h.drop _).take _
def slP (p : PV) (lo hi : Option Int) : Res PV := match p with
  | .tup ps => .val (.tup (cutP ps lo hi))
  | .lst ps => .val (.lst (cutP ps lo hi))
  | .fls ps => .val (.lst (cutP ps lo hi))
  | _ => .stuck
def rSlV (K : PySem.W.Frag) : V → Option Int → Option Int → Hp → VK → Prop := sOr (rSlL K) (rSlA K)
theorem sl_V (K : PySem.W.Frag) {X : Cx} (e : X.K = K) : SlR X (rSlV K) := by subst e; exact sl_list.or sl_tupA
theorem cut_all {vs : List V} {lo hi : Option Int} (h : HT.sIx vs.length 0 lo = 0 ∧ HT.sIx vs.length vs.length hi = vs.length) : cutV vs lo hi = vs := by
  unfold cutV
  rw [h.1, h.2, Nat.sub_zero, List.drop_zero, List.take_length]
theorem pu_sl {tl th : TO} {mlo mhi : Res (Option Int)} (ha : Vw K cl W ta ρ ma) (hl : PrtO K cl W tl ρ mlo) (hh : PrtO K cl W th ρ mhi) : Pur K cl W (tSl (rSlV K) ta tl th) ρ (ma >>= fun x => mlo >>= fun l => mhi >>= fun h => slP x l h) := fun O bs σ H Q R q => by
  refine ha O bs σ H _ R (wp_mono (wp_bind.mp q) (fun x qx v1 H1 s1 i1 => ?_) fun _ z => z)
  refine hl O bs σ H1 _ (R.same s1) (wp_mono (wp_bind.mp qx) (fun l ql H2 s2 => ?_) fun _ z => z.mono s1)
  have s12 := s1.trans s2
  refine hh O bs σ H2 _ (R.same s12) (wp_mono (wp_bind.mp ql) (fun h qh H3 s3 => ?_) fun _ z => z.mono s12)
  have s13 := s12.trans s3
  have R3 := R.same s13
  have i3 := i1.mono (frz_same (A := O ++ adr ρ σ) (s2.trans s3)) (s2.trans s3)
  unfold slP at qh
  split at qh
  · cases i3 with
    | tup hs hl =>
    refine .inr ⟨_, _, rfl, frz_sub.sqT hs, fun e => ?_, fun _ p hp => qh _ _ (s13.trans (sub_new hp _)) (new_tup (fun a h => R3.got h) hp (hl.cut _ _))⟩
    refine qh _ H3 s13 (.tup hs ?_)
    have := hl.cut l h
    rwa [cut_all e] at this
  · obtain ⟨a, vs, rfl, hs, hl⟩ := i3
    exact .inl ⟨a, vs, rfl, .inl (.inl hs), fun p hp => qh _ _ (s13.trans (sub_new hp _)) (new_lst (fun a h => R3.got h) hp (hl.cut _ _))⟩
  · cases i3 with
    | fls hs hl => exact .inl ⟨_, _, rfl, frz_sub.sqL hs, fun p hp => qh _ _ (s13.trans (sub_new hp _)) (new_lst (fun a h => R3.got h) hp (hl.cut _ _))⟩
  · exact qh.elim
end
/-! ### errors of one's own, made without arguments -/
section
open PySem.Spec PyProof.Rows
variable {X : Cx}
theorem pmk_own0 {C : Addr} {bmB : List Value} {B newId initId : String} {x : Str} {p pos : Pos} (F : ExcBaseFacts B newId initId bmB) (q : PySem.W.excIn X.K C bmB newId = true) (gC : X.mg x = some (.ref C))
    (kC : PySem.W.keepIn X.K (.ref C) = true) (r : Raises X (.ref C)) (hg : Gl X x) (hdb : (x == ("__debug__" : Str)) = false := by decide) :
    PMk X (.Call (.Name x p) [] [] pos) (fun _ H Q => Q (.ref C) none H) := by
  intro pins s σ H Q I h
  refine wpAny_Call_Name_kw (ld_glob I hg gC ?_ hdb)
  refine PySem.W.callWith_K0 (first := []) I.kIn kC ?_
  show wpAny _ _ (call (.ref C) []) _ _ _
  have X0 := I.kIn
  obtain ⟨bm, N, nm, qn, bs, hdct, sn, sub, ab, col, dd, k0, k1, k2, k3, k5, mN, hC, hN, hni, T⟩ := exc_obj X0 q
  refine wpAny_call_exc_subT F T hC hN hni (fun h' e hm => ?_) (Nat.zero_le _)
  exact mk_of I hm r h (I.hok.gone hm.new)
theorem pss_given {st : List Stmt} {t : TS} {φ : Prop} (h : φ → PSs X st t) : PSs X st (fun D σ H => φ ∧ t D σ H) := ⟨fun pins s σ H D I q => (h q.1).run pins s σ H D I q.2⟩
end
theorem kit_own {K : PySem.W.Frag} {D C : Addr} {b : Bool} (i : PySem.W.isClsIn K C = true) (t : PySem.W.typeIn K (.ref C) = some (.type "type")) (s : PySem.W.subIn K (.ref D) (.ref C) = some b) (h : D = C → b = true) : PySem.W.kitOne K (.ref D) (.ref C) = some b := by
  unfold PySem.W.kitOne
  by_cases e : D = C
  · rw [if_pos (by rw [e]; exact beq_self_eq_true _), h e]
  · have ne : (Value.ref D == Value.ref C) = false := beq_eq_false_iff_ne.mpr (fun z => e (Value.ref.inj z))
    rw [if_neg (by rw [ne]; exact Bool.false_ne_true)]
    show (if ((PySem.W.clsIn K C).isSome && PySem.W.typeIn K (.ref C) == some (.type "type")) = true then PySem.W.subIn K (.ref D) (.ref C) else none) = some b
    have i' : (PySem.W.clsIn K C).isSome = true := i
    rw [i', t, if_pos (by rfl)]
    exact s
theorem kit_val {K : PySem.W.Frag} {D : Addr} {b : Bool} (s : PySem.W.subIn K (.ref D) (.type "ValueError") = some b) : PySem.W.kitOne K (.ref D) (.type "ValueError") = some b := by
  unfold PySem.W.kitOne
  have ne : (Value.ref D == Value.type "ValueError") = false := beq_eq_false_iff_ne.mpr (fun z => nomatch z)
  rw [if_neg (by rw [ne]; exact Bool.false_ne_true)]
  show (if PySem.W.kitMeta "ValueError" = true then PySem.W.subIn K (.ref D) (.type "ValueError") else none) = some b
  rw [if_pos (by decide +kernel)]
  exact s
/-! ### calls by keywords alone -/
section
open PySem.Spec PyProof.Rows
variable {X : Cx} {CX : CXT} {k : Nat} {f : Addr} {fd : FuncData} {ps ks : List Str} {sp : Sp} {E : XK} {x : Str} {p pos : Pos} {kws : List Keyword} {tk : TA} {g : List Value → List Value → List Value} {gV : List V → List V → List V}
theorem pe_callK0 (F : FnOk X.prog X.w X.K X.mg X.base CX k f fd ps sp) (hr : Room k X.A) (hg : Gl X x) (hm : X.mg x = some (.ref f)) (hk : PySem.W.keepIn X.K (.ref f) = true) (hb : KBinds X.K fd ps ks g gV) (hx : Passes CX X E)
    (hkw : PK X kws tk) (hall : (backToKw pos (keywordEach kws X.env)).all (·.1.isSome) = true := by rfl) (hks : (backToKw pos (keywordEach kws X.env)).filterMap (·.1) = ks := by rfl)
    (hdb : (x == ("__debug__" : Str)) = false := by decide)
    (hpl : ((backTo pos (starEach [] X.env)).any (·.1) || (backToKw pos (keywordEach kws X.env)).any (·.1.isNone)) = false := by rfl) :
    PE X (.Call (.Name x p) [] kws pos) (tCallK sp gV E tNil tk) := by
  refine ⟨fun pins s σ H Q I h => ?_⟩
  refine wpAny_Call_Name_kw (ld_glob I hg hm ?_ hdb)
  refine PySem.W.callWith_KW0 (h₀ := X.base) I.ok.mod.kin hk hall ?_ hpl
  refine thn (hkw.run pos pins s σ H _ I h) fun ws s2 ⟨zs, H2, I2, rz, q2⟩ => ⟨I2.kIn, ?_⟩
  rw [hks]
  exact run_fnk (us := []) (vs := []) F hr hb hx I2 .nil rz q2
end
theorem fun_kbinds {K : PySem.W.Frag} {x qual : Str} {st : Stmt} {f : Addr} {fd : FuncData} {ps ks : List Str} {g : List Value → List Value → List Value} {gV : List V → List V → List V} (F : Fun K x qual st f fd)
    (hrel : ∀ {vs : List V} {us : List Value} {zs : List V} {ws : List Value}, Vals vs us → Vals zs ws → Vals (gV vs zs) (g us ws))
    (h : ∀ (kV doc pm : Value) (an : Option Addr) (cdv ct : Value) (us ws : List Value), (g us ws).length = ps.length → bindArgs (PySem.W.fnOf x qual (defArgs st) (defBody st) (defScope st) .none kV doc pm an cdv ct) ⟨us, ks.zip ws⟩ = pure (ps.zip (g us ws))) : KBinds K fd ps ks g gV := by
  obtain ⟨oc, od, kV, doc, pm, an, cdv, ct, osl, rfl, lk, hcd⟩ := F.ex
  exact ⟨fun s us ws _ hl => .of_eq (h kV doc pm an cdv ct us ws hl), hrel⟩
/-! ### rules that name the fragment -/
section
variable {X : Cx}
theorem op_eqV (K : PySem.W.Frag) (e : X.K = K) (hu : X.A.units + 64 < cLine) : OpR X (compareOp .Eq) (rEqD K) := by subst e; exact op_eqD hu
theorem op_neV (K : PySem.W.Frag) (e : X.K = K) (hu : X.A.units + 64 < cLine) : OpR X (compareOp .NotEq) (rNeD K) := by subst e; exact op_neD hu
theorem op_inV (K : PySem.W.Frag) (e : X.K = K) : OpR X (compareOp .In) (rIn K false) := by subst e; exact op_in_seq
theorem op_notInV (K : PySem.W.Frag) (e : X.K = K) : OpR X (compareOp .NotIn) (rIn K true) := by subst e; exact op_notIn_seq
theorem call_isiV (K : PySem.W.Frag) (e : X.K = K) : CallR X (.builtin "isinstance") (rIsi K) := by subst e; exact call_isi
theorem cr_sumV (K : PySem.W.Frag) (e : X.K = K) (hc : X.calm = true) : CallR X (.builtin "sum") (rSum K) := by subst e; exact cr_sum hc
theorem cr_allV (K : PySem.W.Frag) (e : X.K = K) (hc : X.calm = true) : CallR X (.builtin "all") (rAll K) := by subst e; exact cr_all hc
theorem cr_anyV (K : PySem.W.Frag) (e : X.K = K) (hc : X.calm = true) : CallR X (.builtin "any") (rAny K) := by subst e; exact cr_any hc
theorem call_intV : CallR X (.type "int") rIntV := call_int1
theorem call_boolV : CallR X (.type "bool") rBoolV := call_bool1
theorem pi_listV (K : PySem.W.Frag) {tg l : Expr} {tl : TE} (e : X.K = K) (hl : PE X l tl) : PI X tg l (iList K tl) := by subst e; exact pi_list hl
theorem pi_zipV (K : PySem.W.Frag) (ek : X.K = K) {e e2 : Expr} {ta : TA} {p pos tpos : Pos} {elts : List Expr} {kk : Nat} (hg : Gl X "zip") (hm : X.mg "zip" = none) (ha : PA X [e, e2] ta)
    (hs : starEach [e, e2] X.env = (false, eval e X.env) :: starEach [e2] X.env := by rfl) (hpl : (backTo pos (starEach [e2] X.env)).any (·.1) = false := by rfl) :
    PI X (.Tuple elts kk tpos) (.Call (.Name "zip" p) [e, e2] [] pos) (RZ.iZipA K ta) := by subst ek; exact RZ.pi_zipA hg hm ha hs hpl
theorem pi_enumV (K : PySem.W.Frag) (ek : X.K = K) {e : Expr} {ta : TA} {p pos tpos : Pos} {elts : List Expr} {kk : Nat} (hg : Gl X "enumerate") (hm : X.mg "enumerate" = none) (ha : PA X [e] ta) (hs : starEach [e] X.env = [(false, eval e X.env)] := by rfl) :
    PI X (.Tuple elts kk tpos) (.Call (.Name "enumerate" p) [e] [] pos) (iEnum K ta) := by subst ek; exact pi_enum hg hm ha hs
theorem pe_fldV (K : PySem.W.Frag) (ek : X.K = K) {e : Expr} {ta : TE} {f : Str} {pos : Pos} (he : PE X e ta) (hb : attributeBase e f X.env (eval e X.env) = eval e X.env) : PE X (.Attribute e f pos) (tFld K ta f) := by subst ek; exact pe_fld he hb
theorem pe_gint {x : Str} {n : Int} {pos : Pos} (hg : Gl X x) (h : ∃ t, X.mg x = some (.int n t)) (hd : (x == ("__debug__" : Str)) = false := by decide) : PE X (.Name x pos) (tC (.int n)) := by
  obtain ⟨t, h⟩ := h
  exact pe_glob hg h ⟨t, rfl⟩ hd
end
/-- as many turns as a while may take -/
def FUEL : Nat := 1000000
open PySem.Spec PyProof.Rows in
theorem fn_stuck {P : Program} {w : World} {K : PySem.W.Frag} {mg : Str → Option Value} {base : Heap} {CX : CXT} {cl : Str → Option Addr} {k : Nat} {f : Addr} {fd : FuncData} {ps : List Str} {mf : List PV → Res PV} (h : ∀ qs, mf qs = .stuck) : FnOk P w K mg base CX k f fd ps (spP K cl mf) := by
  refine ⟨fun vs H Q E ⟨O, qs, _, _, hw⟩ => ?_, fun A outer s H args us vs Q E _ _ _ _ ⟨O, qs, _, _, hw⟩ => ?_⟩
  · rw [h] at hw; exact hw.elim
  · rw [h] at hw; exact hw.elim
theorem stuck1 : ∀ qs, ap1 (fun _ => (.stuck : Res PV)) qs = .stuck := fun qs => by unfold ap1; split <;> rfl
theorem stuck2 : ∀ qs, ap2 (fun _ _ => (.stuck : Res PV)) qs = .stuck := fun qs => by unfold ap2; split <;> rfl
theorem stuck3 : ∀ qs, ap3 (fun _ _ _ => (.stuck : Res PV)) qs = .stuck := fun qs => by unfold ap3; split <;> rfl
theorem stuck4 : ∀ qs, ap4 (fun _ _ _ _ => (.stuck : Res PV)) qs = .stuck := fun qs => by unfold ap4; split <;> rfl
theorem stuck5 : ∀ qs, ap5 (fun _ _ _ _ _ => (.stuck : Res PV)) qs = .stuck := fun qs => by unfold ap5; split <;> rfl
theorem stuck6 : ∀ qs, ap6 (fun _ _ _ _ _ _ => (.stuck : Res PV)) qs = .stuck := fun qs => by unfold ap6; split <;> rfl
theorem stuck7 : ∀ qs, ap7 (fun _ _ _ _ _ _ _ => (.stuck : Res PV)) qs = .stuck := fun qs => by unfold ap7; split <;> rfl
/-! ### expressions that change what is owned or lent: a state of contents is threaded -/
section
variable (K : PySem.W.Frag) (cl : Str → Option Addr)
def Eff {S : Type} (t : TE) (ρs : S → Ro) (m : S → Res (PV × S)) : Prop := ∀ (s : S) (O bs : List Addr) (σ : St) (H : Hp) (Q : VK), Rel K cl O bs (ρs s) σ H → (∀ b, b ∈ bs → b ∈ O) →
  wp (m s) (fun r => ∀ v H', Gr (adr (ρs s) σ) H (adr (ρs s) σ) H' → Rel K cl O bs (ρs r.2) σ H' → adr (ρs r.2) σ = adr (ρs s) σ → Is K cl (frz H' (O ++ adr (ρs s) σ)) v r.1 → Q v H') (fun _ => False) → t σ H Q
def EffL {S : Type} (t : TA) (ρs : S → Ro) (m : S → Res (List PV × S)) : Prop := ∀ (s : S) (O bs : List Addr) (σ : St) (H : Hp) (Q : List V → Hp → Prop), Rel K cl O bs (ρs s) σ H → (∀ b, b ∈ bs → b ∈ O) →
  wp (m s) (fun r => ∀ vs H', Gr (adr (ρs s) σ) H (adr (ρs s) σ) H' → Rel K cl O bs (ρs r.2) σ H' → adr (ρs r.2) σ = adr (ρs s) σ → IsL K cl (frz H' (O ++ adr (ρs s) σ)) vs r.1 → Q vs H') (fun _ => False) → t σ H Q
def EffT {S : Type} (t : TT) (ρs : S → Ro) (m : S → Res (Bool × S)) : Prop := ∀ (s : S) (O bs : List Addr) (σ : St) (H : Hp) (Q : Bool → Hp → Prop), Rel K cl O bs (ρs s) σ H → (∀ b, b ∈ bs → b ∈ O) →
  wp (m s) (fun r => ∀ H', Gr (adr (ρs s) σ) H (adr (ρs s) σ) H' → Rel K cl O bs (ρs r.2) σ H' → adr (ρs r.2) σ = adr (ρs s) σ → Q r.1 H') (fun _ => False) → t σ H Q
def EffI {S : Type} (wi : TI) (ρs : S → Ro) (m : S → Res (List PV × S)) : Prop := ∀ (s : S) (O bs : List Addr) (σ : St) (H : Hp) (R : It → Hp → Prop), Rel K cl O bs (ρs s) σ H → (∀ b, b ∈ bs → b ∈ O) →
  wp (m s) (fun r => ∀ J H', Gr (adr (ρs s) σ) H (adr (ρs s) σ) H' → Rel K cl O bs (ρs r.2) σ H' → adr (ρs r.2) σ = adr (ρs s) σ → ItOk K cl (fun _ => True) (frz H' (O ++ adr (ρs s) σ)) J r.1 → R J H') (fun _ => False) → wi σ H R
/-- a def that is lent one list or dict, its first argument -/
def spR (mf : MO → List PV → Res (PV × MO)) : Sp := fun vs H Q _ => ∃ O b mo us ps, vs = .ref b :: us ∧ b ∈ O ∧ (∀ a, a ∈ O → ∃ o, H a = some o) ∧ MoIs K cl (frz H O) H b mo ∧ IsL K cl (frz H O) us ps ∧
  wp (mf mo ps) (fun r => ∀ v H', (∀ x o, x ≠ b → H x = some o → H' x = some o) → MoIs K cl (frz H' O) H' b r.2 → Is K cl (frz H' O) v r.1 → Q v H') (fun _ => False)
/-- a def that gives a new list or dict -/
def spN (mf : List PV → Res MO) : Sp := fun vs H Q _ => ∃ O ps, (∀ a, a ∈ O → ∃ o, H a = some o) ∧ IsL K cl (frz H O) vs ps ∧
  wp (mf ps) (fun mo => ∀ p H', Sub H H' → H p = none → MoIs K cl (frz H' (p :: O)) H' p mo → Q (.ref p) H') (fun _ => False)
end
section
variable {K : PySem.W.Frag} {cl : Str → Option Addr} {W : WX} {bs O A A1 B : List Addr} {F H H' H1 : Hp} {ρ ρ' ρx ρh : Ro} {σ : St} {S S1 S2 L : Type} {ρs : S → Ro} {ρn : S1 → Ro} {ρj : S2 → Ro} {ρl : L → Ro} {D : Ends} {t u v tb : TS} {te ta tc td : TE} {m : S → Res PV} {ma mb mc md : S → Res (PV × S)} {tr : TA} {ml mk : S → Res (List PV × S)}
theorem Gr.eq {A A' : List Addr} (g : Gr A H A H1) (e : A' = A) : Gr A H A' H1 := by rw [e]; exact g
theorem ef_pure (h : ∀ s, Pur K cl W te (ρs s) (m s)) : Eff K cl te ρs (fun s => noX (m s) >>= fun v => .val (v, s)) := fun s O bs σ H Q R hb q => by
  refine h s O bs σ H Q R (wp_mono (wp_noX (E' := fun _ => False) (wp_bind.mp q)) (fun r qr v H' s' i => ?_) fun _ z => z.elim)
  exact qr v H' (Gr.of s') (R.same s') rfl i
theorem ef_op {r : R2} {f : PV → PV → Res PV} (ho : Op2 K cl r f) (ha : Eff K cl ta ρs ma) (hb' : Eff K cl tc ρs mb) : Eff K cl (tOp r ta tc) ρs (fun s => ma s >>= fun x => mb x.2 >>= fun y => noX (f x.1 y.1) >>= fun z => .val (z, y.2)) := fun s O bs σ H Q R hb q => by
  refine ha s O bs σ H _ R hb (wp_mono (wp_bind.mp q) (fun x qx v1 H1 g1 R1 e1 i1 => ?_) fun _ z => z)
  refine hb' x.2 O bs σ H1 _ R1 hb (wp_mono (wp_bind.mp qx) (fun y qy v2 H2 g2 R2 e2 i2 => ?_) fun _ z => z)
  rw [e1] at g2 i2
  have i1' := i1.mono (g2.sub R1.al)
  have hA : ∀ a, a ∈ O ++ adr (ρs s) σ → ∃ o, H2 a = some o := fun a h => R2.got (by rw [e2, e1]; exact h)
  refine ho _ H2 v1 v2 x.1 y.1 _ (fun _ => False) hA (i1'.view frz_sub) (i2.view frz_sub) (wp_mono (wp_noX (E' := fun _ => False) (wp_bind.mp qy)) (fun z qz v H' s iz => ?_) fun _ z => z)
  exact qz v H' ((g1.trans g2).trans (Gr.of s)) (R2.same s) (e2.trans e1) iz
theorem ef_un {r : V → Hp → VK → Prop} {f : PV → Res PV} (ho : Op1 K cl r f) (ha : Eff K cl ta ρs ma) : Eff K cl (tUn r ta) ρs (fun s => ma s >>= fun x => noX (f x.1) >>= fun z => .val (z, x.2)) := fun s O bs σ H Q R hb q => by
  refine ha s O bs σ H _ R hb (wp_mono (wp_bind.mp q) (fun x qx v1 H1 g1 R1 e1 i1 => ?_) fun _ z => z)
  have hA : ∀ a, a ∈ O ++ adr (ρs s) σ → ∃ o, H1 a = some o := fun a h => R1.got (by rw [e1]; exact h)
  exact ho _ H1 v1 x.1 _ (fun _ => False) hA (i1.view frz_sub) (wp_mono (wp_noX (E' := fun _ => False) (wp_bind.mp qx)) (fun z qz v H' s iz => qz v H' (g1.trans (Gr.of s)) (R1.same s) e1 iz) fun _ z => z)
theorem ef_cb1 {r : List V → Hp → VK → Prop} {f : PV → Res PV} (ho : Bi1 K cl r f) (ha : Eff K cl ta ρs ma) : Eff K cl (tCB r (tCons ta tNil)) ρs (fun s => ma s >>= fun x => noX (f x.1) >>= fun z => .val (z, x.2)) := ef_un (r := fun x H Q => r [x] H Q) ho ha
theorem ef_cb2 {r : List V → Hp → VK → Prop} {f : PV → PV → Res PV} (ho : Bi2 K cl r f) (ha : Eff K cl ta ρs ma) (hb' : Eff K cl tc ρs mb) : Eff K cl (tCB r (tCons ta (tCons tc tNil))) ρs (fun s => ma s >>= fun x => mb x.2 >>= fun y => noX (f x.1 y.1) >>= fun z => .val (z, y.2)) :=
  ef_op (r := fun x y H Q => r [x, y] H Q) ho ha hb'
theorem el_nil : EffL K cl tNil ρs (fun s => .val ([], s)) := fun s O bs σ H Q R hb q => q [] H .refl R rfl .nil
theorem el_cons (ha : Eff K cl ta ρs ma) (hl : EffL K cl tr ρs ml) : EffL K cl (tCons ta tr) ρs (fun s => ma s >>= fun x => ml x.2 >>= fun xs => .val (x.1 :: xs.1, xs.2)) := fun s O bs σ H Q R hb q => by
  refine ha s O bs σ H _ R hb (wp_mono (wp_bind.mp q) (fun x qx v1 H1 g1 R1 e1 i1 => ?_) fun _ z => z)
  refine hl x.2 O bs σ H1 _ R1 hb (wp_mono (wp_bind.mp qx) (fun xs qs vs H2 g2 R2 e2 i2 => ?_) fun _ z => z)
  rw [e1] at g2 i2
  exact qs _ H2 (g1.trans g2) R2 (e2.trans e1) (.cons (i1.mono (g2.sub R1.al)) i2)
theorem ef_tup (hl : EffL K cl tr ρs ml) : Eff K cl (tTup tr) ρs (fun s => ml s >>= fun xs => mkT xs.1 >>= fun z => .val (z, xs.2)) := fun s O bs σ H Q R hb q => by
  refine hl s O bs σ H _ R hb (wp_mono (wp_bind.mp q) (fun ps qs vs H1 g1 R1 e1 i1 => ?_) fun _ z => z)
  obtain ⟨z, qs⟩ := wp_sized (wp_bind.mp (wp_bind.mp qs))
  have hA : ∀ a, a ∈ O ++ adr (ρs s) σ → ∃ o, H1 a = some o := fun a h => R1.got (by rw [e1]; exact h)
  refine ⟨by rw [i1.len]; exact z, fun p hp => qs _ _ (g1.trans (Gr.of (sub_new hp _))) (R1.same (sub_new hp _)) e1 (new_tup hA hp i1)⟩
theorem ef_lst (hl : EffL K cl tr ρs ml) : Eff K cl (tLst tr) ρs (fun s => ml s >>= fun xs => mkL xs.1 >>= fun z => .val (z, xs.2)) := fun s O bs σ H Q R hb q => by
  refine hl s O bs σ H _ R hb (wp_mono (wp_bind.mp q) (fun ps qs vs H1 g1 R1 e1 i1 => ?_) fun _ z => z)
  obtain ⟨z, qs⟩ := wp_sized (wp_bind.mp (wp_bind.mp qs))
  have hA : ∀ a, a ∈ O ++ adr (ρs s) σ → ∃ o, H1 a = some o := fun a h => R1.got (by rw [e1]; exact h)
  refine ⟨by rw [i1.len]; exact z, fun p hp => qs _ _ (g1.trans (Gr.of (sub_new hp _))) (R1.same (sub_new hp _)) e1 (new_lst hA hp i1)⟩
theorem et_pure {mt : S → Res Bool} {c : TT} (h : ∀ s, Tst K cl W c (ρs s) (mt s)) : EffT K cl c ρs (fun s => noX (mt s) >>= fun b => .val (b, s)) := fun s O bs σ H Q R hb q =>
  h s O bs σ H Q R (wp_mono (wp_noX (E' := fun _ => False) (wp_bind.mp q)) (fun r qr H' s' => qr H' (Gr.of s') (R.same s') rfl) fun _ z => z.elim)
theorem et_val (ha : Eff K cl ta ρs ma) : EffT K cl (tB ta) ρs (fun s => ma s >>= fun x => asB x.1 >>= fun b => .val (b, x.2)) := fun s O bs σ H Q R hb q => by
  refine ha s O bs σ H _ R hb (wp_mono (wp_bind.mp q) (fun x qx v1 H1 g1 R1 e1 i1 => ?_) fun _ z => z)
  obtain ⟨b, e, qb⟩ := wp_asB (wp_bind.mp qx)
  rw [e] at i1
  cases i1
  exact ⟨b, rfl, qb H1 g1 R1 e1⟩
theorem et_cmp (ha : Eff K cl ta ρs ma) : EffT K cl (tTest ta) ρs (fun s => ma s >>= fun x => asB x.1 >>= fun b => .val (b, x.2)) := fun s O bs σ H Q R hb q => by
  refine ha s O bs σ H _ R hb (wp_mono (wp_bind.mp q) (fun x qx v1 H1 g1 R1 e1 i1 => ?_) fun _ z => z)
  obtain ⟨b, e, qb⟩ := wp_asB (wp_bind.mp qx)
  rw [e] at i1
  cases i1
  exact ⟨b, rfl, qb H1 g1 R1 e1⟩
variable {c1 c2 : TT} {n1 n2 : S → Res (Bool × S)}
theorem et_and (h1 : EffT K cl c1 ρs n1) (h2 : EffT K cl c2 ρs n2) : EffT K cl (tAnd c1 c2) ρs (fun s => n1 s >>= fun b => if b.1 = true then n2 b.2 else .val (false, b.2)) := fun s O bs σ H Q R hb q => by
  refine h1 s O bs σ H _ R hb (wp_mono (wp_bind.mp q) (fun b qb H1 g1 R1 e1 => ?_) fun _ z => z)
  obtain ⟨b, s1⟩ := b
  cases b with
  | true => exact h2 s1 O bs σ H1 _ R1 hb (wp_mono qb (fun c qc H2 g2 R2 e2 => qc H2 (g1.trans (by rw [e1] at g2; exact g2)) R2 (e2.trans e1)) fun _ z => z)
  | false => exact qb H1 g1 R1 e1
theorem et_or (h1 : EffT K cl c1 ρs n1) (h2 : EffT K cl c2 ρs n2) : EffT K cl (tOr c1 c2) ρs (fun s => n1 s >>= fun b => if b.1 = true then .val (true, b.2) else n2 b.2) := fun s O bs σ H Q R hb q => by
  refine h1 s O bs σ H _ R hb (wp_mono (wp_bind.mp q) (fun b qb H1 g1 R1 e1 => ?_) fun _ z => z)
  obtain ⟨b, s1⟩ := b
  cases b with
  | false => exact h2 s1 O bs σ H1 _ R1 hb (wp_mono qb (fun c qc H2 g2 R2 e2 => qc H2 (g1.trans (by rw [e1] at g2; exact g2)) R2 (e2.trans e1)) fun _ z => z)
  | true => exact qb H1 g1 R1 e1
theorem et_not (h1 : EffT K cl c1 ρs n1) : EffT K cl (tNot c1) ρs (fun s => n1 s >>= fun b => .val (!b.1, b.2)) := fun s O bs σ H Q R hb q =>
  h1 s O bs σ H _ R hb (wp_mono (wp_bind.mp q) (fun _ qb H1 g1 R1 e1 => qb H1 g1 R1 e1) fun _ z => z)
theorem ef_if (h1 : EffT K cl c1 ρs n1) (ha : Eff K cl ta ρs ma) (hb' : Eff K cl tc ρs mb) : Eff K cl (tIf c1 ta tc) ρs (fun s => n1 s >>= fun b => if b.1 = true then ma b.2 else mb b.2) := fun s O bs σ H Q R hb q => by
  refine h1 s O bs σ H _ R hb (wp_mono (wp_bind.mp q) (fun b qb H1 g1 R1 e1 => ?_) fun _ z => z)
  obtain ⟨b, s1⟩ := b
  cases b with
  | true => exact ha s1 O bs σ H1 _ R1 hb (wp_mono qb (fun c qc v H2 g2 R2 e2 i => qc v H2 (g1.trans (by rw [e1] at g2; exact g2)) R2 (e2.trans e1) (by rw [e1] at i; exact i)) fun _ z => z)
  | false => exact hb' s1 O bs σ H1 _ R1 hb (wp_mono qb (fun c qc v H2 g2 R2 e2 i => qc v H2 (g1.trans (by rw [e1] at g2; exact g2)) R2 (e2.trans e1) (by rw [e1] at i; exact i)) fun _ z => z)
/-- a pure def, its arguments with effects -/
theorem ef_call {mf : List PV → Res PV} (hl : EffL K cl tr ρs ml) : Eff K cl (tCallS (spP K cl mf) (WE W) tr) ρs (fun s => ml s >>= fun xs => noX (mf xs.1) >>= fun z => .val (z, xs.2)) := fun s O bs σ H Q R hb q => by
  refine hl s O bs σ H _ R hb (wp_mono (wp_bind.mp q) (fun ps qs vs H1 g1 R1 e1 i1 => ?_) fun _ z => z)
  have hA : ∀ a, a ∈ O ++ adr (ρs s) σ → ∃ o, H1 a = some o := fun a h => R1.got (by rw [e1]; exact h)
  refine ⟨O ++ adr (ρs s) σ, ps.1, hA, i1, wp_mono (wp_noX (E' := fun _ => False) (wp_bind.mp qs)) (fun r qr v H' s i => qr v H' (g1.trans (Gr.of s)) (R1.same s) e1 i) fun _ z => z.elim⟩
/-- a def that is lent the list or dict at slot i -/
theorem ef_callR {mf : MO → List PV → Res (PV × MO)} {i : Nat} {sl : S → Slot} {get : S → MO} {put : S → MO → Res S} (hi : ∀ s, (ρs s)[i]? = some (sl s)) (hs : ∀ s, sl s = .ow (get s) ∨ ∃ k, sl s = .rf k (get s)) (hp : ∀ s mo s', put s mo = .val s' → (ρs s).set i (reSl (sl s) mo) = ρs s') (hl : EffL K cl tr ρs ml) :
    Eff K cl (tCallS (spR K cl mf) (WE W) (tCons (tVar i) tr)) ρs (fun s => ml s >>= fun xs => mf (get xs.2) xs.1 >>= fun r => put xs.2 r.2 >>= fun s' => .val (r.1, s')) := fun s O bs σ H Q R hb q => by
  have ha : ∃ a, σ[i]? = some (some (.ref a)) := by
    obtain ⟨x, e, q⟩ := R.sl.get (hi s)
    rcases hs s with h | ⟨k, h⟩
    · rw [h] at q; obtain ⟨a, rfl, _⟩ := q; exact ⟨a, e⟩
    · rw [h] at q; obtain ⟨a, rfl, _⟩ := q; exact ⟨a, e⟩
  obtain ⟨a, ha⟩ := ha
  refine ⟨_, ha, hl s O bs σ H _ R hb (wp_mono (wp_bind.mp q) (fun ps qs vs H1 g1 R1 e1 i1 => ?_) fun _ z => z)⟩
  have hm : MoIs K cl (frz H1 (O ++ adr (ρs ps.2) σ)) H1 a (get ps.2) := by
    obtain ⟨x, e, q⟩ := R1.sl.get (hi ps.2)
    rw [ha] at e
    cases e
    rcases hs ps.2 with h | ⟨k, h⟩
    · rw [h] at q; obtain ⟨b, e, q⟩ := q; cases e; exact q
    · rw [h] at q; obtain ⟨b, e, _, q⟩ := q; cases e; exact q
  have ma : a ∈ adr (ρs ps.2) σ := adr_at (hi ps.2) ha ((hs ps.2).imp (fun h => ⟨_, h⟩) fun ⟨k, h⟩ => ⟨k, _, h⟩)
  rw [e1] at hm ma
  have hA : ∀ a, a ∈ O ++ adr (ρs s) σ → ∃ o, H1 a = some o := fun a h => R1.got (by rw [e1]; exact h)
  refine ⟨O ++ adr (ρs s) σ, a, get ps.2, vs, ps.1, rfl, List.mem_append_right _ ma, hA, hm, i1, wp_mono (wp_bind.mp qs) (fun r qr v H' hk hmo iv => ?_) fun _ z => z⟩
  obtain ⟨R2, g2⟩ := R1.putH (H2 := H') (m' := r.2) hk (MoIs.got hmo) (hi ps.2) (hs ps.2) ha (by rw [e1]; exact hmo)
  have e2 : adr ((ρs ps.2).set i (reSl (sl ps.2) r.2)) σ = adr (ρs ps.2) σ := (adr_re (hi ps.2)).1
  rw [e2, e1] at g2
  cases hpu : put ps.2 r.2 with
  | val s' =>
    rw [hp _ _ _ hpu] at R2 e2
    have qr := wp_bind.mp qr
    rw [hpu] at qr
    have qr' : ∀ v H', Gr (adr (ρs s) σ) H (adr (ρs s) σ) H' → Rel K cl O bs (ρs s') σ H' → adr (ρs s') σ = adr (ρs s) σ → Is K cl (frz H' (O ++ adr (ρs s) σ)) v r.1 → Q v H' := qr
    exact qr' v H' (g1.trans g2) R2 (e2.trans e1) iv
  | exc c =>
    have qr := wp_bind.mp qr
    rw [hpu] at qr
    exact qr.elim
  | stuck =>
    have qr := wp_bind.mp qr
    rw [hpu] at qr
    exact qr.elim
/-! iterators with effects -/
theorem ei_rng1 (ha : Eff K cl ta ρs ma) : EffI K cl (iRng1 (tCons ta tNil)) ρs (fun s => ma s >>= fun x => rng1 x.1 >>= fun z => .val (z, x.2)) := fun s O bs σ H Rr R hb q => by
  refine ha s O bs σ H _ R hb (wp_mono (wp_bind.mp q) (fun x w v H' g1 R1 e1 i => ?_) fun _ z => z)
  have w := wp_bind.mp w
  unfold rng1 at w
  split at w
  · next j e =>
    rw [e] at i
    cases i
    split at w
    · next c => exact ⟨j, rfl, c.1, c.2, w _ H' g1 R1 e1 (itOk_rng (by rw [rng_len, Int.sub_zero]) fun i p h => by have := rng_get h; rwa [Int.sub_zero] at this)⟩
    · exact w.elim
  · exact w.elim
theorem ei_pure {wi : TI} {mi : S → Res (List PV)} (h : ∀ s, Iter K cl W wi (ρs s) (mi s)) : EffI K cl wi ρs (fun s => noX (mi s) >>= fun z => .val (z, s)) := fun s O bs σ H Rr R hb q =>
  h s O bs σ H Rr R (wp_mono (wp_noX (E' := fun _ => False) (wp_bind.mp q)) (fun r qr J H' s' i => qr J H' (Gr.of s') (R.same s') rfl i) fun _ z => z.elim)
theorem ei_seq (ha : Eff K cl te ρs ma) : EffI K cl (iSeqV K te) ρs (fun s => ma s >>= fun x => asSq x.1 >>= fun z => .val (z, x.2)) := fun s O bs σ H Rr R hb q => by
  have w := wp_bind.mp q
  cases hm : ma s with
  | stuck => rw [hm] at w; exact w.elim
  | exc c => rw [hm] at w; exact w.elim
  | val x =>
    rw [hm] at w
    have w := wp_bind.mp (show wp (asSq x.1 >>= fun z => .val (z, x.2)) _ _ from w)
    obtain ⟨p, s1⟩ := x
    cases p with
    | tup ps =>
      refine .inr (ha s O bs σ H _ R hb ?_)
      rw [hm]
      refine wp_val.mpr fun v H' g1 R1 e1 i => ?_
      cases (show Is K cl (frz H' (O ++ adr (ρs s) σ)) v (.tup ps) from i) with
      | tup h l => exact ⟨_, rfl, ⟨_, frz_sub.sqT h⟩, w _ H' g1 R1 e1 ((itOk_tup (P := fun _ => True) (fun H _ sF => sF.sqT h) l).of fun H B _ sF => ⟨trivial, sF.trans frz_sub⟩)⟩
    | lst ps =>
      refine .inl (ha s O bs σ H _ R hb ?_)
      rw [hm]
      refine wp_val.mpr fun v H' g1 R1 e1 i => ?_
      cases (show Is K cl (frz H' (O ++ adr (ρs s) σ)) v (.lst ps) from i) with
      | lst h l => exact ⟨_, rfl, ⟨_, .inl (.inl (frz_sub _ _ h))⟩, w _ H' g1 R1 e1 ((itOk_list (P := fun _ => True) (fun H _ sF => .inl (.inl (sF _ _ h))) l).of fun H B _ sF => ⟨trivial, sF.trans frz_sub⟩)⟩
    | fls ps =>
      refine .inl (ha s O bs σ H _ R hb ?_)
      rw [hm]
      refine wp_val.mpr fun v H' g1 R1 e1 i => ?_
      cases (show Is K cl (frz H' (O ++ adr (ρs s) σ)) v (.fls ps) from i) with
      | fls h l => exact ⟨_, rfl, ⟨_, frz_sub.sqL h⟩, w _ H' g1 R1 e1 ((itOk_list (P := fun _ => True) (fun H _ sF => sF.sqL h) l).of fun H B _ sF => ⟨trivial, sF.trans frz_sub⟩)⟩
    | _ => exact w.elim
/-! statements with effects -/
variable {s0 : S}
theorem Wk.of_eq {ρ ρ' : Ro} (e : ρ = ρ') : Wk ρ ρ' := by rw [e]; exact Wk.refl _
theorem run_setE {i : Nat} {n : PV → S → Res (Fl S1 L)} (he : Eff K cl te ρs ma) (e0 : ρs s0 = ρ) (hn : ∀ s, nad (ρs s) i = true) (h : ∀ x s, Runs K cl W u ((ρs s).set i (.fz x)) (n x s) ρn ρl ρx) :
    Runs K cl W (tSeq (tAsg te (gName i)) u) ρ (noX (ma s0) >>= fun r => n r.1 r.2) ρn ρl ρx := fun O bs σ H D R hb q => by
  subst e0
  refine he s0 O bs σ H _ R hb (wp_mono (wp_noX (E' := fun _ => False) (wp_bind.mp q)) (fun x qx v H' g1 R1 e1 i1 => ?_) fun _ z => z)
  have g : Gr (adr (ρs s0) σ) H (adr ((ρs x.2).set i (.fz x.1)) (σ.set i (some v))) H' := by rw [adr_setn (hn _), e1]; exact g1
  exact h x.1 x.2 O bs _ H' D (R1.setfz (hn _) (by rw [e1]; exact i1)) hb (wp_mono qx (fun _ z => z.step g) fun _ z => z.step g)
theorem run_asgE {g : TG} {α : Type} {d : PV → Res α} {ρe : S → α → Ro} {n : α → S → Res (Fl S1 L)} (he : Eff K cl te ρs ma) (e0 : ρs s0 = ρ) (hg : ∀ s, TgtE K cl g [] (ρs s) d (ρe s)) (h : ∀ a s, Runs K cl W u (ρe s a) (n a s) ρn ρl ρx) :
    Runs K cl W (tSeq (tAsg te g) u) ρ (noX (ma s0) >>= fun r => d r.1 >>= fun a => n a r.2) ρn ρl ρx := fun O bs σ H D R hb q => by
  subst e0
  refine he s0 O bs σ H _ R hb (wp_mono (wp_noX (E' := fun _ => False) (wp_bind.mp q)) (fun x qx v H' g1 R1 e1 i1 => ?_) fun _ z => z)
  have g1' : Gr (adr (ρs s0) σ) H (adr (ρs x.2) σ) H' := by rw [e1]; exact g1
  refine hg x.2 x.1 O bs σ H' v _ (fun c => ExOk K cl W O bs ρx (adr (ρs s0) σ) H c) R1 (by show Is K cl (frz H' (O ++ adr (ρs x.2) σ)) v x.1; rw [e1]; exact i1) (wp_mono (wp_bind.mp qx) (fun a qa σ2 R2 e2 _ => ?_) fun _ z => z)
  have gr : Gr (adr (ρs s0) σ) H (adr (ρe x.2 a) σ2) H' := by
    have e2' : adr (ρe x.2 a) σ2 = adr (ρs x.2) σ := e2
    rw [e2']; exact g1'
  exact h a x.2 O bs σ2 H' D R2 hb (wp_mono qa (fun _ z => z.step gr) fun _ z => z.step gr)
theorem run_retE {r : S → List MO} (he : Eff K cl te ρs ma) (e0 : ρs s0 = ρ) (hr : ∀ s, rfB 0 (ρs s) = true) (e : ∀ s, brs (ρs s) = r s) : Runs (S := S1) K cl W (tSeq (tRet te) u) ρ (noX (ma s0) >>= fun x => .val (.rt x.1 (r x.2))) ρn ρl ρx := fun O bs σ H D R hb q => by
  subst e0
  refine he s0 O bs σ H _ R hb (wp_mono (wp_noX (E' := fun _ => False) (wp_bind.mp q)) (fun x qx v H' g1 R1 e1 i1 => ?_) fun _ z => z)
  exact qx v H' ⟨g1.1, fun _ z => by cases z⟩ (i1.mono (frz_less fun a ha => List.mem_append_left _ ha)) fun k b mo h1 h2 => R1.byref (hr _) h1 (by rw [e]; exact h2)
theorem run_ifE {c : TT} {mt : S → Res (Bool × S)} {M1 M2 : S → Res (Fl S1 L)} (hc : EffT K cl c ρs mt) (e0 : ρs s0 = ρ) (h1 : ∀ s, Runs K cl W (tSeq t u) (ρs s) (M1 s) ρn ρl ρx) (h2 : ∀ s, Runs K cl W (tSeq v u) (ρs s) (M2 s) ρn ρl ρx) :
    Runs K cl W (tSeq (tIfS c t v) u) ρ (noX (mt s0) >>= fun b => if b.1 = true then M1 b.2 else M2 b.2) ρn ρl ρx := fun O bs σ H D R hb q => by
  subst e0
  refine hc s0 O bs σ H _ R hb (wp_mono (wp_noX (E' := fun _ => False) (wp_bind.mp q)) (fun x qx H' g1 R1 e1 => ?_) fun _ z => z)
  have g : Gr (adr (ρs s0) σ) H (adr (ρs x.2) σ) H' := by rw [e1]; exact g1
  obtain ⟨b, s1⟩ := x
  cases b with
  | true => exact h1 s1 O bs σ H' D R1 hb (wp_mono qx (fun _ z => z.step g) fun _ z => z.step g)
  | false => exact h2 s1 O bs σ H' D R1 hb (wp_mono qx (fun _ z => z.step g) fun _ z => z.step g)
/-- a call as a statement -/
theorem run_exprE {n : S → Res (Fl S1 L)} (he : Eff K cl te ρs ma) (e0 : ρs s0 = ρ) (h : ∀ s, Runs K cl W u (ρs s) (n s) ρn ρl ρx) : Runs K cl W (tSeq (tDrop te) u) ρ (noX (ma s0) >>= fun r => n r.2) ρn ρl ρx := fun O bs σ H D R hb q => by
  subst e0
  refine he s0 O bs σ H _ R hb (wp_mono (wp_noX (E' := fun _ => False) (wp_bind.mp q)) (fun x qx v H' g1 R1 e1 i1 => ?_) fun _ z => z)
  have g : Gr (adr (ρs s0) σ) H (adr (ρs x.2) σ) H' := by rw [e1]; exact g1
  exact h x.2 O bs σ H' D R1 hb (wp_mono qx (fun _ z => z.step g) fun _ z => z.step g)
theorem run_expr {m0 : Res PV} {n : Res (Fl S1 L)} (he : Pur K cl W te ρ m0) (w : Wk ρ ρx) (h : Runs K cl W u ρ n ρn ρl ρx) : Runs K cl W (tSeq (tDrop te) u) ρ (m0 >>= fun _ => n) ρn ρl ρx := fun O bs σ H D R hb q => by
  refine he O bs σ H _ R (wp_mono (wp_bind.mp q) (fun x qx v H' s ix => ?_) fun _ z => z.xw R w)
  exact h O bs σ H' D (R.same s) hb (wp_mono qx (fun _ z => z.step (Gr.of s)) fun _ z => z.step (Gr.of s))
theorem run_appendE {i : Nat} {sl : S → Slot} {get : S → List PV} {n : S → PV → Res (Fl S1 L)} (hi : ∀ s, (ρs s)[i]? = some (sl s)) (hs : ∀ s, sl s = .ow (.lst (get s)) ∨ ∃ k, sl s = .rf k (.lst (get s))) (he : Eff K cl te ρs ma) (e0 : ρs s0 = ρ) (h : ∀ s x, Runs K cl W u ((ρs s).set i (reSl (sl s) (.lst (get s ++ [x])))) (n s x) ρn ρl ρx) :
    Runs K cl W (tSeq (tDrop (tBM K "list" rAppend (tVar i) (tCons te tNil))) u) ρ (noX (ma s0) >>= fun r => sized ((get r.2).length + 1) >>= fun _ => n r.2 r.1) ρn ρl ρx := fun O bs σ H D R hb q => by
  subst e0
  have got : ∀ s' H', Rel K cl O bs (ρs s') σ H' → ∃ a vs, σ[i]? = some (some (.ref a)) ∧ H' a = some (.lst vs) ∧ IsL K cl (frz H' (O ++ adr (ρs s') σ)) vs (get s') := fun s' H' R => by
    obtain ⟨x, e, q⟩ := R.sl.get (hi s')
    rcases hs s' with h | ⟨k, h⟩
    · rw [h] at q; obtain ⟨a, rfl, vs, h1, h2⟩ := q; exact ⟨a, vs, e, h1, h2⟩
    · rw [h] at q; obtain ⟨a, rfl, _, vs, h1, h2⟩ := q; exact ⟨a, vs, e, h1, h2⟩
  obtain ⟨a, vs, ha, hv, hl⟩ := got _ _ R
  refine ⟨_, ha, .inl ⟨rfl, _, .inl (.inl hv)⟩, he s0 O bs σ H _ R hb (wp_mono (wp_noX (E' := fun _ => False) (wp_bind.mp q)) (fun x qx v H' g1 R1 e1 i1 => ?_) fun _ z => z)⟩
  obtain ⟨hz, qx⟩ := wp_sized (wp_bind.mp qx)
  obtain ⟨a', vs', ha', hv', hl'⟩ := got _ _ R1
  rw [ha] at ha'
  cases ha'
  obtain ⟨R2, g2⟩ := R1.put (m' := .lst (get x.2 ++ [x.1])) (o := .lst (vs' ++ [v])) (hi x.2) (hs x.2) ha ⟨_, upd_same, hl'.append (.one (by rw [e1]; exact i1))⟩
  have g : Gr (adr (ρs s0) σ) H _ _ := (show Gr (adr (ρs s0) σ) H (adr (ρs x.2) σ) H' by rw [e1]; exact g1).trans g2
  refine ⟨a, vs', v, rfl, rfl, hv', by rw [hl'.len]; omega, ?_⟩
  exact h x.2 x.1 O bs σ _ D R2 hb (wp_mono qx (fun _ z => z.step g) fun _ z => z.step g)
theorem run_setitemE {i : Nat} {sl : S → Slot} {get : S → List PV} {n : S → List PV → Res (Fl S1 L)} (hi : ∀ s, (ρs s)[i]? = some (sl s)) (hs : ∀ s, sl s = .ow (.lst (get s)) ∨ ∃ k, sl s = .rf k (.lst (get s))) (he : Eff K cl te ρs ma) (hk : Eff K cl ta ρs mb) (e0 : ρs s0 = ρ) (h : ∀ s qs, Runs K cl W u ((ρs s).set i (reSl (sl s) (.lst qs))) (n s qs) ρn ρl ρx) :
    Runs K cl W (tSeq (tAsg te (gSub (tVar i) ta rSetL)) u) ρ (noX (ma s0) >>= fun r => noX (mb r.2) >>= fun k => setL (get k.2) k.1 r.1 >>= n k.2) ρn ρl ρx := fun O bs σ H D R hb q => by
  subst e0
  have got : ∀ s' H', Rel K cl O bs (ρs s') σ H' → ∃ a vs, σ[i]? = some (some (.ref a)) ∧ H' a = some (.lst vs) ∧ IsL K cl (frz H' (O ++ adr (ρs s') σ)) vs (get s') := fun s' H' R => by
    obtain ⟨x, e, q⟩ := R.sl.get (hi s')
    rcases hs s' with h | ⟨k, h⟩
    · rw [h] at q; obtain ⟨a, rfl, vs, h1, h2⟩ := q; exact ⟨a, vs, e, h1, h2⟩
    · rw [h] at q; obtain ⟨a, rfl, _, vs, h1, h2⟩ := q; exact ⟨a, vs, e, h1, h2⟩
  obtain ⟨a, _, ha, _⟩ := got _ _ R
  refine he s0 O bs σ H _ R hb (wp_mono (wp_noX (E' := fun _ => False) (wp_bind.mp q)) (fun x qx v H1 g1 R1 e1 i1 => ?_) fun _ z => z)
  refine ⟨_, ha, hk x.2 O bs σ H1 _ R1 hb (wp_mono (wp_noX (E' := fun _ => False) (wp_bind.mp qx)) (fun k qk v2 H2 g2 R2 e2 i2 => ?_) fun _ z => z)⟩
  obtain ⟨a', vs, ha', hv, hl⟩ := got _ _ R2
  rw [ha] at ha'
  cases ha'
  have g1' : Gr (adr (ρs s0) σ) H (adr (ρs x.2) σ) H1 := by rw [e1]; exact g1
  have g2' : Gr (adr (ρs x.2) σ) H1 (adr (ρs k.2) σ) H2 := by rw [e2]; exact g2
  have ix : Is K cl (frz H2 (O ++ adr (ρs k.2) σ)) v x.1 := by
    rw [e2, e1]
    rw [e1] at g2
    exact i1.mono (g2.sub R1.al)
  have qk := wp_bind.mp qk
  unfold setL at qk
  split at qk
  · next k0 hk0 =>
    rw [hk0] at i2
    cases i2
    split at qk
    · next j hj =>
      obtain ⟨R3, g3⟩ := R2.put (m' := .lst ((get k.2).set j x.1)) (o := .lst (vs.set j v)) (hi k.2) (hs k.2) ha ⟨_, upd_same, IsL.set ix j hl⟩
      have g := (g1'.trans g2').trans g3
      exact ⟨a, vs, _, j, rfl, rfl, hv, by rw [hl.len]; exact hj, h k.2 _ O bs σ _ D R3 hb (wp_mono qk (fun _ z => z.step g) fun _ z => z.step g)⟩
    · exact qk.elim
  · exact qk.elim
theorem run_forE {wi : TI} {g : TG} {mi : S → Res (List PV × S)} {α : Type} {d : PV → Res α} {ρs' : S1 → Ro} {ρe : S1 → α → Ro} {st : S → S1} {body : α → S1 → Res (Fl S1 S1)} (hi : EffI K cl wi ρs mi) (e0 : ρs s0 = ρ) (w0 : ∀ s, Wk (ρs s) (ρs' (st s))) (hg : ∀ s, TgtE K cl g [] (ρs' s) d (ρe s))
    (hb : ∀ a s, Runs K cl W tb (ρe s a) (body a s) ρs' ρs' ρx) : Runs K cl W (tFor wi g tb) ρ (noX (mi s0) >>= fun r => forF (fun x s => d x >>= fun a => body a s) r.1 (st r.2)) ρs' ρl ρx := fun O bs σ H D R hbs q => by
  subst e0
  refine hi s0 O bs σ H _ R hbs (wp_mono (wp_noX (E' := fun _ => False) (wp_bind.mp q)) (fun r qp J H1 g0 R1 e1 hJ => ?_) fun _ z => z)
  obtain ⟨ps, s1⟩ := r
  have g1 : Gr (adr (ρs s0) σ) H (adr (ρs' (st s1)) σ) H1 := (show Gr (adr (ρs s0) σ) H (adr (ρs s1) σ) H1 by rw [e1]; exact g0).trans (Gr.wk (w0 s1))
  have hJ' : ItOk K cl (fun _ => True) (frz H1 (O ++ adr (ρs s1) σ)) J ps := by rw [e1]; exact hJ
  have sF0 : Sub (frz H1 (O ++ adr (ρs s1) σ)) (frz H1 (O ++ adr (ρs' (st s1)) σ)) := Gr.sub (Gr.wk (w0 s1)) R1.al
  refine ⟨fun i mm σ' H' => mm = ps.length - i ∧ i ≤ ps.length ∧ ∃ s, Rel K cl O bs (ρs' s) σ' H' ∧ Gr (adr (ρs s0) σ) H (adr (ρs' s) σ') H' ∧ Sub (frz H1 (O ++ adr (ρs s1) σ)) (frz H' (O ++ adr (ρs' s) σ')) ∧
      wp (forF (L := L) (fun x s => d x >>= fun a => body a s) (ps.drop i) s) (FlOk K cl O bs ρs' ρl D (adr (ρs s0) σ) H) (ExOk K cl W O bs ρx (adr (ρs s0) σ) H),
    ⟨_, rfl, Nat.zero_le _, st s1, R1.wk (w0 s1), g1, sF0, by rw [List.drop_zero]; exact qp⟩, ?_⟩
  rintro i mm σ' H' ⟨rfl, hle, s, R', g', sF, qw⟩
  obtain ⟨hs, hg'⟩ := hJ' H' _ trivial sF (fun a ha => R'.got ha)
  by_cases c : i = ps.length
  · subst c
    rw [List.drop_length] at qw
    exact .inl ⟨hs, qw σ' H' g' R'⟩
  · have hlt : i < ps.length := by omega
    obtain ⟨hgo, hy⟩ := hg' i _ (List.getElem?_eq_getElem hlt)
    rw [List.drop_eq_getElem_cons hlt] at qw
    refine .inr ⟨hgo, fun σ2 H2 => ∃ s', Rel K cl O bs (ρs' s') σ2 H2 ∧ Gr (adr (ρs s0) σ) H (adr (ρs' s') σ2) H2 ∧ Sub (frz H1 (O ++ adr (ρs s1) σ)) (frz H2 (O ++ adr (ρs' s') σ2)) ∧ wp (forF (L := L) (fun x s => d x >>= fun a => body a s) (ps.drop (i + 1)) s') (FlOk K cl O bs ρs' ρl D (adr (ρs s0) σ) H) (ExOk K cl W O bs ρx (adr (ρs s0) σ) H),
      fun σ2 H2 ⟨s', z⟩ => ⟨_, by omega, rfl, by omega, s', z⟩, fun x H2 hyx => ?_⟩
    obtain ⟨s2, ix⟩ := hy x H2 hyx
    have R2 := R'.same s2
    have qw := wp_bind.mp (wp_bind.mp qw)
    refine hg s ps[i] O bs σ' H2 x _ _ R2 ix (wp_mono qw (fun a qa σ3 R3 e3 _ => ?_) fun _ z => z)
    have g3 : Gr (adr (ρs s0) σ) H (adr (ρe s a) σ3) H2 := by rw [e3]; exact g'.trans (Gr.of s2)
    have sF3 : Sub (frz H1 (O ++ adr (ρs s1) σ)) (frz H2 (O ++ adr (ρe s a) σ3)) := by rw [e3]; exact sF.trans (frz_same s2)
    refine hb a s O bs σ3 H2 _ R3 hbs (wp_mono qa (fun f qf => ?_) fun _ z => z.step g3)
    cases f with
    | nx s' => exact fun σ4 H4 g4 R4 => ⟨s', R4, g3.trans g4, sF3.trans (g4.sub R3.al), qf⟩
    | ct s' => exact fun σ4 H4 g4 R4 => ⟨s', R4, g3.trans g4, sF3.trans (g4.sub R3.al), qf⟩
    | bk s' => exact fun σ4 H4 g4 R4 => qf σ4 H4 (g3.trans g4) R4
    | rt v r => exact FlOk.step (f := Fl.rt v r) qf g3
    | ro mo => exact FlOk.step (f := Fl.ro mo) qf g3
/-! a comprehension whose parts have effects -/
def lcE {S α : Type} (d : PV → Res α) (c : α → S → Res (Bool × S)) (e : α → S → Res (PV × S)) : List PV → S → Res (List PV × S)
  | [], s => .val ([], s)
  | x :: xs, s => noX (d x) >>= fun a => c a s >>= fun b => if b.1 = true then e a b.2 >>= fun y => lcE d c e xs y.2 >>= fun ys => .val (y.1 :: ys.1, ys.2) else lcE d c e xs b.2
theorem et_yes : EffT K cl tYes ρs (fun s => .val (true, s)) := fun s O bs σ H Q R hb q => q H .refl R rfl
def unB : Ro → Nat → Bool
  | [], _ => true
  | .un :: _, 0 => true
  | _ :: _, 0 => false
  | _ :: ρ, i + 1 => unB ρ i
def unsB (ρ : Ro) (vs : List Nat) : Bool := vs.all fun i => unB ρ i
theorem adr_un : ∀ {ρ : Ro} {σ : St} {i : Nat} {x : Option V}, unB ρ i = true → adr ρ (σ.set i x) = adr ρ σ ∧ owa ρ (σ.set i x) = owa ρ σ
  | [], σ, i, x, _ => by
    cases σ with
    | nil => exact ⟨rfl, rfl⟩
    | cons y σ => cases i <;> exact ⟨rfl, rfl⟩
  | s :: ρ, [], i, x, h => ⟨rfl, rfl⟩
  | s :: ρ, y :: σ, 0, x, h => by cases s <;> first | exact ⟨rfl, rfl⟩ | cases h
  | s :: ρ, y :: σ, i + 1, x, h => by
    have ih := adr_un (ρ := ρ) (σ := σ) (i := i) (x := x) (by cases s <;> exact h)
    show adr (s :: ρ) (y :: σ.set i x) = adr (s :: ρ) (y :: σ) ∧ owa (s :: ρ) (y :: σ.set i x) = owa (s :: ρ) (y :: σ)
    cases s with
    | un => exact ih
    | fz q => exact ih
    | ow m => cases y with
      | none => exact ih
      | some v => cases v <;> first | exact ih | exact ⟨congrArg (_ :: ·) ih.1, congrArg (_ :: ·) ih.2⟩
    | rf k m => cases y with
      | none => exact ih
      | some v => cases v <;> first | exact ih | exact ⟨congrArg (_ :: ·) ih.1, ih.2⟩
theorem rels_un : ∀ {ρ : Ro} {σ : St} {i : Nat} {x : Option V} {F H : Hp}, unB ρ i = true → (RelS K cl bs F H ρ (σ.set i x) ↔ RelS K cl bs F H ρ σ)
  | [], σ, i, x, F, H, _ => by
    cases σ with
    | nil => exact Iff.rfl
    | cons y σ => cases i <;> exact ⟨(fun h => nomatch h), (fun h => nomatch h)⟩
  | s :: ρ, [], i, x, F, H, h => Iff.rfl
  | s :: ρ, y :: σ, 0, x, F, H, h => by
    cases s with
    | un => exact ⟨fun q => by cases q with | cons a r => exact .cons trivial r, fun q => by cases q with | cons a r => exact .cons trivial r⟩
    | _ => cases h
  | s :: ρ, y :: σ, i + 1, x, F, H, h => by
    have ih := rels_un (ρ := ρ) (σ := σ) (i := i) (x := x) (F := F) (H := H) (by cases s <;> exact h)
    exact ⟨fun q => by cases q with | cons a r => exact .cons a (ih.mp r), fun q => by cases q with | cons a r => exact .cons a (ih.mpr r)⟩
theorem Rel.un1 {i : Nat} {x : Option V} (h : unB ρ i = true) : Rel K cl O bs ρ (σ.set i x) H ↔ Rel K cl O bs ρ σ H := by
  obtain ⟨e1, e2⟩ := adr_un (ρ := ρ) (σ := σ) (x := x) h
  constructor
  · rintro ⟨a, b, c, d⟩
    rw [e1] at a b
    rw [e2] at d
    exact ⟨(rels_un h).mp a, b, c, d⟩
  · rintro ⟨a, b, c, d⟩
    exact ⟨by rw [e1]; exact (rels_un h).mpr a, by rw [e1]; exact b, c, by rw [e2]; exact d⟩
theorem Rel.uns : ∀ {vs : List Nat}, unsB ρ vs = true → ((Rel K cl O bs ρ (L2.wipe σ vs) H ↔ Rel K cl O bs ρ σ H) ∧ adr ρ (L2.wipe σ vs) = adr ρ σ)
  | [], _ => ⟨Iff.rfl, rfl⟩
  | v :: vs, h => by
    have h' := Bool.and_eq_true_iff.mp (show (unB ρ v && unsB ρ vs) = true from h)
    obtain ⟨h1, h2⟩ := Rel.uns (vs := vs) h'.2
    exact ⟨(Rel.un1 (σ := L2.wipe σ vs) h'.1).trans h1, ((adr_un (σ := L2.wipe σ vs) h'.1).1).trans h2⟩
theorem Rel.narrow {a : Addr} (R : Rel K cl (a :: O) bs ρ σ H) : Rel K cl O bs ρ σ H :=
  ⟨R.sl.mono (frz_less fun b hb => List.mem_cons_of_mem _ hb) fun _ _ _ e => e, R.nd, fun b hb => R.al b (List.mem_cons_of_mem _ hb), fun b hb z => R.ow b hb (List.mem_cons_of_mem _ z)⟩
theorem ef_lc {wi : TI} {g : TG} {tt : TT} {vs : List Nat} {mi : S → Res (List PV × S)} {α : Type} {d : PV → Res α} {ρe : α → S → Ro} {mc : α → S → Res (Bool × S)} {me : α → S → Res (PV × S)} (hi : EffI K cl wi ρs mi) (hv : ∀ s, unsB (ρs s) vs = true) (hne : vs ≠ [])
    (hg : ∀ s, TgtE K cl g vs (ρs s) d (fun a => ρe a s)) (hw : ∀ a s, wipeR (ρe a s) vs = ρs s) (hv2 : ∀ a s, nads (ρe a s) vs = true) (ht : ∀ a, EffT K cl tt (ρe a) (mc a)) (he : ∀ a, Eff K cl te (ρe a) (me a)) :
    Eff K cl (tLc wi g tt te vs) ρs (fun s => mi s >>= fun ps => sized ps.1.length >>= fun _ => lcE d mc me ps.1 ps.2 >>= fun r => .val (.lst r.1, r.2)) := fun s O bs σ H Q R hb q => by
  refine hi s O bs σ H _ R hb (wp_mono (wp_bind.mp q) (fun r qp J H1 g1 R1 e1 hJ => ?_) fun _ z => z)
  obtain ⟨ps, s1⟩ := r
  obtain ⟨hz, qp⟩ := wp_sized (wp_bind.mp qp)
  replace hz : ps.length ≤ sizeLine := hz
  intro Da hD
  have qp := wp_bind.mp qp
  have Rw1 := (Rel.uns (σ := σ) (hv s1)).1.mpr R1
  have ew1 := (Rel.uns (K := K) (cl := cl) (O := O) (bs := bs) (H := H1) (σ := σ) (hv s1)).2
  have Rw0 := Rw1.wider (o := .lst []) hD
  have nDA : Da ∉ O ++ adr (ρs s) σ := fun z => by
    obtain ⟨u, e⟩ := R1.got (by rw [e1]; exact z)
    rw [hD] at e; cases e
  have hbD : ∀ b, b ∈ bs → b ∈ Da :: O := fun b h => List.mem_cons_of_mem _ (hb b h)
  refine ⟨fun i mm H2 => mm = ps.length - i ∧ i ≤ ps.length ∧ ∃ s2, (∀ x o, x ∉ adr (ρs s) σ → H1 x = some o → H2 x = some o) ∧ Rel K cl (Da :: O) bs (ρs s2) (wipe σ vs) H2 ∧ adr (ρs s2) (wipe σ vs) = adr (ρs s) σ ∧
      ∃ acc qs, H2 Da = some (.lst acc) ∧ acc.length ≤ i ∧ IsL K cl (frz H2 (Da :: (O ++ adr (ρs s) σ))) acc qs ∧
      wp (lcE d mc me (ps.drop i) s2) (fun r => ∀ v H', Gr (adr (ρs s) σ) H (adr (ρs s) σ) H' → Rel K cl O bs (ρs r.2) σ H' → adr (ρs r.2) σ = adr (ρs s) σ → Is K cl (frz H' (O ++ adr (ρs s) σ)) v (.lst (qs ++ r.1)) → Q v H') (fun _ => False),
    ⟨_, rfl, Nat.zero_le _, s1, fun x o _ e => sub_new hD _ x o e, Rw0, ew1.trans e1, [], [], upd_same, Nat.le_refl _, .nil, by rw [List.drop_zero]; exact wp_mono qp (fun r z => z) fun _ z => z⟩, ?_⟩
  rintro i mm H2 ⟨rfl, hle, s2, k2, R2, ew, acc, qs, ha, hal, hl, qw⟩
  have sF : Sub (frz H1 (O ++ adr (ρs s) σ)) (frz H2 (Da :: (O ++ adr (ρs s) σ))) := fun x u e => by
    obtain ⟨n, e⟩ := frz_some.mp e
    refine frz_some.mpr ⟨fun z => ?_, k2 _ _ (fun z => n (List.mem_append_right _ z)) e⟩
    rcases List.mem_cons.mp z with c | c
    · rw [c, hD] at e; cases e
    · exact n c
  have gotB : ∀ a, a ∈ Da :: (O ++ adr (ρs s) σ) → ∃ o, H2 a = some o := fun a z => R2.got (by rw [ew]; exact z)
  obtain ⟨hs, hgo⟩ := hJ H2 _ trivial sF gotB
  by_cases c : i = ps.length
  · subst c
    rw [List.drop_length] at qw
    obtain ⟨u1, u2⟩ := Rel.uns (K := K) (cl := cl) (O := O) (bs := bs) (H := H2) (σ := σ) (hv s2)
    refine .inl ⟨hs, qw (.ref Da) H2 ⟨fun x o n e => k2 x o n (g1.1 x o n e), fun x hx => .inl hx⟩ (u1.mp R2.narrow) (u2.symm.trans ew) ?_⟩
    rw [List.append_nil]
    exact .lst (frz_some.mpr ⟨nDA, ha⟩) (hl.mono (frz_less fun b hb => List.mem_cons_of_mem _ hb))
  · have hlt : i < ps.length := by omega
    obtain ⟨hgi, hy⟩ := hgo i _ (List.getElem?_eq_getElem hlt)
    rw [List.drop_eq_getElem_cons hlt] at qw
    refine .inr ⟨hgi, fun H3 => ∃ s2, (∀ x o, x ∉ adr (ρs s) σ → H1 x = some o → H3 x = some o) ∧ Rel K cl (Da :: O) bs (ρs s2) (wipe σ vs) H3 ∧ adr (ρs s2) (wipe σ vs) = adr (ρs s) σ ∧
      ∃ acc qs, H3 Da = some (.lst acc) ∧ acc.length ≤ i + 1 ∧ IsL K cl (frz H3 (Da :: (O ++ adr (ρs s) σ))) acc qs ∧
      wp (lcE d mc me (ps.drop (i + 1)) s2) (fun r => ∀ v H', Gr (adr (ρs s) σ) H (adr (ρs s) σ) H' → Rel K cl O bs (ρs r.2) σ H' → adr (ρs r.2) σ = adr (ρs s) σ → Is K cl (frz H' (O ++ adr (ρs s) σ)) v (.lst (qs ++ r.1)) → Q v H') (fun _ => False),
      fun H3 z => ⟨_, by omega, rfl, by omega, z⟩, fun x H3 hyx => ?_⟩
    obtain ⟨s3, ix⟩ := hy x H3 hyx
    have R3 := R2.same s3
    have qw := wp_bind.mp qw
    refine hg s2 ps[i] (Da :: O) bs σ H3 x _ _ R3 (by rw [ew]; exact ix) (wp_mono (wp_noX (E' := fun _ => False) qw) (fun a qa σ4 R4 e4 w4 => ?_) fun _ z => z)
    have e4s : adr (ρe a s2) σ4 = adr (ρs s) σ := e4.trans ew
    refine ⟨w4 hne, ht a s2 (Da :: O) bs σ4 H3 _ R4 hbD (wp_mono (wp_bind.mp qa) (fun b qb H5 g5 R5 e5 => ?_) fun _ z => z.elim)⟩
    obtain ⟨b, s5⟩ := b
    rw [e4s] at g5
    have e5s : adr (ρe a s5) σ4 = adr (ρs s) σ := e5.trans e4s
    have nD : Da ∉ adr (ρs s) σ := fun z => nDA (List.mem_append_right _ z)
    -- back to the comprehension's own frame
    have back : ∀ (s6 : S) (H6 : Hp), Rel K cl (Da :: O) bs (ρe a s6) σ4 H6 → adr (ρe a s6) σ4 = adr (ρs s) σ → Rel K cl (Da :: O) bs (ρs s6) (wipe σ vs) H6 ∧ adr (ρs s6) (wipe σ vs) = adr (ρs s) σ := fun s6 H6 R6 e6 => by
      obtain ⟨q1, q2⟩ := R6.wipe (hv2 a s6)
      rw [hw, w4 hne] at q1 q2
      exact ⟨q1, q2.trans e6⟩
    have k5 : ∀ x o, x ∉ adr (ρs s) σ → H1 x = some o → H5 x = some o := fun x o n e => g5.1 x o n (s3 _ _ (k2 x o n e))
    have ha5 : H5 Da = some (.lst acc) := g5.1 _ _ nD (s3 _ _ ha)
    have hA : ∀ a, a ∈ Da :: O → ∃ o, H3 a = some o := R3.al
    have fs5 : Sub (frz H2 (Da :: (O ++ adr (ρs s) σ))) (frz H5 (Da :: (O ++ adr (ρs s) σ))) := (frz_same s3).trans (Gr.sub (O := Da :: O) g5 hA)
    cases b with
    | false =>
      obtain ⟨b1, b2⟩ := back s5 H5 R5 e5s
      exact ⟨s5, k5, b1, b2, acc, qs, ha5, by omega, hl.mono fs5, qb⟩
    | true =>
      refine he a s5 (Da :: O) bs σ4 H5 _ R5 hbD (wp_mono (wp_bind.mp qb) (fun y qy vy H6 g6 R6 e6 iy => ?_) fun _ z => z.elim)
      rw [e5s] at g6 iy
      have e6s : adr (ρe a y.2) σ4 = adr (ρs s) σ := e6.trans e5s
      have ha6 : H6 Da = some (.lst acc) := g6.1 _ _ nD ha5
      have k6 : ∀ x o, x ∉ adr (ρs s) σ → H1 x = some o → H6 x = some o := fun x o n e => g6.1 x o n (k5 x o n e)
      have fs6 : Sub (frz H2 (Da :: (O ++ adr (ρs s) σ))) (frz H6 (Da :: (O ++ adr (ρs s) σ))) := fs5.trans (Gr.sub (O := Da :: O) g6 R5.al)
      obtain ⟨b1, b2⟩ := back y.2 H6 R6 e6s
      have keepD : ∀ x u, x ≠ Da → H6 x = some u → upd H6 Da (.lst (acc ++ [vy])) x = some u := fun x u n e => by rw [upd_ne n]; exact e
      have sD : Sub (frz H6 (Da :: (O ++ adr (ρs s) σ))) (frz (upd H6 Da (.lst (acc ++ [vy]))) (Da :: (O ++ adr (ρs s) σ))) := fun x u e => by
        obtain ⟨n, e⟩ := frz_some.mp e
        exact frz_some.mpr ⟨n, keepD x u (fun z => n (by rw [z]; exact List.mem_cons_self)) e⟩
      refine ⟨acc, ha6, by omega, y.2, fun x u n e => keepD x u (ne_of_none e hD) (k6 x u n e), b1.putO List.mem_cons_self (by rw [b2]; exact nD), b2, acc ++ [vy], qs ++ [y.1], upd_same, by rw [List.length_append, List.length_singleton]; omega, ((hl.mono fs6).append (.one iy)).mono sD, ?_⟩
      refine wp_mono (wp_bind.mp qy) (fun ys qys => ?_) fun _ z => z
      intro v H' h1 h2 h3 h4
      exact qys v H' h1 h2 h3 (by rw [List.append_assoc] at h4; exact h4)
end
/-! ### defs that are lent something, defs that give something new -/
def retR (M : Res (Fl MO Empty)) : Res (PV × MO) := M >>= fun f => match f with
  | .nx mo => .val (.non, mo)
  | .rt v [mo] => .val (v, mo)
  | .rt _ _ => .stuck
  | .ro _ => .stuck
def retN (M : Res (Fl Unit Empty)) : Res MO := M >>= fun f => match f with
  | .ro mo => .val mo
  | .nx _ => .stuck
  | .rt _ _ => .stuck
def apR0 (f : MO → Res (PV × MO)) : MO → List PV → Res (PV × MO)
  | mo, [] => f mo
  | _, _ => .stuck
def apR1 (f : MO → PV → Res (PV × MO)) : MO → List PV → Res (PV × MO)
  | mo, [a] => f mo a
  | _, _ => .stuck
def apR2 (f : MO → PV → PV → Res (PV × MO)) : MO → List PV → Res (PV × MO)
  | mo, [a, b] => f mo a b
  | _, _ => .stuck
def apR3 (f : MO → PV → PV → PV → Res (PV × MO)) : MO → List PV → Res (PV × MO)
  | mo, [a, b, c] => f mo a b c
  | _, _ => .stuck
def apR4 (f : MO → PV → PV → PV → PV → Res (PV × MO)) : MO → List PV → Res (PV × MO)
  | mo, [a, b, c, d] => f mo a b c d
  | _, _ => .stuck
def apR5 (f : MO → PV → PV → PV → PV → PV → Res (PV × MO)) : MO → List PV → Res (PV × MO)
  | mo, [a, b, c, d, e] => f mo a b c d e
  | _, _ => .stuck
def apN0 (f : Res MO) : List PV → Res MO
  | [] => f
  | _ => .stuck
def apN1 (f : PV → Res MO) : List PV → Res MO
  | [a] => f a
  | _ => .stuck
def apN2 (f : PV → PV → Res MO) : List PV → Res MO
  | [a, b] => f a b
  | _ => .stuck
def apN3 (f : PV → PV → PV → Res MO) : List PV → Res MO
  | [a, b, c] => f a b c
  | _ => .stuck
def TaknR (n : Nat) (mf : MO → List PV → Res (PV × MO)) : Prop := ∀ mo ps, ps.length ≠ n → mf mo ps = .stuck
def TaknN (n : Nat) (mf : List PV → Res MO) : Prop := ∀ ps, ps.length ≠ n → mf ps = .stuck
theorem taknR0 {f : MO → Res (PV × MO)} : TaknR 0 (apR0 f) := fun mo ps h => by
  unfold apR0; split
  · exact absurd rfl h
  · rfl
theorem taknR1 {f : MO → PV → Res (PV × MO)} : TaknR 1 (apR1 f) := fun mo ps h => by
  unfold apR1; split
  · exact absurd rfl h
  · rfl
theorem taknR2 {f : MO → PV → PV → Res (PV × MO)} : TaknR 2 (apR2 f) := fun mo ps h => by
  unfold apR2; split
  · exact absurd rfl h
  · rfl
theorem taknR3 {f : MO → PV → PV → PV → Res (PV × MO)} : TaknR 3 (apR3 f) := fun mo ps h => by
  unfold apR3; split
  · exact absurd rfl h
  · rfl
theorem taknR4 {f : MO → PV → PV → PV → PV → Res (PV × MO)} : TaknR 4 (apR4 f) := fun mo ps h => by
  unfold apR4; split
  · exact absurd rfl h
  · rfl
theorem taknR5 {f : MO → PV → PV → PV → PV → PV → Res (PV × MO)} : TaknR 5 (apR5 f) := fun mo ps h => by
  unfold apR5; split
  · exact absurd rfl h
  · rfl
theorem taknN1 {f : PV → Res MO} : TaknN 1 (apN1 f) := fun ps h => by
  unfold apN1; split
  · exact absurd rfl h
  · rfl
theorem taknN2 {f : PV → PV → Res MO} : TaknN 2 (apN2 f) := fun ps h => by
  unfold apN2; split
  · exact absurd rfl h
  · rfl
theorem taknN3 {f : PV → PV → PV → Res MO} : TaknN 3 (apN3 f) := fun ps h => by
  unfold apN3; split
  · exact absurd rfl h
  · rfl
section
variable {P : Program} {w : World} {K : PySem.W.Frag} {mg : Str → Option Value} {base : Heap} {cl : Str → Option Addr}
open PySem.Spec PyProof.Rows in
theorem fnR {x qual : Str} {st : Stmt} {f : Addr} {fd : FuncData} {N ps : List Str} {k n : Nat} {mf : MO → List PV → Res (PV × MO)} (F : Fun K x qual st f fd) (S : FnScope N ps (defScope st)) (hn : ps.length = n + 1) (tk : TaknR n mf)
    (h : ∀ (cdv : Value) (A : Around) (outer : List Env) (s : Shared) (H : Hp) (E : XK), Room k (A.deeper (envOfC qual (defScope st) s.heap.objs.size f cdv)) → ∀ (mo : MO) (qs : List PV), qs.length = n → mf mo qs = .stuck ∨
      ∃ t, PSs (cxOf (L2.CX P w) P w K mg base N qual (defScope st) f cdv A outer s H E) (defBody st) t ∧ ∃ M, Runs K cl (fun c d _ H' => E c d H') t (.rf 0 mo :: (qs.map Slot.fz ++ uns (N.length - (n + 1)))) M (fun mo : MO => .rf 0 mo :: uns (N.length - 1)) (fun l : Empty => nomatch l) (uns N.length) ∧ mf mo qs = retR M) :
    FnOk P w K mg base (L2.CX P w) (k + 1) f fd ps (spR K cl mf) := by
  have len : ∀ vs H Q E, spR K cl mf vs H Q E → vs.length = n + 1 := fun vs H Q E ⟨O, b, mo, us, qs, e, hb, hO, hm, hl, hw⟩ => by
    rw [e, List.length_cons, hl.len]
    refine Classical.byContradiction fun c => ?_
    rw [tk mo qs (by omega)] at hw
    exact hw
  refine F.okX S (fun vs H Q E h => (len vs H Q E h).trans hn.symm) (fun cdv A outer s H vs Q E hr hsp => ?_)
  have hvn := len vs H Q E hsp
  obtain ⟨O, b, mo, us, qs, rfl, hb, hO, hm, hl, hw⟩ := hsp
  have hun : us.length = n := by rw [List.length_cons] at hvn; omega
  have hqn : qs.length = n := by rw [← hl.len]; exact hun
  rcases h cdv A outer s H E hr mo qs hqn with e | ⟨t, ht, M, hM, e⟩
  · rw [e] at hw; exact hw.elim
  refine ⟨t, ht, ?_⟩
  rw [e] at hw
  have st0 : L2.start N (V.ref b :: us) = some (V.ref b) :: (us.map some ++ List.replicate (N.length - (n + 1)) none) := by
    unfold L2.start
    rw [List.length_cons, hun]
    rfl
  rw [st0]
  have ea : adr (.rf 0 mo :: (qs.map Slot.fz ++ uns (N.length - (n + 1)))) (some (V.ref b) :: (us.map some ++ List.replicate (N.length - (n + 1)) none)) = [b] := congrArg (b :: ·) (fz_adr _ _ _)
  have eo : owa (.rf 0 mo :: (qs.map Slot.fz ++ uns (N.length - (n + 1)))) (some (V.ref b) :: (us.map some ++ List.replicate (N.length - (n + 1)) none)) = [] := fz_owa _ _ _
  have sO : Sub (frz H O) (frz H (O ++ [b])) := frz_less fun a ha => by
    rcases List.mem_append.mp ha with c | c
    · exact c
    · have : a = b := by simpa using c
      rw [this]; exact hb
  have R : Rel K cl O [b] (.rf 0 mo :: (qs.map Slot.fz ++ uns (N.length - (n + 1)))) (some (V.ref b) :: (us.map some ++ List.replicate (N.length - (n + 1)) none)) H := by
    refine ⟨?_, by rw [ea]; simp, hO, by rw [eo]; exact fun _ z => nomatch z⟩
    rw [ea]
    refine .cons ⟨b, rfl, rfl, hm.mono sO fun _ e => e⟩ ?_
    have q := fz_rel (K := K) (cl := cl) (H := H) (N.length - (n + 1)) (hl.mono sO)
    have lift : ∀ {ρ : Ro} {σ : L2.St} {F H : Hp}, RelS K cl [] F H ρ σ → (∀ s ∈ ρ, (∃ p, s = .fz p) ∨ s = .un) → RelS K cl [b] F H ρ σ := fun {ρ σ F H} r => by
      induction r with
      | nil => exact fun _ => .nil
      | cons a r ih =>
        intro hs
        refine .cons ?_ (ih fun s h => hs s (List.mem_cons_of_mem _ h))
        rcases hs _ List.mem_cons_self with ⟨p, rfl⟩ | rfl
        · exact a
        · exact trivial
    refine lift q fun s hs => ?_
    rcases List.mem_append.mp hs with c | c
    · obtain ⟨p, _, rfl⟩ := List.mem_map.mp c
      exact .inl ⟨p, rfl⟩
    · exact .inr (List.eq_of_mem_replicate c)
  refine hM O [b] _ H _ R (fun a ha => by have : a = b := by simpa using ha
                                          rw [this]; exact hb) (wp_mono (wp_bind.mp hw) (fun fl q => ?_) fun c q => q.elim)
  rw [ea]
  have keep : ∀ {A' : List Addr} {H' : Hp}, Gr [b] H A' H' → ∀ x o, x ≠ b → H x = some o → H' x = some o := fun {A' H'} g x o ne e => g.1 x o (by simpa using ne) e
  cases fl with
  | nx mo' =>
    intro σ' H' g R'
    have q' : ∀ v H', (∀ x o, x ≠ b → H x = some o → H' x = some o) → MoIs K cl (frz H' O) H' b mo' → Is K cl (frz H' O) v .non → Q v H' := q
    refine q' .non H' (keep g) ?_ .non
    have r0 : (Slot.rf 0 mo' :: uns (N.length - 1) : Ro)[0]? = some (.rf 0 mo') := rfl
    obtain ⟨x, e, a, rfl, hk, hmo⟩ := R'.sl.get r0
    have : b = a := by simpa using hk
    subst this
    exact hmo.mono (frz_less fun a ha => List.mem_append_left _ ha) fun _ e => e
  | rt v r =>
    match r, q with
    | [mo'], q =>
      have q' : ∀ v' H', (∀ x o, x ≠ b → H x = some o → H' x = some o) → MoIs K cl (frz H' O) H' b mo' → Is K cl (frz H' O) v' v → Q v' H' := q
      exact fun w' H' g i hbm => q' w' H' (keep g) (hbm 0 b mo' rfl rfl) i
  | ro mo => exact q.elim
  | bk l => exact nomatch l
  | ct l => exact nomatch l
open PySem.Spec PyProof.Rows in
theorem fnN {x qual : Str} {st : Stmt} {f : Addr} {fd : FuncData} {N ps : List Str} {k n : Nat} {mf : List PV → Res MO} (F : Fun K x qual st f fd) (S : FnScope N ps (defScope st)) (hn : ps.length = n) (tk : TaknN n mf)
    (h : ∀ (cdv : Value) (A : Around) (outer : List Env) (s : Shared) (H : Hp) (E : XK), Room k (A.deeper (envOfC qual (defScope st) s.heap.objs.size f cdv)) → ∀ qs : List PV, qs.length = n →
      ∃ t, PSs (cxOf (L2.CX P w) P w K mg base N qual (defScope st) f cdv A outer s H E) (defBody st) t ∧ ∃ M, Runs K cl (fun c d _ H' => E c d H') t (qs.map Slot.fz ++ uns (N.length - n)) M (fun _ : Unit => uns N.length) (fun l : Empty => nomatch l) (uns N.length) ∧ mf qs = retN M) :
    FnOk P w K mg base (L2.CX P w) (k + 1) f fd ps (spN K cl mf) := by
  have len : ∀ vs H Q E, spN K cl mf vs H Q E → vs.length = n := fun vs H Q E ⟨O, qs, hO, hl, hw⟩ => by
    rw [hl.len]
    refine Classical.byContradiction fun c => ?_
    rw [tk qs c] at hw
    exact hw
  refine F.okX S (fun vs H Q E h => (len vs H Q E h).trans hn.symm) (fun cdv A outer s H vs Q E hr hsp => ?_)
  have hvn := len vs H Q E hsp
  obtain ⟨O, qs, hO, hl, hw⟩ := hsp
  have hqn : qs.length = n := by rw [← hl.len]; exact hvn
  obtain ⟨t, ht, M, hM, e⟩ := h cdv A outer s H E hr qs hqn
  refine ⟨t, ht, ?_⟩
  rw [e] at hw
  have st0 : L2.start N vs = vs.map some ++ List.replicate (N.length - n) none := by unfold L2.start; rw [hvn]
  rw [st0]
  have R : Rel K cl O [] (qs.map Slot.fz ++ uns (N.length - n)) (vs.map some ++ List.replicate (N.length - n) none) H :=
    ⟨by rw [fz_adr, List.append_nil]; exact fz_rel _ hl, by rw [fz_adr]; exact List.nodup_nil, hO, by rw [fz_owa]; exact fun _ z => nomatch z⟩
  refine hM O [] _ H _ R (fun _ z => nomatch z) (wp_mono (wp_bind.mp hw) (fun fl q => ?_) fun c q => q.elim)
  rw [fz_adr]
  cases fl with
  | nx s => exact q.elim
  | rt v r => exact q.elim
  | ro mo =>
    intro p H' g n hm
    refine q p H' (fun x o e => g.1 x o (fun z => nomatch z) e) ?_ hm
    rcases g.2 p (by simp) with c | c
    · cases c
    · exact c
  | bk l => exact nomatch l
  | ct l => exact nomatch l
end
section
variable {K : PySem.W.Frag} {cl : Str → Option Addr} {W : WX} {bs O A A1 B : List Addr} {F H H' H1 : Hp} {ρ ρ' ρx ρh : Ro} {σ : St} {S S1 S2 L : Type} {ρs : S → Ro} {ρn : S1 → Ro} {ρl : L → Ro} {D : Ends} {t u v tb : TS} {te ta tc td : TE} {ma mb : S → Res (PV × S)} {tr : TA} {ml : Res (List PV)} {mls : S → Res (List PV × S)}
def moL : MO → Res (List PV)
  | .lst l => .val l
  | .dct _ => .stuck
def moD : MO → Res (List (Key × PV))
  | .dct l => .val l
  | .lst _ => .stuck
theorem nw_callN {mf : List PV → Res MO} (hl : PurL K cl W tr ρ ml) : New K cl W (tCallS (spN K cl mf) (WE W) tr) ρ (ml >>= fun ps => noX (mf ps) >>= moL) := fun O bs σ H Q R q => by
  refine hl O bs σ H _ R (wp_mono (wp_bind.mp q) (fun ps qs vs H1 s1 i1 => ?_) fun _ z => z)
  refine ⟨O ++ adr ρ σ, ps, fun a h => (R.same s1).got h, i1, wp_mono (wp_noX (E' := fun _ => False) (wp_bind.mp qs)) (fun mo qm p H' s hp hm => ?_) fun _ z => z⟩
  cases mo with
  | lst l =>
    obtain ⟨vs', h1, h2⟩ := hm
    exact qm p vs' H' (s1.trans s) (none_back s1 hp) h1 h2
  | dct l => exact qm.elim
theorem nd_callN {mf : List PV → Res MO} (hl : PurL K cl W tr ρ ml) : NewD K cl W (tCallS (spN K cl mf) (WE W) tr) ρ (ml >>= fun ps => noX (mf ps) >>= moD) := fun O bs σ H Q R q => by
  refine hl O bs σ H _ R (wp_mono (wp_bind.mp q) (fun ps qs vs H1 s1 i1 => ?_) fun _ z => z)
  refine ⟨O ++ adr ρ σ, ps, fun a h => (R.same s1).got h, i1, wp_mono (wp_noX (E' := fun _ => False) (wp_bind.mp qs)) (fun mo qm p H' s hp hm => ?_) fun _ z => z⟩
  cases mo with
  | dct l =>
    obtain ⟨vs', h1, h2⟩ := hm
    exact qm p vs' H' (s1.trans s) (none_back s1 hp) h1 h2
  | lst l => exact qm.elim
/-! pop -/
def popL (l : List PV) (i : PV) : Res (PV × List PV) := match i with
  | .int i => if -(2 ^ 63) ≤ i ∧ i < 2 ^ 63 then match seqIndex? i l.length with
      | some k => match l[k]? with
        | some y => .val (y, l.eraseIdx k)
        | none => .stuck
      | none => .stuck
    else .stuck
  | _ => .stuck
theorem ef_pop {i : Nat} {sl : S → Slot} {get : S → List PV} {put : S → List PV → S} (hi : ∀ s, (ρs s)[i]? = some (sl s)) (hs : ∀ s, sl s = .ow (.lst (get s)) ∨ ∃ k, sl s = .rf k (.lst (get s))) (hp : ∀ s l, (ρs s).set i (reSl (sl s) (.lst l)) = ρs (put s l)) (ha : Eff K cl ta ρs ma) :
    Eff K cl (tBM K "list" rPopAt (tVar i) (tCons ta tNil)) ρs (fun s => ma s >>= fun k => popL (get k.2) k.1 >>= fun r => .val (r.1, put k.2 r.2)) := fun s O bs σ H Q R hb q => by
  have got : ∀ s' H', Rel K cl O bs (ρs s') σ H' → ∃ a vs, σ[i]? = some (some (.ref a)) ∧ H' a = some (.lst vs) ∧ IsL K cl (frz H' (O ++ adr (ρs s') σ)) vs (get s') := fun s' H' R => by
    obtain ⟨x, e, q⟩ := R.sl.get (hi s')
    rcases hs s' with h | ⟨k, h⟩
    · rw [h] at q; obtain ⟨a, rfl, vs, h1, h2⟩ := q; exact ⟨a, vs, e, h1, h2⟩
    · rw [h] at q; obtain ⟨a, rfl, _, vs, h1, h2⟩ := q; exact ⟨a, vs, e, h1, h2⟩
  obtain ⟨a, vs, hA, hv, hl⟩ := got _ _ R
  refine ⟨_, hA, .inl ⟨rfl, _, .inl (.inl hv)⟩, ha s O bs σ H _ R hb (wp_mono (wp_bind.mp q) (fun k qk v H1 g1 R1 e1 i1 => ?_) fun _ z => z)⟩
  obtain ⟨a', vs', hA', hv', hl'⟩ := got _ _ R1
  rw [hA] at hA'
  cases hA'
  have qk := wp_bind.mp qk
  unfold popL at qk
  split at qk
  · next j hj =>
    rw [hj] at i1
    cases i1
    split at qk
    · next c =>
      split at qk
      · next n hn =>
        split at qk
        · next y hy =>
          obtain ⟨vy, h1, h2⟩ := hl'.get hy
          obtain ⟨R2, g2⟩ := R1.put (m' := .lst ((get k.2).eraseIdx n)) (o := .lst (vs'.eraseIdx n)) (hi k.2) (hs k.2) hA ⟨_, upd_same, IsL.erase n hl'⟩
          have e2 := (adr_re (σ := σ) (m' := .lst ((get k.2).eraseIdx n)) (hi k.2)).1
          have g2e : Gr (adr (ρs s) σ) H1 (adr (ρs s) σ) (upd H1 a (.lst (vs'.eraseIdx n))) := by rw [e2, e1] at g2; exact g2
          rw [hp] at R2 e2
          refine ⟨a, vs', j, n, vy, rfl, rfl, hv', c.1, c.2, by rw [hl'.len]; exact hn, h1, qk vy _ (g1.trans g2e) R2 (e2.trans e1) ?_⟩
          rw [← e1]
          exact h2.mono (by rw [e1]; exact g2e.sub R1.al)
        · exact qk.elim
      · exact qk.elim
    · exact qk.elim
  · exact qk.elim
end
open PySem.Spec PyProof.Rows in
theorem fn_stuckR {P : Program} {w : World} {K : PySem.W.Frag} {mg : Str → Option Value} {base : Heap} {CX : CXT} {cl : Str → Option Addr} {k : Nat} {f : Addr} {fd : FuncData} {ps : List Str} {mf : MO → List PV → Res (PV × MO)} (h : ∀ mo qs, mf mo qs = .stuck) : FnOk P w K mg base CX k f fd ps (spR K cl mf) := by
  refine ⟨fun vs H Q E ⟨O, b, mo, us, qs, _, _, _, _, _, hw⟩ => ?_, fun A outer s H args us vs Q E _ _ _ _ ⟨O, b, mo, us, qs, _, _, _, _, _, hw⟩ => ?_⟩
  · rw [h] at hw; exact hw.elim
  · rw [h] at hw; exact hw.elim
theorem stuckR0 : ∀ mo qs, apR0 (fun _ => (.stuck : Res (PV × MO))) mo qs = .stuck := fun mo qs => by unfold apR0; split <;> rfl
theorem stuckR1 : ∀ mo qs, apR1 (fun _ _ => (.stuck : Res (PV × MO))) mo qs = .stuck := fun mo qs => by unfold apR1; split <;> rfl
theorem stuckR2 : ∀ mo qs, apR2 (fun _ _ _ => (.stuck : Res (PV × MO))) mo qs = .stuck := fun mo qs => by unfold apR2; split <;> rfl
theorem stuckR3 : ∀ mo qs, apR3 (fun _ _ _ _ => (.stuck : Res (PV × MO))) mo qs = .stuck := fun mo qs => by unfold apR3; split <;> rfl
theorem stuckR4 : ∀ mo qs, apR4 (fun _ _ _ _ _ => (.stuck : Res (PV × MO))) mo qs = .stuck := fun mo qs => by unfold apR4; split <;> rfl
theorem stuckR5 : ∀ mo qs, apR5 (fun _ _ _ _ _ _ => (.stuck : Res (PV × MO))) mo qs = .stuck := fun mo qs => by unfold apR5; split <;> rfl
/-! ### list(range(..)), tuple(range(..)), isinstance with two, the law -/
section
variable {K : PySem.W.Frag} {cl : Str → Option Addr} {W : WX} {bs O A A1 B : List Addr} {F H H' H1 : Hp} {ρ : Ro} {σ : L2.St} {ta tb : TE} {ma mb : Res PV}
def rgL (lo hi : Int) : Res (List PV) := if -(2 ^ 62) ≤ lo ∧ lo < 2 ^ 62 ∧ -(2 ^ 62) ≤ hi ∧ hi < 2 ^ 62 ∧ (hi - lo).toNat ≤ 2 ^ 24 then .val (rngP lo hi) else .stuck
theorem is_rg : ∀ (l : List Nat) (lo : Int), IsL K cl F (l.map fun i => V.int (lo + (i : Nat))) (l.map fun i => PV.int (lo + (i : Nat)))
  | [], _ => .nil
  | _ :: l, lo => .cons (.int _) (is_rg l lo)
theorem wp_rgL {lo hi : Int} {Q : List PV → Prop} {E : Str → Prop} (h : wp (rgL lo hi) Q E) : RgOk lo hi ∧ Q (rngP lo hi) := by
  unfold rgL at h
  split at h
  · next c => exact ⟨c, h⟩
  · exact h.elim
def PRgP (K : PySem.W.Frag) (cl : Str → Option Addr) (W : WX) (t : L2.St → Hp → (Int → Int → Hp → Prop) → Prop) (ρ : Ro) (m : Res (Int × Int)) : Prop := ∀ (O bs : List Addr) (σ : L2.St) (H : Hp) (Q : Int → Int → Hp → Prop), Rel K cl O bs ρ σ H →
  wp m (fun r => ∀ H', Sub H H' → Q r.1 r.2 H') (XW cl W σ H) → t σ H Q
theorem rg_1 (ha : Vw K cl W ta ρ ma) : PRgP K cl W (tRg1 ta) ρ (ma >>= partP >>= fun i => .val (0, i)) := fun O bs σ H Q R q => by
  rw [wp_bind, wp_bind] at q
  refine ha O bs σ H _ R (wp_mono q (fun x qx v1 H1 s1 i1 => ?_) fun _ z => z)
  unfold partP at qx
  split at qx
  · cases isV_int i1; exact ⟨_, rfl, qx H1 s1⟩
  · exact qx.elim
theorem rg_2 (ha : Vw K cl W ta ρ ma) (hb : Vw K cl W tb ρ mb) : PRgP K cl W (tRg2 ta tb) ρ (ma >>= fun x => mb >>= fun y => partP x >>= fun i => partP y >>= fun j => .val (i, j)) := fun O bs σ H Q R q => by
  refine ha O bs σ H _ R (wp_mono (wp_bind.mp q) (fun x qx v1 H1 s1 i1 => ?_) fun _ z => z)
  refine hb O bs σ H1 _ (R.same s1) (wp_mono (wp_bind.mp qx) (fun y qy v2 H2 s2 i2 => ?_) fun _ z => z.mono s1)
  unfold partP at qy
  split at qy
  · cases isV_int i1
    have qy := wp_bind.mp qy
    split at qy
    · cases isV_int i2; exact ⟨_, _, rfl, rfl, qy H2 (s1.trans s2)⟩
    · exact qy.elim
  · exact qy.elim
theorem nw_listRg {t : L2.St → Hp → (Int → Int → Hp → Prop) → Prop} {m : Res (Int × Int)} (h : PRgP K cl W t ρ m) : New K cl W (tLstRg t) ρ (m >>= fun r => rgL r.1 r.2) := fun O bs σ H Q R q => by
  refine h O bs σ H _ R (wp_mono (wp_bind.mp q) (fun r qr H1 s1 => ?_) fun _ z => z)
  obtain ⟨ok, qr⟩ := wp_rgL qr
  exact ⟨ok, fun p hp => qr p _ _ (s1.trans (sub_new hp _)) (none_back s1 hp) upd_same (is_rg _ _)⟩
theorem pu_tupRg {t : L2.St → Hp → (Int → Int → Hp → Prop) → Prop} {m : Res (Int × Int)} (h : PRgP K cl W t ρ m) : Pur K cl W (tTupRg t) ρ (m >>= fun r => rgL r.1 r.2 >>= fun l => .val (.tup l)) := fun O bs σ H Q R q => by
  refine h O bs σ H _ R (wp_mono (wp_bind.mp q) (fun r qr H1 s1 => ?_) fun _ z => z)
  obtain ⟨ok, qr⟩ := wp_rgL (wp_bind.mp qr)
  exact ⟨ok, fun p hp => qr _ _ (s1.trans (sub_new hp _)) (new_tup (fun a h => (R.same s1).got h) hp (is_rg _ _))⟩
theorem New.pur' {t : TE} {α : Type} {m : Res α} {f : α → Res (List PV)} (h : New K cl W t ρ (m >>= f)) : Pur K cl W t ρ (m >>= fun x => f x >>= fun l => .val (.lst l)) := by
  have q := h.pur
  cases m <;> exact q
def isiP2 (a b : String) (p : PV) : Res PV := match tyNm p with
  | some n => match kitB n a, kitB n b with
    | some r, some s => .val (.bl (r || s))
    | _, _ => .stuck
  | none => .stuck
theorem call_isiTV (K : PySem.W.Frag) {X : Cx} (e : X.K = K) : CallR X (.builtin "isinstance") (rIsiT K) := by subst e; exact call_isiT
theorem pu_isi2 {a b : String} (ha : Vw K cl W ta ρ ma) : Pur K cl W (tCB (rIsiT K) (tCons ta (tCons (tTup (tCons (tC (.ty a)) (tCons (tC (.ty b)) tNil))) tNil))) ρ (ma >>= isiP2 a b) := fun O bs σ H Q R q => by
  refine ha O bs σ H _ R (wp_mono (wp_bind.mp q) (fun x qx v1 H1 s1 i1 => ?_) fun _ z => z)
  unfold isiP2 at qx
  split at qx
  · next n hn =>
    split at qx
    · next r s hr hs =>
      refine ⟨by show 2 ≤ sizeLine; decide, fun p hp => ⟨v1, p, [.ty a, .ty b], .type n, [.type a, .type b], r || s, rfl, upd_same, .cons (.ty _) (.cons (.ty _) .nil), ?_, ?_, qx _ _ (s1.trans (sub_new hp _)) (.bl _)⟩⟩
      · exact isV_ty (i1.mono (frz_same (sub_new hp _)) (sub_new hp _)) frz_sub hn
      · refine kitAny_cons (kit_ty hr) (fun e => ?_) fun e => by rw [e]; rfl
        rw [e, Bool.false_or]
        exact kitAny_cons (kit_ty hs) (fun e => by rw [e]; exact kitAny_nil) fun e => e
    · exact qx.elim
  · exact qx.elim
end
section
variable {P : Program} {w : World} {K : PySem.W.Frag} {mg : Str → Option Value} {base : Heap} {cl : Str → Option Addr}
def spLaw (K : PySem.W.Frag) : Sp := fun vs H Q _ => ∃ (a : Addr) (ns : List Int), vs = [.ref a] ∧ SqL K H a (ns.map V.int) ∧ ns.length ≤ 63 ∧ ∀ H', Q (.bl true) H'
open PySem.Spec PyProof.Rows in
theorem fnLaw {x qual : Str} {st : Stmt} {f : Addr} {fd : FuncData} {N : List Str} {k : Nat} (F : Fun K x qual st f fd) (S : FnScope N ["script"] (defScope st)) {ml : List Int → Res PV} (hml : ∀ ns : List Int, ns.length ≤ 63 → ml ns = .val (.bl true))
    (h : ∀ (cdv : Value) (A : Around) (outer : List Env) (s : Shared) (H : Hp) (E : XK), Room k (A.deeper (envOfC qual (defScope st) s.heap.objs.size f cdv)) → ∀ ns : List Int,
      ∃ t, PSs (cxOf CX0 P w K mg base N qual (defScope st) f cdv A outer s H E).nox (defBody st) t ∧ ∃ M, Runs K cl (fun c d _ H' => E0 c d H') t (.fz (.fls (ns.map PV.int)) :: uns (N.length - 1)) M (fun _ : Unit => uns N.length) (fun l : Empty => nomatch l) (uns N.length) ∧ ml ns = retF M) :
    FnOk P w K mg base CX0 (k + 1) f fd ["script"] (spLaw K) := by
  refine F.ok S (fun vs H Q E h => ?_) (fun cdv A outer s H vs Q E hr hsp => ?_)
  · obtain ⟨_, _, rfl, _⟩ := h; rfl
  obtain ⟨a, ns, rfl, hS, h63, k⟩ := hsp
  obtain ⟨t, ht, M, hM, e⟩ := h cdv A outer s H E hr ns
  refine ⟨t, ht, ?_⟩
  have hw := (hml ns h63).symm.trans e
  have hw : wp (retF M) (fun r => r = .bl true) (fun _ => False) := by rw [← hw]; exact rfl
  have R : Rel K cl [] [] (.fz (.fls (ns.map PV.int)) :: uns (N.length - 1)) (some (V.ref a) :: List.replicate (N.length - 1) none) H := by
    have ea : adr (.fz (.fls (ns.map PV.int)) :: uns (N.length - 1)) (some (V.ref a) :: List.replicate (N.length - 1) none) = [] := uns_adr _ _
    refine ⟨?_, by rw [ea]; exact List.nodup_nil, fun _ z => (nomatch z), fun _ _ z => nomatch z⟩
    rw [ea]
    refine .cons ⟨_, rfl, .fls (Sub.sqL (F := H) (F' := frz H ([] ++ [])) (fun x o e => frz_some.mpr ⟨(fun z => nomatch z), e⟩) hS) (IsL.of_ints ns)⟩ ?_
    exact fz_rel (vs := []) (qs := []) _ .nil
  refine hM [] [] _ H _ R (fun _ z => nomatch z) (wp_mono (wp_bind.mp hw) (fun fl q => ?_) fun c q => q.elim)
  cases fl with
  | nx s => exact absurd (show PV.non = .bl true from q) (fun z => nomatch z)
  | rt v r =>
    have q : v = .bl true := q
    subst q
    exact fun w' H' g i _ => by cases i; exact k H'
  | ro mo => exact q.elim
  | bk l => exact nomatch l
  | ct l => exact nomatch l
end
/-! ### tuple * int, any int -/
section
open PySem.Spec PyProof.Rows
theorem tup_mul1 (l : Addr) (items : Array Value) (n : Nat) (dd : Option Addr) (sl : Array (Option Value)) (x : Int) (u : Tok) (c0 : (decide (x < -(2 ^ 63)) || decide (x ≥ 2 ^ 63)) = false) (c1 : (items.isEmpty || x == 1) = true) :
    Meets (Builtin.«tuple.__mul__» ⟨[.ref l, .int x u], []⟩) (fun _ R s => s.heap.get? l = some { cls := .type "tuple", dict := dd, data := .seq items n, slots := sl } ∧ R (.ok (.ret (Value.ref l))) s) :=
  .of_wp fun prog w A R s h => by
    obtain ⟨hp, g, d, tk, os⟩ := s
    obtain ⟨hl, h⟩ := h
    have f1 := AutoSeq1.idx_int
    wp_walk using wpAny_loadPart' hl
    repeat (first
      | (refine wpAny_ite_false (decide_eq_false (by rw [c0]; exact Bool.false_ne_true)) ?_; wp_walk using wpAny_loadPart' hl)
      | (refine wpAny_ite_true (decide_eq_true (by rw [c1])) ?_; wp_walk using wpAny_loadPart' hl))
    all_goals exact ⟨_, rfl, h⟩
theorem tup_mul0 (l : Addr) (items : Array Value) (n : Nat) (dd : Option Addr) (sl : Array (Option Value)) (x : Int) (u : Tok) (c0 : (decide (x < -(2 ^ 63)) || decide (x ≥ 2 ^ 63)) = false) (c1 : (items.isEmpty || x == 1) = false) (c2 : (decide (x ≤ 0) || items.isEmpty) = true) :
    Meets (Builtin.«tuple.__mul__» ⟨[.ref l, .int x u], []⟩) (fun _ R s => s.heap.get? l = some { cls := .type "tuple", dict := dd, data := .seq items n, slots := sl } ∧
      R (.ok (.ret (Value.ref s.heap.objs.size))) { s with heap := s.heap.push { cls := Value.type "tuple", data := Data.seq #[] }, toks := s.toks }) :=
  .of_wp fun prog w A R s h => by
    obtain ⟨hp, g, d, tk, os⟩ := s
    obtain ⟨hl, h⟩ := h
    have f1 := AutoSeq1.idx_int
    wp_walk using wpAny_loadPart' hl
    repeat (first
      | (refine wpAny_ite_false (decide_eq_false (by rw [c0]; exact Bool.false_ne_true)) ?_; wp_walk using wpAny_loadPart' hl)
      | (refine wpAny_ite_false (decide_eq_false (by rw [c1]; exact Bool.false_ne_true)) ?_; wp_walk using wpAny_loadPart' hl)
      | (refine wpAny_ite_true (decide_eq_true (by rw [c2])) ?_; wp_walk using wpAny_loadPart' hl))
    all_goals exact ⟨_, rfl, h⟩
def rRepT1 (K : PySem.W.Frag) : R2 := fun x y H Q => ∃ l k xs, x = .ref l ∧ y = .int k ∧ SqT K H l xs ∧ -(2 ^ 63) ≤ k ∧ k < 2 ^ 63 ∧ (xs = [] ∨ k = 1) ∧ Q (.ref l) H
def rRepT0 (K : PySem.W.Frag) : R2 := fun x y H Q => ∃ l k xs, x = .ref l ∧ y = .int k ∧ SqT K H l xs ∧ -(2 ^ 63) ≤ k ∧ k ≤ 0 ∧ xs ≠ [] ∧ ∀ p, H p = none → Q (.ref p) (upd H p (.tup []))
theorem op_repT1 {X : Cx} : OpR X (binaryOp .Mult) (rRepT1 X.K) := by
  intro pins s σ H x y v u Q I rx ry h
  obtain ⟨l, k, xs, rfl, rfl, hT, h1, h2, h3, q⟩ := h
  cases rx
  obtain ⟨t, rfl⟩ := ry
  obtain ⟨its, r, ⟨⟨cls, dd, data, sl⟩, ho, hc, n, hd⟩, hs⟩ := I.tuple hT
  simp only at hc hd
  subst hc hd
  have c0 : (decide (k < -(2 ^ 63)) || decide (k ≥ 2 ^ 63)) = false := by
    rw [decide_eq_false (by omega), decide_eq_false (by omega)] <;> rfl
  have c1 : (its.toArray.isEmpty || k == 1) = true := by
    rcases h3 with h3 | h3
    · have e : its = [] := List.eq_nil_of_length_eq_zero (by rw [← r.length, h3]; rfl)
      subst e
      rfl
    · rw [h3]
      exact Bool.or_true _
  exact wpAny_binaryOp_repeat_ref (T := "tuple") (U := "int") (by decide) ⟨_, ho, rfl⟩ (fun s' => typeIs_int s' k t) noFill_tuple_mul F.fills_int_mul F.slot_int_rmul repeat_tuple F.slot_int_index.lookup
    (call_meets F.slot_int_rmul (typeIs_int s k t) F.entry_int_rmul (F.args_int_rmul_2 _ _) (int_rmul_tuple k t l its.toArray n dd sl)
      ⟨ho, rfl, ⟨_, ho, rfl⟩, call_meets F.slot_tuple_mul ⟨_, ho, rfl⟩ F.entry_tuple_mul (F.args_tuple_mul_2 _ _) (tup_mul1 l its.toArray n dd sl k t c0 c1) ⟨ho, .ref l, H, I, rfl, q⟩⟩)
theorem op_repT0 {X : Cx} : OpR X (binaryOp .Mult) (rRepT0 X.K) := by
  intro pins s σ H x y v u Q I rx ry h
  obtain ⟨l, k, xs, rfl, rfl, hT, h1, h2, h3, q⟩ := h
  cases rx
  obtain ⟨t, rfl⟩ := ry
  obtain ⟨its, r, ⟨⟨cls, dd, data, sl⟩, ho, hc, n, hd⟩, hs⟩ := I.tuple hT
  simp only at hc hd
  subst hc hd
  have hi : its.toArray.isEmpty = false := by
    cases its with
    | nil => exact absurd (List.eq_nil_of_length_eq_zero (by rw [r.length]; rfl)) h3
    | cons a b => rfl
  have c0 : (decide (k < -(2 ^ 63)) || decide (k ≥ 2 ^ 63)) = false := by
    rw [decide_eq_false (by omega), decide_eq_false (by omega)] <;> rfl
  have c1 : (its.toArray.isEmpty || k == 1) = false := by
    rw [hi, Bool.false_or]
    exact beq_eq_false_iff_ne.mpr (by omega)
  have c2 : (decide (k ≤ 0) || its.toArray.isEmpty) = true := by
    rw [decide_eq_true h2]
    rfl
  refine wpAny_binaryOp_repeat_ref (T := "tuple") (U := "int") (by decide) ⟨_, ho, rfl⟩ (fun s' => typeIs_int s' k t) noFill_tuple_mul F.fills_int_mul F.slot_int_rmul repeat_tuple F.slot_int_index.lookup
    (call_meets F.slot_int_rmul (typeIs_int s k t) F.entry_int_rmul (F.args_int_rmul_2 _ _) (int_rmul_tuple k t l its.toArray n dd sl)
      ⟨ho, rfl, ⟨_, ho, rfl⟩, call_meets F.slot_tuple_mul ⟨_, ho, rfl⟩ F.entry_tuple_mul (F.args_tuple_mul_2 _ _) (tup_mul0 l its.toArray n dd sl k t c0 c1 c2) ⟨ho, ?_⟩⟩)
  refine ⟨.ref s.heap.objs.size, _, I.laid (t' := s.toks) (o := .tup []) (fun b ob q => Heap.get?_push_of_some _ q) (Nat.le_refl _) ?_, rfl, q _ (I.hok.fresh (Nat.le_refl _))⟩
  exact ⟨Nat.zero_le _, [], .nil, IsTup.new _ _⟩
end
section
variable {K : PySem.W.Frag} {cl : Str → Option Addr}
def repT : PV → PV → Res PV
  | .tup xs, .int k =>
    if -(2 ^ 63) ≤ k ∧ k < 2 ^ 63 ∧ (xs.length = 0 ∨ k = 1) then .val (.tup xs)
    else if -(2 ^ 63) ≤ k ∧ k ≤ 0 ∧ xs.length ≠ 0 then .val (.tup [])
    else if xs.length ≠ 0 ∧ 2 ≤ k ∧ k ≤ 1000 ∧ xs.length ≤ 1000 then .val (.tup (List.replicate k.toNat xs).flatten)
    else .stuck
  | _, _ => .stuck
def rRepTV (K : PySem.W.Frag) : R2 := rOr (rRepT1 K) (rOr (rRepT0 K) (rRepT K))
theorem o2_repT : Op2 K cl (rRepTV K) repT := fun A H x y p q Q E hA ix iy w => by
  unfold repT at w
  split at w
  · cases ix with
    | tup h l =>
    cases isV_int iy
    split at w
    · next c =>
      refine .inl ⟨_, _, _, rfl, rfl, frz_sub.sqT h, c.1, c.2.1, ?_, w _ H .refl (.tup h l)⟩
      rcases c.2.2 with e | e
      · exact .inl (List.eq_nil_of_length_eq_zero (by rw [l.len]; exact e))
      · exact .inr e
    · split at w
      · next c =>
        refine .inr (.inl ⟨_, _, _, rfl, rfl, frz_sub.sqT h, c.1, c.2.1, fun e => c.2.2 (by rw [← l.len, e]; rfl), fun p hp => w _ _ (sub_new hp _) (new_tup hA hp .nil)⟩)
      · split at w
        · next c =>
          refine .inr (.inr ⟨_, _, _, rfl, rfl, frz_sub.sqT h, fun e => c.1 (by rw [← l.len, e]; rfl), c.2.1, c.2.2.1, by rw [l.len]; exact c.2.2.2, fun p hp => w _ _ (sub_new hp _) (new_tup hA hp (l.reps _))⟩)
        · exact w.elim
  · exact w.elim
def mulPT : PV → PV → Res PV := orS mulP repT
def rMulVT (K : PySem.W.Frag) : R2 := rOr rMulV (rRepTV K)
theorem o2_mulT : Op2 K cl (rMulVT K) mulPT := o2_or o2_mul o2_repT
theorem op_mulVT (K : PySem.W.Frag) {X : Cx} (e : X.K = K) : OpR X (binaryOp .Mult) (rMulVT K) := by
  subst e
  exact op_mulV.or (op_repT1.or (op_repT0.or op_repT))
end
/-! ### sum of a tuple -/
section
open PySem.Spec PyProof.Rows
theorem sumT_raw {prog : Program} {w : World} {A : Around} {E : Value → Shared → Prop} {s : Shared} {Q : Value → Shared → Prop} {l : Addr} {its : List Value} {ns : List Int} (hh : A.handled = none) (hl : s.heap.IsTuple l its.toArray) (hi : IntsAre its ns)
    (h : ∀ h' tk t', (∀ b o, s.heap.get? b = some o → h'.get? b = some o) → Q (.int ns.sum t') { s with heap := h', toks := tk }) : wpAny (model prog w) A (call (.builtin "sum") [.ref l]) Q E s := by
  obtain ⟨xs, e⟩ := hi.allInts.items
  have hn : numsOf (intItems xs).toList = ns := by rw [← e]; exact hi.numsOf
  rw [nums_intItems] at hn
  rw [e] at hl
  have hlt : l < s.heap.objs.size := by obtain ⟨_, e, _⟩ := hl; exact Heap.lt_size e
  refine call_sum_walkG (wpAny_pyIter_tuple hl ?_)
  refine ⟨_, [s.heap.objs.size, l], [s.heap.objs.size], _, _, _, numAt xs, rfl, Walks.tuple (A := A.in1) hh _ l (Nat.ne_of_lt hlt) (intItems xs), ⟨⟨_, Heap.get?_push_size _ rfl, rfl, rfl⟩, hl.push _⟩, fun b hb => ?_, (fun _ _ => intItems_at), fun h' tk t' hk => ?_⟩
  · show b < (s.heap.push _).objs.size
    rw [Heap.size_push]
    rcases List.mem_cons.mp hb with rfl | hb
    · exact Nat.lt_succ_self _
    · rcases List.mem_cons.mp hb with rfl | hb
      · exact Nat.lt_succ_of_lt hlt
      · cases hb
  · have := h h' tk t' fun b o eo => hk b o (fun hm => by
      have : b = s.heap.objs.size := by simpa using hm
      exact absurd (this ▸ Heap.lt_size eo) (Nat.lt_irrefl _)) (Heap.get?_push_of_some _ eo)
    have e2 : preSum (numAt xs) (intItems xs).size = ns.sum := by
      have : (intItems xs).size = xs.size := by simp [intItems]
      rw [this, preSum_eq, List.take_of_length_le (by simp), hn]
    rw [e2]
    exact this
def rSumT (K : PySem.W.Frag) : List V → Hp → VK → Prop := fun vs H Q => ∃ (a : Addr) (ns : List Int), vs = [V.ref a] ∧ SqT K H a (ns.map V.int) ∧ Q (.int ns.sum) H
theorem cr_sumT {X : Cx} (hc : X.calm = true) : CallR X (.builtin "sum") (rSumT X.K) := by
  intro pins s σ H vs us Q I r h
  obtain ⟨a, ns, rfl, hs, q⟩ := h
  obtain ⟨its, rv, hl, _⟩ := I.tuple hs
  rw [Vals.ref1 r]
  refine sumT_raw (I.ok.hd hc) hl rv.ints fun h' tk t' hk => ⟨.int _, H, I.kept hk, ⟨_, rfl⟩, q⟩
end
section
variable {K : PySem.W.Frag} {cl : Str → Option Addr}
def rSumV (K : PySem.W.Frag) : List V → Hp → VK → Prop := cOr (rSum K) (rSumT K)
theorem cr_sumVT (K : PySem.W.Frag) {X : Cx} (e : X.K = K) (hc : X.calm = true) : CallR X (.builtin "sum") (rSumV K) := by
  subst e
  exact (cr_sum hc).or (cr_sumT hc)
def sumPT (p : PV) : Res PV := asSq p >>= fun ps => match allI ps with
  | some is => .val (.int is.sum)
  | none => .stuck
theorem b1_sumT : Bi1 K cl (rSumV K) sumPT := fun A H x p Q E hA ix w => by
  obtain ⟨a, vs, ps, rfl, hs, hl, w⟩ := wp_asSq (wp_bind.mp w) ix
  split at w
  · next is e =>
    cases allI_eq e
    cases hl.ints
    rcases hs with hs | hs
    · exact .inr ⟨a, is, rfl, hs, w _ H .refl (.int _)⟩
    · exact .inl ⟨a, is, rfl, hs, w _ H .refl (.int _)⟩
  · exact w.elim
end
def top (i : Nat) : Stmt := PySem.Challenge.pw_hushpapers_k65_range_weights_and_digits.main.body.getD i (.Pass ⟨0, 0, 0, 0⟩)
abbrev s__count_doubling : Stmt := top 4
theorem sc_count_doubling : FnScope ["top", "many"] ["top"] (defScope s__count_doubling) := ⟨rfl, rfl, rfl, by decide +kernel, rfl, by decide +kernel, by decide +kernel⟩
abbrev s_range_weights : Stmt := top 5
theorem scrange_weights : FnScope ["top", "many", "weights", "at", "extra"] ["top"] (defScope s_range_weights) := ⟨rfl, rfl, rfl, by decide +kernel, rfl, by decide +kernel, by decide +kernel⟩
abbrev s_range_digits : Stmt := top 6
theorem scrange_digits : FnScope ["top", "value", "many", "largest", "extra_digit", "rest", "digits", "at"] ["top", "value"] (defScope s_range_digits) := ⟨rfl, rfl, rfl, by decide +kernel, rfl, by decide +kernel, by decide +kernel⟩
abbrev s_Lmix : Stmt := top 8
theorem scLmix : FnScope ["cell", "salt", "one"] ["cell", "salt"] (defScope s_Lmix) := ⟨rfl, rfl, rfl, by decide +kernel, rfl, by decide +kernel, by decide +kernel⟩
abbrev s_Lbox : Stmt := top 9
theorem scLbox : FnScope ["script", "at", "cell"] ["script", "at"] (defScope s_Lbox) := ⟨rfl, rfl, rfl, by decide +kernel, rfl, by decide +kernel, by decide +kernel⟩
abbrev s_Ldraw : Stmt := top 10
theorem scLdraw : FnScope ["box", "many", "cell", "drawn"] ["box", "many"] (defScope s_Ldraw) := ⟨rfl, rfl, rfl, by decide +kernel, rfl, by decide +kernel, by decide +kernel⟩
abbrev s_Lalike : Stmt := top 11
theorem scLalike : FnScope ["told", "due", "k"] ["told", "due"] (defScope s_Lalike) := ⟨rfl, rfl, rfl, by decide +kernel, rfl, by decide +kernel, by decide +kernel⟩
abbrev s_Lpure : Stmt := top 12
theorem scLpure : FnScope ["top", "many", "whole"] ["top"] (defScope s_Lpure) := ⟨rfl, rfl, rfl, by decide +kernel, rfl, by decide +kernel, by decide +kernel⟩
abbrev s_Lweights : Stmt := top 13
theorem scLweights : FnScope ["top", "weights", "weight", "k"] ["top"] (defScope s_Lweights) := ⟨rfl, rfl, rfl, by decide +kernel, rfl, by decide +kernel, by decide +kernel⟩
abbrev s_Ldigits : Stmt := top 14
theorem scLdigits : FnScope ["top", "value", "weights", "many", "left", "extra", "beyond", "k"] ["top", "value"] (defScope s_Ldigits) := ⟨rfl, rfl, rfl, by decide +kernel, rfl, by decide +kernel, by decide +kernel⟩
abbrev s_Lasked : Stmt := top 15
theorem scLasked : FnScope ["top", "value"] ["top", "value"] (defScope s_Lasked) := ⟨rfl, rfl, rfl, by decide +kernel, rfl, by decide +kernel, by decide +kernel⟩
abbrev s_Lright : Stmt := top 16
theorem scLright : FnScope ["top", "values", "weights", "value", "due", "k", "one"] ["top", "values"] (defScope s_Lright) := ⟨rfl, rfl, rfl, by decide +kernel, rfl, by decide +kernel, by decide +kernel⟩
abbrev s_law : Stmt := top 17
theorem sclaw : FnScope ["script", "box", "top", "value", "far", "great", "values", "turn", "edge", "k"] ["script"] (defScope s_law) := ⟨rfl, rfl, rfl, by decide +kernel, rfl, by decide +kernel, by decide +kernel⟩
def g_range_digits_0_value_top {α : Type} (us ws : List α) : List α := match us, ws with | [], [w0, w1] => [w1, w0] | _, _ => []
theorem g_range_digits_0_value_top_rel {vs : List V} {us : List Value} {zs : List V} {ws : List Value} (r : Vals vs us) (q : Vals zs ws) : Vals (g_range_digits_0_value_top vs zs) (g_range_digits_0_value_top us ws) := by
  unfold g_range_digits_0_value_top
  split
  · match r, q with | .nil, (.cons q0 (.cons q1 .nil)) => exact (.cons q1 (.cons q0 .nil))
  · next h =>
    split
    · match r, q with | .nil, (.cons q0 (.cons q1 .nil)) => exact (h _ _ rfl rfl).elim
    · exact .nil
theorem g_range_digits_0_value_top_rel' : True := True.intro
def g_range_weights_0_top {α : Type} (us ws : List α) : List α := match us, ws with | [], [w0] => [w0] | _, _ => []
theorem g_range_weights_0_top_rel {vs : List V} {us : List Value} {zs : List V} {ws : List Value} (r : Vals vs us) (q : Vals zs ws) : Vals (g_range_weights_0_top vs zs) (g_range_weights_0_top us ws) := by
  unfold g_range_weights_0_top
  split
  · match r, q with | .nil, (.cons q0 .nil) => exact (.cons q0 .nil)
  · next h =>
    split
    · match r, q with | .nil, (.cons q0 .nil) => exact (h _ rfl rfl).elim
    · exact .nil
theorem g_range_weights_0_top_rel' : True := True.intro
structure Top (K : PySem.W.Frag) (mg : Str → Option Value) where
  f__count_doubling : Addr
  d__count_doubling : FuncData
  F__count_doubling : Fun K "_count_doubling" "_count_doubling" s__count_doubling f__count_doubling d__count_doubling
  m__count_doubling : mg "_count_doubling" = some (.ref f__count_doubling)
  b__count_doubling : Binds K d__count_doubling ["top"] []
  f_range_weights : Addr
  d_range_weights : FuncData
  F_range_weights : Fun K "range_weights" "range_weights" s_range_weights f_range_weights d_range_weights
  m_range_weights : mg "range_weights" = some (.ref f_range_weights)
  b_range_weights : Binds K d_range_weights ["top"] []
  f_range_digits : Addr
  d_range_digits : FuncData
  F_range_digits : Fun K "range_digits" "range_digits" s_range_digits f_range_digits d_range_digits
  m_range_digits : mg "range_digits" = some (.ref f_range_digits)
  b_range_digits : Binds K d_range_digits ["top", "value"] []
  f__law_mix : Addr
  d__law_mix : FuncData
  F__law_mix : Fun K "_law_mix" "_law_mix" s_Lmix f__law_mix d__law_mix
  m__law_mix : mg "_law_mix" = some (.ref f__law_mix)
  b__law_mix : Binds K d__law_mix ["cell", "salt"] []
  f__law_box : Addr
  d__law_box : FuncData
  F__law_box : Fun K "_law_box" "_law_box" s_Lbox f__law_box d__law_box
  m__law_box : mg "_law_box" = some (.ref f__law_box)
  b__law_box : Binds K d__law_box ["script", "at"] []
  f__law_draw : Addr
  d__law_draw : FuncData
  F__law_draw : Fun K "_law_draw" "_law_draw" s_Ldraw f__law_draw d__law_draw
  m__law_draw : mg "_law_draw" = some (.ref f__law_draw)
  b__law_draw : Binds K d__law_draw ["box", "many"] []
  f__law_alike : Addr
  d__law_alike : FuncData
  F__law_alike : Fun K "_law_alike" "_law_alike" s_Lalike f__law_alike d__law_alike
  m__law_alike : mg "_law_alike" = some (.ref f__law_alike)
  b__law_alike : Binds K d__law_alike ["told", "due"] []
  f__law_pure : Addr
  d__law_pure : FuncData
  F__law_pure : Fun K "_law_pure" "_law_pure" s_Lpure f__law_pure d__law_pure
  m__law_pure : mg "_law_pure" = some (.ref f__law_pure)
  b__law_pure : Binds K d__law_pure ["top"] []
  f__law_weights : Addr
  d__law_weights : FuncData
  F__law_weights : Fun K "_law_weights" "_law_weights" s_Lweights f__law_weights d__law_weights
  m__law_weights : mg "_law_weights" = some (.ref f__law_weights)
  b__law_weights : Binds K d__law_weights ["top"] []
  f__law_digits : Addr
  d__law_digits : FuncData
  F__law_digits : Fun K "_law_digits" "_law_digits" s_Ldigits f__law_digits d__law_digits
  m__law_digits : mg "_law_digits" = some (.ref f__law_digits)
  b__law_digits : Binds K d__law_digits ["top", "value"] []
  f__law_asked : Addr
  d__law_asked : FuncData
  F__law_asked : Fun K "_law_asked" "_law_asked" s_Lasked f__law_asked d__law_asked
  m__law_asked : mg "_law_asked" = some (.ref f__law_asked)
  b__law_asked : Binds K d__law_asked ["top", "value"] []
  f__law_right : Addr
  d__law_right : FuncData
  F__law_right : Fun K "_law_right" "_law_right" s_Lright f__law_right d__law_right
  m__law_right : mg "_law_right" = some (.ref f__law_right)
  b__law_right : Binds K d__law_right ["top", "values"] []
  f_law : Addr
  d_law : FuncData
  F_law : Fun K "law" "law" s_law f_law d_law
  m_law : mg "law" = some (.ref f_law)
  b_law : Binds K d_law ["script"] []
  k_range_digits_0_value_top : KBinds K d_range_digits ["top", "value"] ["value", "top"] (g_range_digits_0_value_top) (g_range_digits_0_value_top)
  k_range_weights_0_top : KBinds K d_range_weights ["top"] ["top"] (g_range_weights_0_top) (g_range_weights_0_top)
  z_all : mg "all" = none
  z_bool : mg "bool" = none
  z_int : mg "int" = none
  z_isinstance : mg "isinstance" = none
  z_len : mg "len" = none
  z_list : mg "list" = none
  z_range : mg "range" = none
  z_str : mg "str" = none
  z_sum : mg "sum" = none
  z_tuple : mg "tuple" = none
  c_NoWitness : Addr
  m_NoWitness : mg "NoWitness" = some (.ref c_NoWitness)
  kc_NoWitness : PySem.W.keepIn K (.ref c_NoWitness) = true
  s_NoWitness : PySem.W.subIn K (.ref c_NoWitness) (.type "BaseException") = some true
  t_NoWitness : PySem.W.typeIn K (.ref c_NoWitness) = some (.type "type")
  i_NoWitness : PySem.W.isClsIn K c_NoWitness = true
  hd_NoWitness : PySem.W.hasDictIn K c_NoWitness = true
  x_NoWitness : PySem.W.excIn K c_NoWitness [.type "ValueError", .type "Exception", .type "BaseException", .type "object"] "ValueError.__new__" = true
  u_NoWitness_NoWitness : PySem.W.subIn K (.ref c_NoWitness) (.ref c_NoWitness) = some true
def clT {K : PySem.W.Frag} {mg : Str → Option Value} (T : Top K mg) : Str → Option Addr := fun s => if s = "NoWitness" then some T.c_NoWitness else none
theorem Top.ce_NoWitness {K : PySem.W.Frag} {mg : Str → Option Value} (T : Top K mg) : clT T "NoWitness" = some T.c_NoWitness := by
  unfold clT
  simp (config := { decide := true }) only [if_true, if_false]
def hit_NoWitness : Str → Option Bool := fun s => if s = "NoWitness" then some true else none
theorem Top.hit_NoWitness {K : PySem.W.Frag} {mg : Str → Option Value} (T : Top K mg) : ∀ c' C b, clT T c' = some C → Toy.hit_NoWitness c' = some b → PySem.W.exmOne K (.ref C) (.ref T.c_NoWitness) = some b := by
  intro c' C b h1 h2
  unfold Toy.hit_NoWitness at h2
  by_cases e_NoWitness : c' = "NoWitness"
  · subst e_NoWitness
    rw [if_pos rfl] at h2
    cases (Option.some.inj ((T.ce_NoWitness).symm.trans h1))
    cases (Option.some.inj h2)
    exact PySem.W.exm_ref T.s_NoWitness T.hd_NoWitness T.t_NoWitness T.u_NoWitness_NoWitness
  rw [if_neg e_NoWitness] at h2
  cases h2
section
variable {P : Program} {w : World} {K : PySem.W.Frag} {mg : Str → Option Value} {base : Heap}
theorem g_range_digits_0_value_top_is {K : PySem.W.Frag} {cl : Str → Option Addr} {F : Hp} {vs : List V} {ps : List PV} {ws : List V} {zs : List PV} (r : IsL K cl F vs ps) (q : IsL K cl F ws zs) : IsL K cl F (g_range_digits_0_value_top vs ws) (g_range_digits_0_value_top ps zs) := by
  unfold g_range_digits_0_value_top
  split
  · match r, q with | .nil, (.cons q0 (.cons q1 .nil)) => exact (.cons q1 (.cons q0 .nil))
  · next h =>
    split
    · match r, q with | .nil, (.cons q0 (.cons q1 .nil)) => exact (h _ _ rfl rfl).elim
    · exact .nil
theorem g_range_weights_0_top_is {K : PySem.W.Frag} {cl : Str → Option Addr} {F : Hp} {vs : List V} {ps : List PV} {ws : List V} {zs : List PV} (r : IsL K cl F vs ps) (q : IsL K cl F ws zs) : IsL K cl F (g_range_weights_0_top vs ws) (g_range_weights_0_top ps zs) := by
  unfold g_range_weights_0_top
  split
  · match r, q with | .nil, (.cons q0 .nil) => exact (.cons q0 .nil)
  · next h =>
    split
    · match r, q with | .nil, (.cons q0 .nil) => exact (h _ rfl rfl).elim
    · exact .nil
def m__count_doubling (a_top : PV) : Res PV := retF ((Res.val (PV.int 0)) >>= fun x1 => (seqF (S1 := PV) (whileF (fun (s2 : PV) => (((((Res.val (PV.int 2)) >>= fun x3 => (Res.val s2) >>= fun x4 => shlP x3 x4) >>= fun x5 => (Res.val (PV.int 1)) >>= fun x6 => subP x5 x6) >>= fun x7 => (Res.val a_top) >>= fun x8 => leP x7 x8) >>= asB)) (fun (s2 : PV) => (((Res.val s2) >>= fun x9 => (Res.val (PV.int 1)) >>= fun x10 => addP x9 x10) >>= fun x11 => (Res.val (.nx x11)))) FUEL x1) fun s12 => ((Res.val s12) >>= fun v13 => Res.val (.rt v13 []))))
theorem ok__count_doubling (T : Top K mg) : FnOk P w K mg base (L2.CX P w) 1 T.f__count_doubling T.d__count_doubling ["top"] (spP K (clT T) (ap1 m__count_doubling)) := by
  refine fnP T.F__count_doubling sc_count_doubling rfl takn1 fun cdv A outer s H E hr qs hq => ?_
  match qs, hq with
  | [a_top], _ => exact ⟨_, (pss_cons (ps_set (i := 1) sc_count_doubling.nd rfl (Or.inl rfl) pe_int)
      (pss_cons (ps_while (passes_of rfl) (pt_cmpR op_le (pe_op op_sub (pe_op op_shl pe_int (pv 1)) pe_int) (pv 0) (nomark _)) (pss_one (ps_set (i := 1) sc_count_doubling.nd rfl (Or.inl rfl) (pe_op (op_addV K rfl) (pv 1) pe_int))))
      (pss_one (ps_ret (pv 1))))),
    _, run_one (run_assoc (run_set (i := 1) pu_int rfl (wk_uns rfl) fun x1 => (run_assoc (run_seq (ρj := fun (s12 : PV) => [(.fz a_top), (.fz s12)]) (run_while (ρs := fun (s2 : PV) => [(.fz a_top), (.fz s2)]) (s0 := x1) (.keep (.keep .nil)) (fun s2 => (wk_uns rfl)) (fun s2 => (ts_cmp (Pur.vw (pu_op o2_le (Pur.vw (pu_op o2_sub (Pur.vw (pu_op o2_shl (Pur.vw pu_int) (Pur.vw (pu_var rfl)))) (Pur.vw pu_int))) (Pur.vw (pu_var rfl)))))) (fun s2 => run_one (run_set (i := 1) (pu_op o2_add (Pur.vw (pu_var rfl)) (Pur.vw pu_int)) rfl (wk_uns rfl) fun x11 => (run_next (s := x11) (.keep (.keep .nil)))))) fun s12 => (run_ret (pu_var rfl) rfl rfl (wk_uns rfl)))))), rfl⟩
def m_range_weights (a_top : PV) : Res PV := retF (((Res.val a_top) >>= m__count_doubling) >>= fun x2 => (((((Res.val x2) >>= rng1) >>= fun ps6 => sized ps6.length >>= fun _ => lcF (fun x => Res.val x) (fun (a3 : PV) => (Res.val true)) (fun (a3 : PV) => ((Res.val (PV.int 1)) >>= fun x4 => (Res.val a3) >>= fun x5 => shlP x4 x5)) ps6) >>= fun ps7 => Res.val (PV.lst ps7)) >>= fun x8 => (((Res.val a_top) >>= fun x9 => ((Res.val x8) >>= sumPT) >>= fun x10 => subP x9 x10) >>= fun x11 => (((((Res.val x11) >>= fun x12 => (Res.val (PV.int 0)) >>= fun x13 => gtP x12 x13) >>= asB) >>= fun b18 => if b18 = true then (((Res.val x8) >>= asSq >>= fun ys16 => ((Res.val x11) >>= fun x14 => (Res.val []) >>= fun xs15 => Res.val (x14 :: xs15)) >>= fun xs17 => Res.val (ys16 ++ xs17)) >>= mkT) else ((Res.val x8) >>= tupleP)) >>= fun v19 => Res.val (.rt v19 [])))))
theorem ok_range_weights (T : Top K mg) : FnOk P w K mg base (L2.CX P w) 2 T.f_range_weights T.d_range_weights ["top"] (spP K (clT T) (ap1 m_range_weights)) := by
  have G__count_doubling := ok__count_doubling (P := P) (w := w) (base := base) T
  refine fnP T.F_range_weights scrange_weights rfl takn1 fun cdv A outer s H E hr qs hq => ?_
  match qs, hq with
  | [a_top], _ => exact ⟨_, (pss_cons (ps_set (i := 1) scrange_weights.nd rfl (Or.inl rfl) (pe_callS G__count_doubling (hr.mono (by decide)) rfl T.m__count_doubling T.F__count_doubling.kp T.b__count_doubling (fun σ => passAt (takes_of rfl rfl rfl rfl) σ) (pa_cons (pv 0) pa_nil)))
      (pss_cons (ps_setLc (i := 2) (own := [("at", 3)]) (g := gName 3) (tt := tYes) rfl scrange_weights.nd rfl rfl (sw_true rfl rfl rfl (by decide +kernel)) (pi_range1 (by rfl) T.z_range (pa_cons (pv 1) pa_nil)) (blkOk_by (own := [("at", 3)]) (N := ["top", "many", "weights", "at", "extra"]) (sc := defScope s_range_weights) (by decide +kernel)) (fun _ _ _ _ _ => (pg_name (i := 3) scrange_weights.nd rfl (Or.inl rfl))) (fun _ _ _ _ _ => pts_nil) (fun _ _ _ _ _ => (pe_op op_shl pe_int (pv 3))))
      (pss_cons (ps_set (i := 4) scrange_weights.nd rfl (Or.inl rfl) (pe_op op_sub (pv 0) (pe_callB (cr_sumVT K rfl rfl) (by rfl) T.z_sum (by decide +kernel) (pa_cons (pv 2) pa_nil))))
      (pss_one (ps_ret (pe_ifExp (pt_cmpR op_gt (pv 4) pe_int (nomark _)) (pe_tup (StX.pa_star (pv 2) (pa_cons (pv 4) pa_nil))) (pe_callTy (call_tupleV K rfl) (by rfl) T.z_tuple (by decide +kernel) (pa_cons (pv 2) pa_nil)))))))),
    _, run_one (run_assoc (run_set (i := 1) (pu_call1 (pu_var rfl)) rfl (wk_uns rfl) fun x2 => (run_assoc (run_set (i := 2) (New.pur (nw_lc (ρe := fun (a3 : PV) => [(.fz a_top), (.fz x2), .un, (.fz a3), .un]) (Iter.view (it_rng1 (Pur.vw (pu_var rfl)))) rfl (by decide) (tg_name (i := 3) rfl (Or.inr (by decide))) (fun a3 => ts_yes) (fun a3 => (pu_op o2_shl (Pur.vw pu_int) (Pur.vw (pu_var rfl)))))) rfl (wk_uns rfl) fun x8 => (run_assoc (run_set (i := 4) (pu_op o2_sub (Pur.vw (pu_var rfl)) (Pur.vw (pu_cb1 b1_sumT (Pur.vw (pu_var rfl))))) rfl (wk_uns rfl) fun x11 => (run_ret (pu_if (ts_cmp (Pur.vw (pu_op o2_gt (Pur.vw (pu_var rfl)) (Pur.vw pu_int)))) (pu_tup (pl_star (Pur.vw (pu_var rfl)) (pl_cons (pu_var rfl) pl_nil))) (pu_cb1 b1_tuple (Pur.vw (pu_var rfl)))) rfl rfl (wk_uns rfl)))))))), rfl⟩
def m_range_digits (a_top a_value : PV) : Res PV := retF (((((Res.val (PV.int 0)) >>= fun x1 => (Res.val a_value) >>= fun x2 => leP x1 x2 >>= asB >>= fun b4 => if b4 = true then (Res.val a_top) >>= fun x3 => leP x2 x3 else Res.val (PV.bl false)) >>= asB) >>= fun b5 => Res.val (!b5)) >>= fun b6 => if b6 = true then (Res.exc "NoWitness") else (((Res.val a_top) >>= m__count_doubling) >>= fun x8 => ((((Res.val (PV.int 1)) >>= fun x9 => (Res.val x8) >>= fun x10 => shlP x9 x10) >>= fun x11 => (Res.val (PV.int 1)) >>= fun x12 => subP x11 x12) >>= fun x13 => (((((Res.val a_value) >>= fun x14 => (Res.val x13) >>= fun x15 => gtP x14 x15) >>= asB) >>= fun b16 => if b16 = true then (Res.val (PV.int 1)) else (Res.val (PV.int 0))) >>= fun x17 => (((Res.val a_value) >>= fun x22 => ((Res.val x17) >>= fun x20 => ((Res.val a_top) >>= fun x18 => (Res.val x13) >>= fun x19 => subP x18 x19) >>= fun x21 => mulP x20 x21) >>= fun x23 => subP x22 x23) >>= fun x24 => (((((Res.val x8) >>= rng1) >>= fun ps30 => sized ps30.length >>= fun _ => lcF (fun x => Res.val x) (fun (a25 : PV) => (Res.val true)) (fun (a25 : PV) => (((Res.val x24) >>= fun x26 => (Res.val a25) >>= fun x27 => shrP x26 x27) >>= fun x28 => (Res.val (PV.int 2)) >>= fun x29 => modP x28 x29)) ps30) >>= fun ps31 => Res.val (PV.lst ps31)) >>= fun x32 => (((((Res.val a_top) >>= fun x33 => (Res.val x13) >>= fun x34 => gtP x33 x34) >>= asB) >>= fun b39 => if b39 = true then (((Res.val x32) >>= asSq >>= fun ys37 => ((Res.val x17) >>= fun x35 => (Res.val []) >>= fun xs36 => Res.val (x35 :: xs36)) >>= fun xs38 => Res.val (ys37 ++ xs38)) >>= mkT) else ((Res.val x32) >>= tupleP)) >>= fun v40 => Res.val (.rt v40 []))))))))
theorem ok_range_digits (T : Top K mg) : FnOk P w K mg base (L2.CX P w) 2 T.f_range_digits T.d_range_digits ["top", "value"] (spP K (clT T) (ap2 m_range_digits)) := by
  have G__count_doubling := ok__count_doubling (P := P) (w := w) (base := base) T
  refine fnP T.F_range_digits scrange_digits rfl takn2 fun cdv A outer s H E hr qs hq => ?_
  match qs, hq with
  | [a_top, a_value], _ => exact ⟨_, (pss_cons (ps_if (pt_not (pt_chain op_le op_le pe_int (pv 1) (pv 0))) (pss_one (ps_raise rfl (takes_of rfl rfl rfl rfl) (pmk_own0 PySem.F.excBase_ValueError T.x_NoWitness T.m_NoWitness T.kc_NoWitness (raises_own T.s_NoWitness T.t_NoWitness) rfl))) pss_nil)
      (pss_cons (ps_set (i := 2) scrange_digits.nd rfl (Or.inl rfl) (pe_callS G__count_doubling (hr.mono (by decide)) rfl T.m__count_doubling T.F__count_doubling.kp T.b__count_doubling (fun σ => passAt (takes_of rfl rfl rfl rfl) σ) (pa_cons (pv 0) pa_nil)))
      (pss_cons (ps_set (i := 3) scrange_digits.nd rfl (Or.inl rfl) (pe_op op_sub (pe_op op_shl pe_int (pv 2)) pe_int))
      (pss_cons (ps_set (i := 4) scrange_digits.nd rfl (Or.inl rfl) (pe_ifExp (pt_cmpR op_gt (pv 1) (pv 3) (nomark _)) pe_int pe_int))
      (pss_cons (ps_set (i := 5) scrange_digits.nd rfl (Or.inr rfl) (pe_op op_sub (pv 1) (pe_op op_mulV (pv 4) (pe_op op_sub (pv 0) (pv 3)))))
      (pss_cons (ps_setLc (i := 6) (own := [("at", 7)]) (g := gName 7) (tt := tYes) rfl scrange_digits.nd rfl rfl (sw_true rfl rfl rfl (by decide +kernel)) (pi_range1 (by rfl) T.z_range (pa_cons (pv 2) pa_nil)) (blkOk_by (own := [("at", 7)]) (N := ["top", "value", "many", "largest", "extra_digit", "rest", "digits", "at"]) (sc := defScope s_range_digits) (by decide +kernel)) (fun _ _ _ _ _ => (pg_name (i := 7) scrange_digits.nd rfl (Or.inl rfl))) (fun _ _ _ _ _ => pts_nil) (fun _ _ _ _ _ => (pe_op op_modN (pe_op op_shr (pv 5) (pv 7)) pe_int)))
      (pss_one (ps_ret (pe_ifExp (pt_cmpR op_gt (pv 0) (pv 3) (nomark _)) (pe_tup (StX.pa_star (pv 6) (pa_cons (pv 4) pa_nil))) (pe_callTy (call_tupleV K rfl) (by rfl) T.z_tuple (by decide +kernel) (pa_cons (pv 6) pa_nil))))))))))),
    _, run_one (run_assoc (run_if (ts_not (ts_cmp (Pur.vw (pu_chain o2_le o2_le (Pur.vw pu_int) (Pur.vw (pu_var rfl)) (Pur.vw (pu_var rfl)))))) (wk_uns rfl) (run_raise T.ce_NoWitness (wk_uns rfl)) (run_skip (run_assoc (run_set (i := 2) (pu_call1 (pu_var rfl)) rfl (wk_uns rfl) fun x8 => (run_assoc (run_set (i := 3) (pu_op o2_sub (Pur.vw (pu_op o2_shl (Pur.vw pu_int) (Pur.vw (pu_var rfl)))) (Pur.vw pu_int)) rfl (wk_uns rfl) fun x13 => (run_assoc (run_set (i := 4) (pu_if (ts_cmp (Pur.vw (pu_op o2_gt (Pur.vw (pu_var rfl)) (Pur.vw (pu_var rfl))))) pu_int pu_int) rfl (wk_uns rfl) fun x17 => (run_assoc (run_set (i := 5) (pu_op o2_sub (Pur.vw (pu_var rfl)) (Pur.vw (pu_op o2_mul (Pur.vw (pu_var rfl)) (Pur.vw (pu_op o2_sub (Pur.vw (pu_var rfl)) (Pur.vw (pu_var rfl))))))) rfl (wk_uns rfl) fun x24 => (run_assoc (run_set (i := 6) (New.pur (nw_lc (ρe := fun (a25 : PV) => [(.fz a_top), (.fz a_value), (.fz x8), (.fz x13), (.fz x17), (.fz x24), .un, (.fz a25)]) (Iter.view (it_rng1 (Pur.vw (pu_var rfl)))) rfl (by decide) (tg_name (i := 7) rfl (Or.inr (by decide))) (fun a25 => ts_yes) (fun a25 => (pu_op o2_mod (Pur.vw (pu_op o2_shr (Pur.vw (pu_var rfl)) (Pur.vw (pu_var rfl)))) (Pur.vw pu_int))))) rfl (wk_uns rfl) fun x32 => (run_ret (pu_if (ts_cmp (Pur.vw (pu_op o2_gt (Pur.vw (pu_var rfl)) (Pur.vw (pu_var rfl))))) (pu_tup (pl_star (Pur.vw (pu_var rfl)) (pl_cons (pu_var rfl) pl_nil))) (pu_cb1 b1_tuple (Pur.vw (pu_var rfl)))) rfl rfl (wk_uns rfl))))))))))))))), rfl⟩
def m__law_mix (a_cell a_salt : PV) : Res PV := retF (((((((Res.val a_cell) >>= fun x1 => (Res.val (PV.int 48271)) >>= fun x2 => mulP x1 x2) >>= fun x5 => ((Res.val a_salt) >>= fun x3 => (Res.val (PV.int 69621)) >>= fun x4 => mulP x3 x4) >>= fun x6 => addP x5 x6) >>= fun x7 => (Res.val (PV.int 12345)) >>= fun x8 => addP x7 x8) >>= intP) >>= fun x9 => (Res.val (PV.int 2147483647)) >>= fun x10 => modP x9 x10) >>= fun x11 => (((((((Res.val x11) >>= fun x12 => (Res.val x11) >>= fun x13 => mulP x12 x13) >>= fun x16 => ((Res.val x11) >>= fun x14 => (Res.val (PV.int 16807)) >>= fun x15 => mulP x14 x15) >>= fun x17 => addP x16 x17) >>= fun x20 => ((Res.val a_salt) >>= fun x18 => (Res.val (PV.int 7919)) >>= fun x19 => mulP x18 x19) >>= fun x21 => addP x20 x21) >>= intP) >>= fun x22 => (Res.val (PV.int 2147483629)) >>= fun x23 => modP x22 x23) >>= fun v24 => Res.val (.rt v24 [])))
theorem ok__law_mix (T : Top K mg) : FnOk P w K mg base (L2.CX P w) 1 T.f__law_mix T.d__law_mix ["cell", "salt"] (spP K (clT T) (ap2 m__law_mix)) := by
  refine fnP T.F__law_mix scLmix rfl takn2 fun cdv A outer s H E hr qs hq => ?_
  match qs, hq with
  | [a_cell, a_salt], _ => exact ⟨_, (pss_cons (ps_set (i := 2) scLmix.nd rfl (Or.inl rfl) (pe_op op_modN (pe_callTy call_intV (by rfl) T.z_int (by decide +kernel) (pa_cons (pe_op (op_addV K rfl) (pe_op (op_addV K rfl) (pe_op op_mulV (pv 0) pe_int) (pe_op op_mulV (pv 1) pe_int)) pe_int) pa_nil)) pe_int))
      (pss_one (ps_ret (pe_op op_modN (pe_callTy call_intV (by rfl) T.z_int (by decide +kernel) (pa_cons (pe_op (op_addV K rfl) (pe_op (op_addV K rfl) (pe_op op_mulV (pv 2) (pv 2)) (pe_op op_mulV (pv 2) pe_int)) (pe_op op_mulV (pv 1) pe_int)) pa_nil)) pe_int)))),
    _, run_one (run_assoc (run_set (i := 2) (pu_op o2_mod (Pur.vw (pu_cb1 b1_int (Pur.vw (pu_op o2_add (Pur.vw (pu_op o2_add (Pur.vw (pu_op o2_mul (Pur.vw (pu_var rfl)) (Pur.vw pu_int))) (Pur.vw (pu_op o2_mul (Pur.vw (pu_var rfl)) (Pur.vw pu_int))))) (Pur.vw pu_int))))) (Pur.vw pu_int)) rfl (wk_uns rfl) fun x11 => (run_ret (pu_op o2_mod (Pur.vw (pu_cb1 b1_int (Pur.vw (pu_op o2_add (Pur.vw (pu_op o2_add (Pur.vw (pu_op o2_mul (Pur.vw (pu_var rfl)) (Pur.vw (pu_var rfl)))) (Pur.vw (pu_op o2_mul (Pur.vw (pu_var rfl)) (Pur.vw pu_int))))) (Pur.vw (pu_op o2_mul (Pur.vw (pu_var rfl)) (Pur.vw pu_int))))))) (Pur.vw pu_int)) rfl rfl (wk_uns rfl)))), rfl⟩
def m__law_box (a_script : PV) (a_at : PV) : Res MO := retN ((((Res.val (PV.int 0)) >>= fun x14 => ((Res.val (PV.int 0)) >>= fun x12 => ((Res.val a_at) >>= fun x10 => ((Res.val (PV.int 0)) >>= fun x8 => ((Res.val a_at) >>= fun x6 => (((((Res.val a_script) >>= asSq) >>= fun ps2 => sized ps2.length >>= fun _ => lcF (fun x => Res.val x) (fun (a1 : PV) => (Res.val true)) (fun (a1 : PV) => ((Res.val a1) >>= intP)) ps2) >>= fun ps3 => Res.val (PV.lst ps3)) >>= fun x4 => (Res.val []) >>= fun xs5 => Res.val (x4 :: xs5)) >>= fun xs7 => Res.val (x6 :: xs7)) >>= fun xs9 => Res.val (x8 :: xs9)) >>= fun xs11 => Res.val (x10 :: xs11)) >>= fun xs13 => Res.val (x12 :: xs13)) >>= fun xs15 => Res.val (x14 :: xs15)) >>= mkN) >>= fun l16 => Res.val (.ro (.lst l16)))
theorem ok__law_box (T : Top K mg) : FnOk P w K mg base (L2.CX P w) 1 T.f__law_box T.d__law_box ["script", "at"] (spN K (clT T) (apN2 m__law_box)) := by
  refine fnN T.F__law_box scLbox rfl taknN2 fun cdv A outer s H E hr qs hq => ?_
  match qs, hq with
  | [a_script, a_at], _ => exact ⟨_, (pss_one (ps_ret (pe_lst (pa_cons pe_int (pa_cons pe_int (pa_cons (pv 1) (pa_cons pe_int (pa_cons (pv 1) (pa_cons (pe_lc (own := [("cell", 2)]) (g := gName 2) (tt := tYes) rfl scLbox.nd (pi_seqV K rfl (pv 0)) (blkOk_by (own := [("cell", 2)]) (N := ["script", "at", "cell"]) (sc := defScope s_Lbox) (by decide +kernel)) (fun _ _ _ _ _ => (pg_name (i := 2) scLbox.nd rfl (Or.inl rfl))) (fun _ _ _ _ _ => pts_nil) (fun _ _ _ _ _ => (pe_callTy call_intV (by rfl) T.z_int (by decide +kernel) (pa_cons (pv 2) pa_nil)))) pa_nil))))))))),
    _, run_one (run_retNew (nw_lst (pl_cons pu_int (pl_cons pu_int (pl_cons (pu_var rfl) (pl_cons pu_int (pl_cons (pu_var rfl) (pl_cons (New.pur (nw_lc (ρe := fun (a1 : PV) => [(.fz a_script), (.fz a_at), (.fz a1)]) (Iter.view (it_seq (pu_var rfl))) rfl (by decide) (tg_name (i := 2) rfl (Or.inr (by decide))) (fun a1 => ts_yes) (fun a1 => (pu_cb1 b1_int (Pur.vw (pu_var rfl)))))) pl_nil))))))) (wk_uns rfl)), rfl⟩
def m__law_draw (mo : MO) (a_many : PV) : Res (PV × MO) := match mo with
  | .lst a_box => retR (seqF (S1 := List PV) ((((((Res.val (PV.lst a_box)) >>= fun x7 => (Res.val (PV.int 1)) >>= fun x8 => ixP x7 x8) >>= fun x9 => (Res.val (PV.int 0)) >>= fun x10 => eqP x9 x10) >>= asB) >>= fun b11 => if b11 = true then ((((Res.val (PV.lst a_box)) >>= fun x1 => (Res.val (PV.int 2)) >>= fun x2 => ixP x1 x2) >>= fun x5 => (((Res.val (PV.lst a_box)) >>= fun x3 => (Res.val (PV.int 5)) >>= fun x4 => ixP x3 x4) >>= lenP) >>= fun x6 => ltP x5 x6) >>= asB) else Res.val false) >>= fun b12 => if b12 = true then ((((Res.val (PV.lst a_box)) >>= fun x14 => (Res.val (PV.int 5)) >>= fun x15 => ixP x14 x15) >>= fun x18 => ((Res.val (PV.lst a_box)) >>= fun x16 => (Res.val (PV.int 2)) >>= fun x17 => ixP x16 x17) >>= fun x19 => ixP x18 x19) >>= fun x20 => ((((Res.val (PV.lst a_box)) >>= fun x21 => (Res.val (PV.int 2)) >>= fun x22 => ixP x21 x22) >>= fun x23 => (Res.val (PV.int 2)) >>= fun x24 => addP x23 x24) >>= fun x25 => (Res.val (PV.int 2)) >>= fun k26 => setL a_box k26 x25 >>= fun qs27 => (((((((Res.val (PV.lst qs27)) >>= fun x28 => (Res.val (PV.int 4)) >>= fun x29 => ixP x28 x29) >>= fun x30 => (Res.val (PV.int 31)) >>= fun x31 => mulP x30 x31) >>= fun x32 => (Res.val x20) >>= fun x33 => addP x32 x33) >>= intP) >>= fun x34 => (Res.val (PV.int 2147483647)) >>= fun x35 => modP x34 x35) >>= fun x36 => (Res.val (PV.int 4)) >>= fun k37 => setL qs27 k37 x36 >>= fun qs38 => ((((Res.val x20) >>= fun x41 => ((Res.val (PV.int 10)) >>= fun x39 => (Res.val (PV.int 18)) >>= fun x40 => powP x39 x40) >>= fun x42 => geP x41 x42) >>= asB) >>= fun b43 => if b43 = true then (((Res.val x20) >>= fun x46 => ((Res.val (PV.int 10)) >>= fun x44 => (Res.val (PV.int 18)) >>= fun x45 => powP x44 x45) >>= fun x47 => subP x46 x47) >>= fun x48 => (Res.val (PV.int 0)) >>= fun k49 => setL qs38 k49 x48 >>= fun qs50 => ((Res.val (PV.int 60)) >>= fun x51 => (Res.val (PV.int 1)) >>= fun k52 => setL qs50 k52 x51 >>= fun qs53 => (Res.val (.nx qs53)))) else (Res.val (.nx qs38)))))) else (Res.val (.nx a_box))) fun s13 => ((((((Res.val (PV.lst s13)) >>= fun x58 => (Res.val (PV.int 1)) >>= fun x59 => ixP x58 x59) >>= fun x60 => (Res.val (PV.int 0)) >>= fun x61 => gtP x60 x61) >>= asB) >>= fun b62 => if b62 = true then ((((Res.val (PV.lst s13)) >>= fun x54 => (Res.val (PV.int 0)) >>= fun x55 => ixP x54 x55) >>= fun x56 => (Res.val (PV.int 0)) >>= fun x57 => gtP x56 x57) >>= asB) else Res.val false) >>= fun b63 => if b63 = true then (((((Res.val (PV.lst s13)) >>= fun x64 => (Res.val (PV.int 0)) >>= fun x65 => ixP x64 x65) >>= intP) >>= fun x66 => (Res.val a_many) >>= fun x67 => modP x66 x67) >>= fun x68 => ((((Res.val (PV.lst s13)) >>= fun x69 => (Res.val (PV.int 0)) >>= fun x70 => ixP x69 x70) >>= fun x71 => (Res.val a_many) >>= fun x72 => fdivP x71 x72) >>= fun x73 => (Res.val (PV.int 0)) >>= fun k74 => setL s13 k74 x73 >>= fun qs75 => ((((Res.val (PV.lst qs75)) >>= fun x76 => (Res.val (PV.int 1)) >>= fun x77 => ixP x76 x77) >>= fun x78 => (Res.val (PV.int 1)) >>= fun x79 => subP x78 x79) >>= fun x80 => (Res.val (PV.int 1)) >>= fun k81 => setL qs75 k81 x80 >>= fun qs82 => ((Res.val x68) >>= fun v83 => Res.val (.rt v83 [.lst qs82]))))) else ((Res.val (PV.int 0)) >>= fun x84 => (Res.val (PV.int 1)) >>= fun k85 => setL s13 k85 x84 >>= fun qs86 => ((((Res.val (PV.lst qs86)) >>= fun x87 => (Res.val (PV.int 3)) >>= fun x88 => ixP x87 x88) >>= fun x89 => (Res.val (PV.int 1)) >>= fun x90 => addP x89 x90) >>= fun x91 => (Res.val (PV.int 3)) >>= fun k92 => setL qs86 k92 x91 >>= fun qs93 => ((((((Res.val (PV.lst qs93)) >>= fun x94 => (Res.val (PV.int 4)) >>= fun x95 => ixP x94 x95) >>= fun x98 => ((Res.val (PV.lst qs93)) >>= fun x96 => (Res.val (PV.int 3)) >>= fun x97 => ixP x96 x97) >>= fun x99 => m__law_mix x98 x99) >>= intP) >>= fun x100 => (Res.val a_many) >>= fun x101 => modP x100 x101) >>= fun v102 => Res.val (.rt v102 [.lst qs93]))))))
  | _ => .stuck
theorem ok__law_draw (T : Top K mg) : FnOk P w K mg base (L2.CX P w) 2 T.f__law_draw T.d__law_draw ["box", "many"] (spR K (clT T) (apR1 m__law_draw)) := by
  have G__law_mix := ok__law_mix (P := P) (w := w) (base := base) T
  refine fnR T.F__law_draw scLdraw rfl taknR1 fun cdv A outer s H E hr mo qs hq => ?_
  match mo, qs, hq with
  | .dct _, [_], _ => exact .inl rfl
  | .lst a_box, [a_many], _ => exact .inr ⟨_, (pss_cons (ps_if (PW.pt (pw_and (pt_cmpR (op_eqV K rfl hr.units) (pe_ix (ix_VK K rfl) (pv 0) pe_int (fun _ _ => rfl)) pe_int (nomark _)) (pw_and1 (pt_cmpR op_lt (pe_ix (ix_VK K rfl) (pv 0) pe_int (fun _ _ => rfl)) (pe_callB (call_lenVK K rfl) (by rfl) T.z_len PySem.boot_len (pa_cons (pe_ix (ix_VK K rfl) (pv 0) pe_int (fun _ _ => rfl)) pa_nil)) (nomark _))))) (pss_cons (ps_set (i := 2) scLdraw.nd rfl (Or.inl rfl) (pe_ix (ix_VK K rfl) (pe_ix (ix_VK K rfl) (pv 0) pe_int (fun _ _ => rfl)) (pe_ix (ix_VK K rfl) (pv 0) pe_int (fun _ _ => rfl)) (fun _ _ => rfl)))
      (pss_cons (ps_asg (pe_op (op_addV K rfl) (pe_ix (ix_VK K rfl) (pv 0) pe_int (fun _ _ => rfl)) pe_int) (pg_sub (pv 0) pe_int set_list))
      (pss_cons (ps_asg (pe_op op_modN (pe_callTy call_intV (by rfl) T.z_int (by decide +kernel) (pa_cons (pe_op (op_addV K rfl) (pe_op op_mulV (pe_ix (ix_VK K rfl) (pv 0) pe_int (fun _ _ => rfl)) pe_int) (pv 2)) pa_nil)) pe_int) (pg_sub (pv 0) pe_int set_list))
      (pss_one (ps_if (pt_cmpR op_ge (pv 2) (pe_op op_pow pe_int pe_int) (nomark _)) (pss_cons (ps_asg (pe_op op_sub (pv 2) (pe_op op_pow pe_int pe_int)) (pg_sub (pv 0) pe_int set_list))
      (pss_one (ps_asg pe_int (pg_sub (pv 0) pe_int set_list)))) pss_nil))))) pss_nil)
      (pss_cons (ps_if (PW.pt (pw_and (pt_cmpR op_gt (pe_ix (ix_VK K rfl) (pv 0) pe_int (fun _ _ => rfl)) pe_int (nomark _)) (pw_and1 (pt_cmpR op_gt (pe_ix (ix_VK K rfl) (pv 0) pe_int (fun _ _ => rfl)) pe_int (nomark _))))) (pss_cons (ps_set (i := 3) scLdraw.nd rfl (Or.inl rfl) (pe_op op_modN (pe_callTy call_intV (by rfl) T.z_int (by decide +kernel) (pa_cons (pe_ix (ix_VK K rfl) (pv 0) pe_int (fun _ _ => rfl)) pa_nil)) (pv 1)))
      (pss_cons (ps_asg (pe_op op_fdivV (pe_ix (ix_VK K rfl) (pv 0) pe_int (fun _ _ => rfl)) (pv 1)) (pg_sub (pv 0) pe_int set_list))
      (pss_cons (ps_asg (pe_op op_sub (pe_ix (ix_VK K rfl) (pv 0) pe_int (fun _ _ => rfl)) pe_int) (pg_sub (pv 0) pe_int set_list))
      (pss_one (ps_ret (pv 3)))))) pss_nil)
      (pss_cons (ps_asg pe_int (pg_sub (pv 0) pe_int set_list))
      (pss_cons (ps_asg (pe_op (op_addV K rfl) (pe_ix (ix_VK K rfl) (pv 0) pe_int (fun _ _ => rfl)) pe_int) (pg_sub (pv 0) pe_int set_list))
      (pss_one (ps_ret (pe_op op_modN (pe_callTy call_intV (by rfl) T.z_int (by decide +kernel) (pa_cons (pe_callS G__law_mix (hr.mono (by decide)) rfl T.m__law_mix T.F__law_mix.kp T.b__law_mix (fun σ => passAt (takes_of rfl rfl rfl rfl) σ) (pa_cons (pe_ix (ix_VK K rfl) (pv 0) pe_int (fun _ _ => rfl)) (pa_cons (pe_ix (ix_VK K rfl) (pv 0) pe_int (fun _ _ => rfl)) pa_nil))) pa_nil)) (pv 1)))))))),
    _, run_one (run_assoc (run_seq (ρj := fun (s13 : List PV) => [(.rf 0 (.lst s13)), (.fz a_many), .un, .un]) (run_one (run_if (ts_and (ts_cmp (Pur.vw (pu_op o2_eq (Pur.vw (pu_op o2_ix (vw_rf rfl) (Pur.vw pu_int))) (Pur.vw pu_int)))) (ts_cmp (Pur.vw (pu_op o2_lt (Pur.vw (pu_op o2_ix (vw_rf rfl) (Pur.vw pu_int))) (Pur.vw (pu_cb1 b1_len (Pur.vw (pu_op o2_ix (vw_rf rfl) (Pur.vw pu_int))))))))) (wk_uns rfl) (run_assoc (run_set (i := 2) (pu_op o2_ix (Pur.vw (pu_op o2_ix (vw_rf rfl) (Pur.vw pu_int))) (Pur.vw (pu_op o2_ix (vw_rf rfl) (Pur.vw pu_int)))) rfl (wk_uns rfl) fun x20 => (run_assoc (run_setitem (i := 0) rfl (Or.inr ⟨_, rfl⟩) (pu_op o2_add (Pur.vw (pu_op o2_ix (vw_rf rfl) (Pur.vw pu_int))) (Pur.vw pu_int)) (Pur.vw pu_int) (wk_uns rfl) fun qs27 => (run_assoc (run_setitem (i := 0) rfl (Or.inr ⟨_, rfl⟩) (pu_op o2_mod (Pur.vw (pu_cb1 b1_int (Pur.vw (pu_op o2_add (Pur.vw (pu_op o2_mul (Pur.vw (pu_op o2_ix (vw_rf rfl) (Pur.vw pu_int))) (Pur.vw pu_int))) (Pur.vw (pu_var rfl)))))) (Pur.vw pu_int)) (Pur.vw pu_int) (wk_uns rfl) fun qs38 => (run_if (ts_cmp (Pur.vw (pu_op o2_ge (Pur.vw (pu_var rfl)) (Pur.vw (pu_op o2_pow (Pur.vw pu_int) (Pur.vw pu_int)))))) (wk_uns rfl) (run_assoc (run_setitem (i := 0) rfl (Or.inr ⟨_, rfl⟩) (pu_op o2_sub (Pur.vw (pu_var rfl)) (Pur.vw (pu_op o2_pow (Pur.vw pu_int) (Pur.vw pu_int)))) (Pur.vw pu_int) (wk_uns rfl) fun qs50 => (run_setitem (i := 0) rfl (Or.inr ⟨_, rfl⟩) pu_int (Pur.vw pu_int) (wk_uns rfl) fun qs53 => (run_next (s := qs53) (.keep (.keep (.drop (.keep .nil)))))))) (run_skip (run_next (s := qs38) (.keep (.keep (.drop (.keep .nil))))))))))))) (run_skip (run_next (s := a_box) (.keep (.keep (.keep (.keep .nil)))))))) fun s13 => (run_assoc (run_if (ts_and (ts_cmp (Pur.vw (pu_op o2_gt (Pur.vw (pu_op o2_ix (vw_rf rfl) (Pur.vw pu_int))) (Pur.vw pu_int)))) (ts_cmp (Pur.vw (pu_op o2_gt (Pur.vw (pu_op o2_ix (vw_rf rfl) (Pur.vw pu_int))) (Pur.vw pu_int))))) (wk_uns rfl) (run_assoc (run_set (i := 3) (pu_op o2_mod (Pur.vw (pu_cb1 b1_int (Pur.vw (pu_op o2_ix (vw_rf rfl) (Pur.vw pu_int))))) (Pur.vw (pu_var rfl))) rfl (wk_uns rfl) fun x68 => (run_assoc (run_setitem (i := 0) rfl (Or.inr ⟨_, rfl⟩) (pu_op o2_fdiv (Pur.vw (pu_op o2_ix (vw_rf rfl) (Pur.vw pu_int))) (Pur.vw (pu_var rfl))) (Pur.vw pu_int) (wk_uns rfl) fun qs75 => (run_assoc (run_setitem (i := 0) rfl (Or.inr ⟨_, rfl⟩) (pu_op o2_sub (Pur.vw (pu_op o2_ix (vw_rf rfl) (Pur.vw pu_int))) (Pur.vw pu_int)) (Pur.vw pu_int) (wk_uns rfl) fun qs82 => (run_ret (pu_var rfl) rfl rfl (wk_uns rfl)))))))) (run_skip (run_assoc (run_setitem (i := 0) rfl (Or.inr ⟨_, rfl⟩) pu_int (Pur.vw pu_int) (wk_uns rfl) fun qs86 => (run_assoc (run_setitem (i := 0) rfl (Or.inr ⟨_, rfl⟩) (pu_op o2_add (Pur.vw (pu_op o2_ix (vw_rf rfl) (Pur.vw pu_int))) (Pur.vw pu_int)) (Pur.vw pu_int) (wk_uns rfl) fun qs93 => (run_ret (pu_op o2_mod (Pur.vw (pu_cb1 b1_int (Pur.vw (pu_call2 (pu_op o2_ix (vw_rf rfl) (Pur.vw pu_int)) (pu_op o2_ix (vw_rf rfl) (Pur.vw pu_int)))))) (Pur.vw (pu_var rfl))) rfl rfl (wk_uns rfl))))))))))), rfl⟩
def m__law_alike : Nat → PV → PV → Res PV
  | 0, _, _ => .stuck
  | n + 1, a_told, a_due => retF ((((Res.val a_due) >>= (isiP2 "tuple" "list")) >>= asB) >>= fun b1 => if b1 = true then ((((((Res.val a_told) >>= fun x8 => (Res.val (PV.ty "tuple")) >>= fun x9 => isiP x8 x9) >>= fun x12 => ((Res.val a_due) >>= fun x10 => (Res.val (PV.ty "tuple")) >>= fun x11 => isiP x10 x11) >>= fun x13 => neP x12 x13) >>= asB) >>= fun b14 => if b14 = true then Res.val true else ((((Res.val a_told) >>= fun x2 => (Res.val (PV.ty "list")) >>= fun x3 => isiP x2 x3) >>= fun x6 => ((Res.val a_due) >>= fun x4 => (Res.val (PV.ty "list")) >>= fun x5 => isiP x4 x5) >>= fun x7 => neP x6 x7) >>= asB)) >>= fun b15 => if b15 = true then ((Res.val (PV.bl false)) >>= fun v16 => Res.val (.rt v16 [])) else (((((Res.val a_told) >>= lenP) >>= fun x17 => ((Res.val a_due) >>= lenP) >>= fun x18 => neP x17 x18) >>= asB) >>= fun b19 => if b19 = true then ((Res.val (PV.bl false)) >>= fun v20 => Res.val (.rt v20 [])) else (seqF (S1 := Unit) ((((Res.val a_due) >>= lenP) >>= rng1) >>= fun ps32 => forF (fun (x33 : PV) (s21 : Unit) => (fun x => Res.val x) x33 >>= fun (a22 : PV) => ((((((Res.val a_told) >>= fun x23 => (Res.val a22) >>= fun x24 => ixP x23 x24) >>= fun x27 => ((Res.val a_due) >>= fun x25 => (Res.val a22) >>= fun x26 => ixP x25 x26) >>= fun x28 => (m__law_alike n) x27 x28) >>= asB) >>= fun b29 => Res.val (!b29)) >>= fun b30 => if b30 = true then ((Res.val (PV.bl false)) >>= fun v31 => Res.val (.rt v31 [])) else (Res.val (.nx ())))) ps32 ()) fun s34 => ((Res.val (PV.bl true)) >>= fun v35 => Res.val (.rt v35 []))))) else ((((Res.val a_due) >>= fun x36 => (Res.val PV.non) >>= fun x37 => isP x36 x37) >>= asB) >>= fun b38 => if b38 = true then (((Res.val a_told) >>= fun x39 => (Res.val PV.non) >>= fun x40 => isP x39 x40) >>= fun v41 => Res.val (.rt v41 [])) else ((((Res.val a_due) >>= fun x42 => (Res.val (PV.ty "bool")) >>= fun x43 => isiP x42 x43) >>= asB) >>= fun b44 => if b44 = true then ((((Res.val a_told) >>= fun x47 => (Res.val (PV.ty "bool")) >>= fun x48 => isiP x47 x48) >>= asB >>= fun b49 => if b49 = true then ((Res.val a_told) >>= fun x45 => (Res.val a_due) >>= fun x46 => eqP x45 x46) else Res.val (PV.bl false)) >>= fun v50 => Res.val (.rt v50 [])) else ((((Res.val a_due) >>= fun x51 => (Res.val (PV.ty "str")) >>= fun x52 => isiP x51 x52) >>= asB) >>= fun b53 => if b53 = true then ((((Res.val a_told) >>= fun x56 => (Res.val (PV.ty "str")) >>= fun x57 => isiP x56 x57) >>= asB >>= fun b58 => if b58 = true then ((Res.val a_told) >>= fun x54 => (Res.val a_due) >>= fun x55 => eqP x54 x55) else Res.val (PV.bl false)) >>= fun v59 => Res.val (.rt v59 [])) else ((((Res.val a_told) >>= fun x66 => (Res.val (PV.ty "int")) >>= fun x67 => isiP x66 x67) >>= asB >>= fun b68 => if b68 = true then ((((Res.val a_told) >>= fun x62 => (Res.val (PV.ty "bool")) >>= fun x63 => isiP x62 x63) >>= asB >>= fun b64 => Res.val (PV.bl (!b64))) >>= asB >>= fun b65 => if b65 = true then ((Res.val a_told) >>= fun x60 => (Res.val a_due) >>= fun x61 => eqP x60 x61) else Res.val (PV.bl false)) else Res.val (PV.bl false)) >>= fun v69 => Res.val (.rt v69 []))))))
theorem ok__law_alike (T : Top K mg) : ∀ n : Nat, FnOk P w K mg base (L2.CX P w) (1 + n) T.f__law_alike T.d__law_alike ["told", "due"] (spP K (clT T) (ap2 (m__law_alike n)))
  | 0 => fn_stuck stuck2
  | n + 1 => by
    have G__law_alike := ok__law_alike T n
  
    refine fnP (k := 1 + n) T.F__law_alike scLalike rfl takn2 fun cdv A outer s H E hr qs hq => ?_
    match qs, hq with
    | [a_told, a_due], _ => exact ⟨_, (pss_cons (ps_if (pt_val (pe_callB (call_isiTV K rfl) (by rfl) T.z_isinstance (by decide +kernel) (pa_cons (pv 1) (pa_cons (pe_tup (pa_cons (pe_bltn (v := .ty "tuple") (by rfl) T.z_tuple (by decide +kernel) rfl) (pa_cons (pe_bltn (v := .ty "list") (by rfl) T.z_list (by decide +kernel) rfl) pa_nil))) pa_nil)))) (pss_cons (ps_if (PW.pt (pw_or (pt_cmpR (op_neV K rfl hr.units) (pe_callB (call_isiV K rfl) (by rfl) T.z_isinstance (by decide +kernel) (pa_cons (pv 0) (pa_cons (pe_bltn (v := .ty "tuple") (by rfl) T.z_tuple (by decide +kernel) rfl) pa_nil))) (pe_callB (call_isiV K rfl) (by rfl) T.z_isinstance (by decide +kernel) (pa_cons (pv 1) (pa_cons (pe_bltn (v := .ty "tuple") (by rfl) T.z_tuple (by decide +kernel) rfl) pa_nil))) (nomark _)) (pw_or1 (pt_cmpR (op_neV K rfl hr.units) (pe_callB (call_isiV K rfl) (by rfl) T.z_isinstance (by decide +kernel) (pa_cons (pv 0) (pa_cons (pe_bltn (v := .ty "list") (by rfl) T.z_list (by decide +kernel) rfl) pa_nil))) (pe_callB (call_isiV K rfl) (by rfl) T.z_isinstance (by decide +kernel) (pa_cons (pv 1) (pa_cons (pe_bltn (v := .ty "list") (by rfl) T.z_list (by decide +kernel) rfl) pa_nil))) (nomark _))))) (pss_one (ps_ret pe_bl)) pss_nil)
        (pss_cons (ps_if (pt_cmpR (op_neV K rfl hr.units) (pe_callB (call_lenVK K rfl) (by rfl) T.z_len PySem.boot_len (pa_cons (pv 0) pa_nil)) (pe_callB (call_lenVK K rfl) (by rfl) T.z_len PySem.boot_len (pa_cons (pv 1) pa_nil)) (nomark _)) (pss_one (ps_ret pe_bl)) pss_nil)
        (pss_cons (ps_for (passes_of rfl) rfl (pi_range1 (by rfl) T.z_range (pa_cons (pe_callB (call_lenVK K rfl) (by rfl) T.z_len PySem.boot_len (pa_cons (pv 1) pa_nil)) pa_nil)) (pg_name (i := 2) scLalike.nd rfl (Or.inl rfl)) (pss_one (ps_if (pt_not (pt_val (pe_callS G__law_alike hr rfl T.m__law_alike T.F__law_alike.kp T.b__law_alike (fun σ => passAt (takes_of rfl rfl rfl rfl) σ) (pa_cons (pe_ix (ix_VK K rfl) (pv 0) (pv 2) (fun _ _ => rfl)) (pa_cons (pe_ix (ix_VK K rfl) (pv 1) (pv 2) (fun _ _ => rfl)) pa_nil))))) (pss_one (ps_ret pe_bl)) pss_nil)))
        (pss_one (ps_ret pe_bl))))) pss_nil)
        (pss_cons (ps_if (pt_cmpR op_isN (pv 1) pe_non (nomark _)) (pss_one (ps_ret (pe_cmpR op_isN (pv 0) pe_non (nomark _)))) pss_nil)
        (pss_cons (ps_if (pt_val (pe_callB (call_isiV K rfl) (by rfl) T.z_isinstance (by decide +kernel) (pa_cons (pv 1) (pa_cons (pe_bltn (v := .ty "bool") (by rfl) T.z_bool (by decide +kernel) rfl) pa_nil)))) (pss_one (ps_ret (pe_and (pe_callB (call_isiV K rfl) (by rfl) T.z_isinstance (by decide +kernel) (pa_cons (pv 0) (pa_cons (pe_bltn (v := .ty "bool") (by rfl) T.z_bool (by decide +kernel) rfl) pa_nil))) (pe_one (pe_cmpR (op_eqV K rfl hr.units) (pv 0) (pv 1) (nomark _)))))) pss_nil)
        (pss_cons (ps_if (pt_val (pe_callB (call_isiV K rfl) (by rfl) T.z_isinstance (by decide +kernel) (pa_cons (pv 1) (pa_cons (pe_bltn (v := .ty "str") (by rfl) T.z_str (by decide +kernel) rfl) pa_nil)))) (pss_one (ps_ret (pe_and (pe_callB (call_isiV K rfl) (by rfl) T.z_isinstance (by decide +kernel) (pa_cons (pv 0) (pa_cons (pe_bltn (v := .ty "str") (by rfl) T.z_str (by decide +kernel) rfl) pa_nil))) (pe_one (pe_cmpR (op_eqV K rfl hr.units) (pv 0) (pv 1) (nomark _)))))) pss_nil)
        (pss_one (ps_ret (pe_and (pe_callB (call_isiV K rfl) (by rfl) T.z_isinstance (by decide +kernel) (pa_cons (pv 0) (pa_cons (pe_bltn (v := .ty "int") (by rfl) T.z_int (by decide +kernel) rfl) pa_nil))) (pe_and (pe_not (pe_callB (call_isiV K rfl) (by rfl) T.z_isinstance (by decide +kernel) (pa_cons (pv 0) (pa_cons (pe_bltn (v := .ty "bool") (by rfl) T.z_bool (by decide +kernel) rfl) pa_nil)))) (pe_one (pe_cmpR (op_eqV K rfl hr.units) (pv 0) (pv 1) (nomark _))))))))))),
      _, run_one (run_assoc (run_if (ts_val (Pur.vw (pu_isi2 (Pur.vw (pu_var rfl))))) (wk_uns rfl) (run_assoc (run_if (ts_or (ts_cmp (Pur.vw (pu_op o2_ne (Pur.vw (pu_cb2 b2_isi (Pur.vw (pu_var rfl)) (Pur.vw pu_ty))) (Pur.vw (pu_cb2 b2_isi (Pur.vw (pu_var rfl)) (Pur.vw pu_ty)))))) (ts_cmp (Pur.vw (pu_op o2_ne (Pur.vw (pu_cb2 b2_isi (Pur.vw (pu_var rfl)) (Pur.vw pu_ty))) (Pur.vw (pu_cb2 b2_isi (Pur.vw (pu_var rfl)) (Pur.vw pu_ty))))))) (wk_uns rfl) (run_ret pu_bl rfl rfl (wk_uns rfl)) (run_skip (run_assoc (run_if (ts_cmp (Pur.vw (pu_op o2_ne (Pur.vw (pu_cb1 b1_len (Pur.vw (pu_var rfl)))) (Pur.vw (pu_cb1 b1_len (Pur.vw (pu_var rfl))))))) (wk_uns rfl) (run_ret pu_bl rfl rfl (wk_uns rfl)) (run_skip (run_assoc (run_seq (ρj := fun (s34 : Unit) => [(.fz a_told), (.fz a_due), .un]) (run_for (ρs := fun (s21 : Unit) => [(.fz a_told), (.fz a_due), .un]) (s0 := ()) (ρe := fun (s21 : Unit) (a22 : PV) => [(.fz a_told), (.fz a_due), (.fz a22)]) (it_rng1 (Pur.vw (pu_cb1 b1_len (Pur.vw (pu_var rfl))))) (.keep (.keep (.keep .nil))) (wk_uns rfl) (fun s21 => (tg_name (i := 2) rfl (Or.inl rfl))) (fun a22 s21 => run_one (run_if (ts_not (ts_val (Pur.vw (pu_call2 (pu_op o2_ix (Pur.vw (pu_var rfl)) (Pur.vw (pu_var rfl))) (pu_op o2_ix (Pur.vw (pu_var rfl)) (Pur.vw (pu_var rfl))))))) (wk_uns rfl) (run_ret pu_bl rfl rfl (wk_uns rfl)) (run_skip (run_next (s := ()) (.keep (.keep (.drop .nil)))))))) fun s34 => (run_ret pu_bl rfl rfl (wk_uns rfl)))))))))) (run_skip (run_assoc (run_if (ts_cmp (Pur.vw (pu_op o2_is (Pur.vw (pu_var rfl)) (Pur.vw pu_non)))) (wk_uns rfl) (run_ret (pu_op o2_is (Pur.vw (pu_var rfl)) (Pur.vw pu_non)) rfl rfl (wk_uns rfl)) (run_skip (run_assoc (run_if (ts_val (Pur.vw (pu_cb2 b2_isi (Pur.vw (pu_var rfl)) (Pur.vw pu_ty)))) (wk_uns rfl) (run_ret (pu_andV (Pur.vw (pu_cb2 b2_isi (Pur.vw (pu_var rfl)) (Pur.vw pu_ty))) (pu_op o2_eq (Pur.vw (pu_var rfl)) (Pur.vw (pu_var rfl)))) rfl rfl (wk_uns rfl)) (run_skip (run_assoc (run_if (ts_val (Pur.vw (pu_cb2 b2_isi (Pur.vw (pu_var rfl)) (Pur.vw pu_ty)))) (wk_uns rfl) (run_ret (pu_andV (Pur.vw (pu_cb2 b2_isi (Pur.vw (pu_var rfl)) (Pur.vw pu_ty))) (pu_op o2_eq (Pur.vw (pu_var rfl)) (Pur.vw (pu_var rfl)))) rfl rfl (wk_uns rfl)) (run_skip (run_ret (pu_andV (Pur.vw (pu_cb2 b2_isi (Pur.vw (pu_var rfl)) (Pur.vw pu_ty))) (pu_andV (Pur.vw (pu_notV (Pur.vw (pu_cb2 b2_isi (Pur.vw (pu_var rfl)) (Pur.vw pu_ty))))) (pu_op o2_eq (Pur.vw (pu_var rfl)) (Pur.vw (pu_var rfl))))) rfl rfl (wk_uns rfl)))))))))))))), rfl⟩
def m__law_pure (a_top : PV) : Res PV := retF ((Res.val (PV.int 0)) >>= fun x1 => ((Res.val (PV.int 0)) >>= fun x2 => (seqF (S1 := PV × PV) (whileF (fun (s3 : PV × PV) => (((((Res.val (PV.int 2)) >>= fun x4 => (Res.val s3.1) >>= fun x5 => mulP x4 x5) >>= fun x6 => (Res.val (PV.int 1)) >>= fun x7 => addP x6 x7) >>= fun x8 => (Res.val a_top) >>= fun x9 => leP x8 x9) >>= asB)) (fun (s3 : PV × PV) => ((((Res.val (PV.int 2)) >>= fun x10 => (Res.val s3.1) >>= fun x11 => mulP x10 x11) >>= fun x12 => (Res.val (PV.int 1)) >>= fun x13 => addP x12 x13) >>= fun x14 => (((Res.val s3.2) >>= fun x15 => (Res.val (PV.int 1)) >>= fun x16 => addP x15 x16) >>= fun x17 => (Res.val (.nx (x14, x17)))))) FUEL (x2, x1)) fun s18 => ((Res.val s18.2) >>= fun v19 => Res.val (.rt v19 [])))))
theorem ok__law_pure (T : Top K mg) : FnOk P w K mg base (L2.CX P w) 1 T.f__law_pure T.d__law_pure ["top"] (spP K (clT T) (ap1 m__law_pure)) := by
  refine fnP T.F__law_pure scLpure rfl takn1 fun cdv A outer s H E hr qs hq => ?_
  match qs, hq with
  | [a_top], _ => exact ⟨_, (pss_cons (ps_set (i := 1) scLpure.nd rfl (Or.inl rfl) pe_int)
      (pss_cons (ps_set (i := 2) scLpure.nd rfl (Or.inl rfl) pe_int)
      (pss_cons (ps_while (passes_of rfl) (pt_cmpR op_le (pe_op (op_addV K rfl) (pe_op op_mulV pe_int (pv 2)) pe_int) (pv 0) (nomark _)) (pss_cons (ps_set (i := 2) scLpure.nd rfl (Or.inl rfl) (pe_op (op_addV K rfl) (pe_op op_mulV pe_int (pv 2)) pe_int))
      (pss_one (ps_set (i := 1) scLpure.nd rfl (Or.inl rfl) (pe_op (op_addV K rfl) (pv 1) pe_int)))))
      (pss_one (ps_ret (pv 1)))))),
    _, run_one (run_assoc (run_set (i := 1) pu_int rfl (wk_uns rfl) fun x1 => (run_assoc (run_set (i := 2) pu_int rfl (wk_uns rfl) fun x2 => (run_assoc (run_seq (ρj := fun (s18 : PV × PV) => [(.fz a_top), (.fz s18.2), (.fz s18.1)]) (run_while (ρs := fun (s3 : PV × PV) => [(.fz a_top), (.fz s3.2), (.fz s3.1)]) (s0 := (x2, x1)) (.keep (.keep (.keep .nil))) (fun s3 => (wk_uns rfl)) (fun s3 => (ts_cmp (Pur.vw (pu_op o2_le (Pur.vw (pu_op o2_add (Pur.vw (pu_op o2_mul (Pur.vw pu_int) (Pur.vw (pu_var rfl)))) (Pur.vw pu_int))) (Pur.vw (pu_var rfl)))))) (fun s3 => run_one (run_assoc (run_set (i := 2) (pu_op o2_add (Pur.vw (pu_op o2_mul (Pur.vw pu_int) (Pur.vw (pu_var rfl)))) (Pur.vw pu_int)) rfl (wk_uns rfl) fun x14 => (run_set (i := 1) (pu_op o2_add (Pur.vw (pu_var rfl)) (Pur.vw pu_int)) rfl (wk_uns rfl) fun x17 => (run_next (s := (x14, x17)) (.keep (.keep (.keep .nil))))))))) fun s18 => (run_ret (pu_var rfl) rfl rfl (wk_uns rfl)))))))), rfl⟩
def m__law_weights (a_top : PV) : Res PV := retF (((Res.val []) >>= mkN) >>= fun l1 => ((Res.val (PV.int 1)) >>= fun x2 => (seqF (S1 := List PV × PV) ((((Res.val a_top) >>= m__law_pure) >>= rng1) >>= fun ps10 => forF (fun (x11 : PV) (s4 : List PV × PV) => (fun x => Res.val x) x11 >>= fun (a5 : PV) => ((Res.val s4.2) >>= fun x6 => sized (s4.1.length + 1) >>= fun _ => (((Res.val (PV.int 2)) >>= fun x7 => (Res.val s4.2) >>= fun x8 => mulP x7 x8) >>= fun x9 => (Res.val (.nx ((s4.1 ++ [x6]), x9)))))) ps10 (l1, x2)) fun s12 => (seqF (S1 := List PV) ((((Res.val a_top) >>= fun x15 => ((Res.val s12.2) >>= fun x13 => (Res.val (PV.int 1)) >>= fun x14 => subP x13 x14) >>= fun x16 => gtP x15 x16) >>= asB) >>= fun b17 => if b17 = true then ((((Res.val a_top) >>= fun x19 => (Res.val s12.2) >>= fun x20 => subP x19 x20) >>= fun x21 => (Res.val (PV.int 1)) >>= fun x22 => addP x21 x22) >>= fun x23 => sized (s12.1.length + 1) >>= fun _ => (Res.val (.nx (s12.1 ++ [x23])))) else (Res.val (.nx s12.1))) fun s18 => (((Res.val (PV.lst s18)) >>= tupleP) >>= fun v24 => Res.val (.rt v24 []))))))
theorem ok__law_weights (T : Top K mg) : FnOk P w K mg base (L2.CX P w) 2 T.f__law_weights T.d__law_weights ["top"] (spP K (clT T) (ap1 m__law_weights)) := by
  have G__law_pure := ok__law_pure (P := P) (w := w) (base := base) T
  refine fnP T.F__law_weights scLweights rfl takn1 fun cdv A outer s H E hr qs hq => ?_
  match qs, hq with
  | [a_top], _ => exact ⟨_, (pss_cons (ps_set (i := 1) scLweights.nd rfl (Or.inl rfl) (pe_lst pa_nil))
      (pss_cons (ps_set (i := 2) scLweights.nd rfl (Or.inl rfl) pe_int)
      (pss_cons (ps_for (passes_of rfl) rfl (pi_range1 (by rfl) T.z_range (pa_cons (pe_callS G__law_pure (hr.mono (by decide)) rfl T.m__law_pure T.F__law_pure.kp T.b__law_pure (fun σ => passAt (takes_of rfl rfl rfl rfl) σ) (pa_cons (pv 0) pa_nil)) pa_nil)) (pg_name (i := 3) scLweights.nd rfl (Or.inl rfl)) (pss_cons (ps_expr (pe_bm PySem.F.plainAttrs_list PySem.F.slot_list_append PySem.F.type_list_append mt_append (pv 1) (pa_cons (pv 2) pa_nil)))
      (pss_one (ps_set (i := 2) scLweights.nd rfl (Or.inl rfl) (pe_op op_mulV pe_int (pv 2))))))
      (pss_cons (ps_if (pt_cmpR op_gt (pv 0) (pe_op op_sub (pv 2) pe_int) (nomark _)) (pss_one (ps_expr (pe_bm PySem.F.plainAttrs_list PySem.F.slot_list_append PySem.F.type_list_append mt_append (pv 1) (pa_cons (pe_op (op_addV K rfl) (pe_op op_sub (pv 0) (pv 2)) pe_int) pa_nil)))) pss_nil)
      (pss_one (ps_ret (pe_callTy (call_tupleV K rfl) (by rfl) T.z_tuple (by decide +kernel) (pa_cons (pv 1) pa_nil)))))))),
    _, run_one (run_assoc (run_setow (i := 1) (nw_lst pl_nil) rfl (wk_uns rfl) fun l1 => (run_assoc (run_set (i := 2) pu_int rfl (wk_uns rfl) fun x2 => (run_assoc (run_seq (ρj := fun (s12 : List PV × PV) => [(.fz a_top), (.ow (.lst s12.1)), (.fz s12.2), .un]) (run_for (ρs := fun (s4 : List PV × PV) => [(.fz a_top), (.ow (.lst s4.1)), (.fz s4.2), .un]) (s0 := (l1, x2)) (ρe := fun (s4 : List PV × PV) (a5 : PV) => [(.fz a_top), (.ow (.lst s4.1)), (.fz s4.2), (.fz a5)]) (it_rng1 (Pur.vw (pu_call1 (pu_var rfl)))) (.keep (.keep (.keep (.keep .nil)))) (wk_uns rfl) (fun s4 => (tg_name (i := 3) rfl (Or.inl rfl))) (fun a5 s4 => run_one (run_assoc (run_append (i := 1) rfl (Or.inl rfl) (pu_var rfl) (wk_uns rfl) fun x6 => (run_set (i := 2) (pu_op o2_mul (Pur.vw pu_int) (Pur.vw (pu_var rfl))) rfl (wk_uns rfl) fun x9 => (run_next (s := ((s4.1 ++ [x6]), x9)) (.keep (.keep (.keep (.drop .nil)))))))))) fun s12 => (run_assoc (run_seq (ρj := fun (s18 : List PV) => [(.fz a_top), (.ow (.lst s18)), (.fz s12.2), .un]) (run_one (run_if (ts_cmp (Pur.vw (pu_op o2_gt (Pur.vw (pu_var rfl)) (Pur.vw (pu_op o2_sub (Pur.vw (pu_var rfl)) (Pur.vw pu_int)))))) (wk_uns rfl) (run_append (i := 1) rfl (Or.inl rfl) (pu_op o2_add (Pur.vw (pu_op o2_sub (Pur.vw (pu_var rfl)) (Pur.vw (pu_var rfl)))) (Pur.vw pu_int)) (wk_uns rfl) fun x23 => (run_next (s := (s12.1 ++ [x23])) (.keep (.keep (.keep (.keep .nil)))))) (run_skip (run_next (s := s12.1) (.keep (.keep (.keep (.keep .nil)))))))) fun s18 => (run_ret (pu_cb1 b1_tuple (vw_own rfl)) rfl rfl (wk_uns rfl)))))))))), rfl⟩
def m__law_digits (a_top a_value : PV) : Res PV := retF (((Res.val a_top) >>= m__law_weights) >>= fun x2 => (((Res.val a_top) >>= m__law_pure) >>= fun x4 => ((Res.val a_value) >>= fun x5 => (((Res.val []) >>= mkT) >>= fun x6 => (seqF (S1 := PV × PV) ((((Res.val x4) >>= fun x7 => ((Res.val x2) >>= lenP) >>= fun x8 => ltP x7 x8) >>= asB) >>= fun b9 => if b9 = true then ((((Res.val a_value) >>= fun x15 => (((Res.val x2) >>= fun x12 => (Res.val none) >>= fun lo13 => ((Res.val x4) >>= partP >>= fun i11 => Res.val (some i11)) >>= fun hi14 => slP x12 lo13 hi14) >>= sumPT) >>= fun x16 => gtP x15 x16) >>= intP) >>= fun x17 => ((((Res.val x17) >>= fun x18 => (Res.val []) >>= fun xs19 => Res.val (x18 :: xs19)) >>= mkT) >>= fun x20 => (((Res.val a_value) >>= fun x25 => ((Res.val x17) >>= fun x23 => ((Res.val x2) >>= fun x21 => (Res.val x4) >>= fun x22 => ixP x21 x22) >>= fun x24 => mulP x23 x24) >>= fun x26 => subP x25 x26) >>= fun x27 => (Res.val (.nx (x20, x27)))))) else (Res.val (.nx (x6, x5)))) fun s10 => (((((((Res.val x4) >>= rng1) >>= fun ps35 => sized ps35.length >>= fun _ => lcF (fun x => Res.val x) (fun (a28 : PV) => (Res.val true)) (fun (a28 : PV) => ((((Res.val s10.2) >>= fun x31 => ((Res.val x2) >>= fun x29 => (Res.val a28) >>= fun x30 => ixP x29 x30) >>= fun x32 => fdivP x31 x32) >>= intP) >>= fun x33 => (Res.val (PV.int 2)) >>= fun x34 => modP x33 x34)) ps35) >>= fun ps36 => Res.val (PV.lst ps36)) >>= tupleP) >>= fun x37 => (Res.val s10.1) >>= fun x38 => addP x37 x38) >>= fun v39 => Res.val (.rt v39 [])))))))
theorem ok__law_digits (T : Top K mg) : FnOk P w K mg base (L2.CX P w) 3 T.f__law_digits T.d__law_digits ["top", "value"] (spP K (clT T) (ap2 m__law_digits)) := by
  have G__law_weights := ok__law_weights (P := P) (w := w) (base := base) T
  have G__law_pure := ok__law_pure (P := P) (w := w) (base := base) T
  refine fnP T.F__law_digits scLdigits rfl takn2 fun cdv A outer s H E hr qs hq => ?_
  match qs, hq with
  | [a_top, a_value], _ => exact ⟨_, (pss_cons (ps_set (i := 2) scLdigits.nd rfl (Or.inr rfl) (pe_callS G__law_weights (hr.mono (by decide)) rfl T.m__law_weights T.F__law_weights.kp T.b__law_weights (fun σ => passAt (takes_of rfl rfl rfl rfl) σ) (pa_cons (pv 0) pa_nil)))
      (pss_cons (ps_set (i := 3) scLdigits.nd rfl (Or.inl rfl) (pe_callS G__law_pure (hr.mono (by decide)) rfl T.m__law_pure T.F__law_pure.kp T.b__law_pure (fun σ => passAt (takes_of rfl rfl rfl rfl) σ) (pa_cons (pv 0) pa_nil)))
      (pss_cons (ps_set (i := 4) scLdigits.nd rfl (Or.inr rfl) (pv 1))
      (pss_cons (ps_set (i := 5) scLdigits.nd rfl (Or.inl rfl) (pe_tup pa_nil))
      (pss_cons (ps_if (pt_cmpR op_lt (pv 3) (pe_callB (call_lenVK K rfl) (by rfl) T.z_len PySem.boot_len (pa_cons (pv 2) pa_nil)) (nomark _)) (pss_cons (ps_set (i := 6) scLdigits.nd rfl (Or.inl rfl) (pe_callTy call_intV (by rfl) T.z_int (by decide +kernel) (pa_cons (pe_cmpR op_gt (pv 1) (pe_callB (cr_sumVT K rfl rfl) (by rfl) T.z_sum (by decide +kernel) (pa_cons (pe_slice (sl_V K rfl) (pv 2) po_none (po_some (pv 3))) pa_nil)) (nomark _)) pa_nil)))
      (pss_cons (ps_set (i := 5) scLdigits.nd rfl (Or.inl rfl) (pe_tup (pa_cons (pv 6) pa_nil)))
      (pss_one (ps_set (i := 4) scLdigits.nd rfl (Or.inr rfl) (pe_op op_sub (pv 1) (pe_op op_mulV (pv 6) (pe_ix (ix_VK K rfl) (pv 2) (pv 3) (fun _ _ => rfl)))))))) pss_nil)
      (pss_one (ps_ret (pe_op (op_addV K rfl) (pe_callTy (call_tupleV K rfl) (by rfl) T.z_tuple (by decide +kernel) (pa_cons (pe_lc (own := [("k", 7)]) (g := gName 7) (tt := tYes) rfl scLdigits.nd (pi_range1 (by rfl) T.z_range (pa_cons (pv 3) pa_nil)) (blkOk_by (own := [("k", 7)]) (N := ["top", "value", "weights", "many", "left", "extra", "beyond", "k"]) (sc := defScope s_Ldigits) (by decide +kernel)) (fun _ _ _ _ _ => (pg_name (i := 7) scLdigits.nd rfl (Or.inl rfl))) (fun _ _ _ _ _ => pts_nil) (fun _ _ _ _ _ => (pe_op op_modN (pe_callTy call_intV (by rfl) T.z_int (by decide +kernel) (pa_cons (pe_op op_fdivV (pv 4) (pe_ix (ix_VK K rfl) (pv 2) (pv 7) (fun _ _ => rfl))) pa_nil)) pe_int))) pa_nil)) (pv 5))))))))),
    _, run_one (run_assoc (run_set (i := 2) (pu_call1 (pu_var rfl)) rfl (wk_uns rfl) fun x2 => (run_assoc (run_set (i := 3) (pu_call1 (pu_var rfl)) rfl (wk_uns rfl) fun x4 => (run_assoc (run_set (i := 4) (pu_var rfl) rfl (wk_uns rfl) fun x5 => (run_assoc (run_set (i := 5) (pu_tup pl_nil) rfl (wk_uns rfl) fun x6 => (run_assoc (run_seq (ρj := fun (s10 : PV × PV) => [(.fz a_top), (.fz a_value), (.fz x2), (.fz x4), (.fz s10.2), (.fz s10.1), .un, .un]) (run_one (run_if (ts_cmp (Pur.vw (pu_op o2_lt (Pur.vw (pu_var rfl)) (Pur.vw (pu_cb1 b1_len (Pur.vw (pu_var rfl))))))) (wk_uns rfl) (run_assoc (run_set (i := 6) (pu_cb1 b1_int (Pur.vw (pu_op o2_gt (Pur.vw (pu_var rfl)) (Pur.vw (pu_cb1 b1_sumT (Pur.vw (pu_sl (Pur.vw (pu_var rfl)) pr_none (pr_some (Pur.vw (pu_var rfl)))))))))) rfl (wk_uns rfl) fun x17 => (run_assoc (run_set (i := 5) (pu_tup (pl_cons (pu_var rfl) pl_nil)) rfl (wk_uns rfl) fun x20 => (run_set (i := 4) (pu_op o2_sub (Pur.vw (pu_var rfl)) (Pur.vw (pu_op o2_mul (Pur.vw (pu_var rfl)) (Pur.vw (pu_op o2_ix (Pur.vw (pu_var rfl)) (Pur.vw (pu_var rfl))))))) rfl (wk_uns rfl) fun x27 => (run_next (s := (x20, x27)) (.keep (.keep (.keep (.keep (.keep (.keep (.drop (.keep .nil)))))))))))))) (run_skip (run_next (s := (x6, x5)) (.keep (.keep (.keep (.keep (.keep (.keep (.keep (.keep .nil)))))))))))) fun s10 => (run_ret (pu_op o2_add (Pur.vw (pu_cb1 b1_tuple (Pur.vw (New.pur (nw_lc (ρe := fun (a28 : PV) => [(.fz a_top), (.fz a_value), (.fz x2), (.fz x4), (.fz s10.2), (.fz s10.1), .un, (.fz a28)]) (Iter.view (it_rng1 (Pur.vw (pu_var rfl)))) rfl (by decide) (tg_name (i := 7) rfl (Or.inr (by decide))) (fun a28 => ts_yes) (fun a28 => (pu_op o2_mod (Pur.vw (pu_cb1 b1_int (Pur.vw (pu_op o2_fdiv (Pur.vw (pu_var rfl)) (Pur.vw (pu_op o2_ix (Pur.vw (pu_var rfl)) (Pur.vw (pu_var rfl)))))))) (Pur.vw pu_int)))))))) (Pur.vw (pu_var rfl))) rfl rfl (wk_uns rfl)))))))))))), rfl⟩
def m__law_asked (a_top a_value : PV) : Res PV := retF (seqF (S1 := Unit) (tryF ((((Res.val (PV.str "told")) >>= fun x6 => (((Res.val a_top) >>= fun x2 => (Res.val a_value) >>= fun x3 => m_range_digits x2 x3) >>= fun x4 => (Res.val []) >>= fun xs5 => Res.val (x4 :: xs5)) >>= fun xs7 => Res.val (x6 :: xs7)) >>= mkT) >>= fun v8 => Res.val (.rt v8 [])) hit_NoWitness ((((Res.val (PV.str "none")) >>= fun x9 => (Res.val []) >>= fun xs10 => Res.val (x9 :: xs10)) >>= mkT) >>= fun v11 => Res.val (.rt v11 []))) fun s1 => (Res.val (.nx ())))
theorem ok__law_asked (T : Top K mg) : FnOk P w K mg base (L2.CX P w) 3 T.f__law_asked T.d__law_asked ["top", "value"] (spP K (clT T) (ap2 m__law_asked)) := by
  have G_range_digits := ok_range_digits (P := P) (w := w) (base := base) T
  refine fnP T.F__law_asked scLasked rfl takn2 fun cdv A outer s H E hr qs hq => ?_
  match qs, hq with
  | [a_top, a_value], _ => exact ⟨_, (pss_one (ps_try_only rfl rfl ⟨rfl, by decide, (.inl T.m_NoWitness)⟩ (takes_of rfl rfl rfl rfl) (fun W pn xe tk pw => (pss_one (ps_ret (pe_tup (pa_cons pe_str (pa_cons (pe_callS G_range_digits (hr.mono (by decide)) rfl T.m_range_digits T.F_range_digits.kp T.b_range_digits (fun σ => passAt tk σ) (pa_cons (pv 0) (pa_cons (pv 1) pa_nil))) pa_nil)))))) (fun a oe cls d pn _ _ => (pss_one (ps_ret (pe_tup (pa_cons pe_str pa_nil))))))),
    _, run_one (run_seq (ρj := fun (s1 : Unit) => [(.fz a_top), (.fz a_value)]) (run_try (ρh := [(.fz a_top), (.fz a_value)]) T.hit_NoWitness (wk_uns rfl) (fun W' => run_one (run_ret (pu_tup (pl_cons pu_str (pl_cons (pu_call2 (pu_var rfl) (pu_var rfl)) pl_nil))) rfl rfl (.keep (.keep .nil)))) (fun a cls d => run_one (run_ret (pu_tup (pl_cons pu_str pl_nil)) rfl rfl (wk_uns rfl)))) fun s1 => (run_next (s := ()) (wk_uns rfl))), rfl⟩
def m__law_right (a_top a_values : PV) : Res PV := retF (((Res.val a_top) >>= m__law_weights) >>= fun x2 => (((((((((Res.val a_top) >>= m_range_weights) >>= fun x12 => (((Res.val []) >>= fun ps7 => ((Res.val a_top) >>= fun x5 => (Res.val []) >>= fun xs6 => Res.val (x5 :: xs6)) >>= fun qs8 => ap1 m_range_weights (g_range_weights_0_top ps7 qs8)) >>= fun x9 => (Res.val []) >>= fun xs10 => Res.val (x9 :: xs10)) >>= fun xs13 => Res.val (x12 :: xs13)) >>= mkT) >>= fun x18 => (((Res.val x2) >>= fun x16 => ((Res.val x2) >>= fun x14 => (Res.val []) >>= fun xs15 => Res.val (x14 :: xs15)) >>= fun xs17 => Res.val (x16 :: xs17)) >>= mkT) >>= fun x19 => (m__law_alike 5) x18 x19) >>= asB) >>= fun b20 => Res.val (!b20)) >>= fun b21 => if b21 = true then Res.val true else ((((Res.val x2) >>= sumPT) >>= fun x3 => (Res.val a_top) >>= fun x4 => neP x3 x4) >>= asB)) >>= fun b22 => if b22 = true then ((Res.val (PV.bl false)) >>= fun v23 => Res.val (.rt v23 [])) else (seqF (S1 := Unit) (((Res.val a_values) >>= asSq) >>= fun ps64 => forF (fun (x65 : PV) (s24 : Unit) => (fun x => Res.val x) x65 >>= fun (a25 : PV) => (((Res.val a_top) >>= fun x26 => (Res.val a25) >>= fun x27 => m__law_digits x26 x27) >>= fun x28 => ((((((((((Res.val x28) >>= lenP) >>= rng1) >>= fun ps46 => sized ps46.length >>= fun _ => lcF (fun x => Res.val x) (fun (a39 : PV) => (Res.val true)) (fun (a39 : PV) => (((Res.val x2) >>= fun x40 => (Res.val a39) >>= fun x41 => ixP x40 x41) >>= fun x44 => ((Res.val x28) >>= fun x42 => (Res.val a39) >>= fun x43 => ixP x42 x43) >>= fun x45 => mulP x44 x45)) ps46) >>= fun ps47 => Res.val (PV.lst ps47)) >>= sumPT) >>= fun x48 => (Res.val a25) >>= fun x49 => neP x48 x49) >>= asB) >>= fun b50 => if b50 = true then Res.val true else (((((((Res.val x28) >>= asSq) >>= fun ps36 => sized ps36.length >>= fun _ => lcF (fun x => Res.val x) (fun (a29 : PV) => (Res.val true)) (fun (a29 : PV) => ((Res.val a29) >>= fun x34 => (((Res.val (PV.int 0)) >>= fun x32 => ((Res.val (PV.int 1)) >>= fun x30 => (Res.val []) >>= fun xs31 => Res.val (x30 :: xs31)) >>= fun xs33 => Res.val (x32 :: xs33)) >>= mkL) >>= fun x35 => (inP false) x34 x35)) ps36) >>= fun ps37 => Res.val (PV.lst ps37)) >>= allP) >>= asB) >>= fun b38 => Res.val (!b38))) >>= fun b51 => if b51 = true then ((Res.val (PV.bl false)) >>= fun v52 => Res.val (.rt v52 [])) else ((((((Res.val a_top) >>= fun x53 => (Res.val a25) >>= fun x54 => m__law_asked x53 x54) >>= fun x59 => (((Res.val (PV.str "told")) >>= fun x57 => ((Res.val x28) >>= fun x55 => (Res.val []) >>= fun xs56 => Res.val (x55 :: xs56)) >>= fun xs58 => Res.val (x57 :: xs58)) >>= mkT) >>= fun x60 => (m__law_alike 5) x59 x60) >>= asB) >>= fun b61 => Res.val (!b61)) >>= fun b62 => if b62 = true then ((Res.val (PV.bl false)) >>= fun v63 => Res.val (.rt v63 [])) else (Res.val (.nx ())))))) ps64 ()) fun s66 => (seqF (S1 := Unit) ((((((Res.val (PV.int 1)) >>= negP) >>= fun x95 => (((Res.val a_top) >>= fun x91 => (Res.val (PV.int 1)) >>= fun x92 => addP x91 x92) >>= fun x93 => (((Res.val a_top) >>= fun x87 => (Res.val (PV.int 2)) >>= fun x88 => addP x87 x88) >>= fun x89 => ((((Res.val (PV.int 0)) >>= fun x81 => (Res.val a_top) >>= fun x82 => subP x81 x82) >>= fun x83 => (Res.val (PV.int 1)) >>= fun x84 => subP x83 x84) >>= fun x85 => ((((Res.val (PV.int 2)) >>= fun x75 => (Res.val a_top) >>= fun x76 => mulP x75 x76) >>= fun x77 => (Res.val (PV.int 1)) >>= fun x78 => addP x77 x78) >>= fun x79 => ((((Res.val (PV.int 10)) >>= fun x71 => (Res.val (PV.int 9)) >>= fun x72 => powP x71 x72) >>= negP) >>= fun x73 => (((Res.val (PV.int 10)) >>= fun x67 => (Res.val (PV.int 9)) >>= fun x68 => powP x67 x68) >>= fun x69 => (Res.val []) >>= fun xs70 => Res.val (x69 :: xs70)) >>= fun xs74 => Res.val (x73 :: xs74)) >>= fun xs80 => Res.val (x79 :: xs80)) >>= fun xs86 => Res.val (x85 :: xs86)) >>= fun xs90 => Res.val (x89 :: xs90)) >>= fun xs94 => Res.val (x93 :: xs94)) >>= fun xs96 => Res.val (x95 :: xs96)) >>= mkL) >>= asSq) >>= fun ps108 => forF (fun (x109 : PV) (s97 : Unit) => (fun x => Res.val x) x109 >>= fun (a98 : PV) => ((((((Res.val a_top) >>= fun x99 => (Res.val a98) >>= fun x100 => m__law_asked x99 x100) >>= fun x103 => (((Res.val (PV.str "none")) >>= fun x101 => (Res.val []) >>= fun xs102 => Res.val (x101 :: xs102)) >>= mkT) >>= fun x104 => (m__law_alike 5) x103 x104) >>= asB) >>= fun b105 => Res.val (!b105)) >>= fun b106 => if b106 = true then ((Res.val (PV.bl false)) >>= fun v107 => Res.val (.rt v107 [])) else (Res.val (.nx ())))) ps108 ()) fun s110 => ((((Res.val []) >>= fun ps115 => ((Res.val a_top) >>= fun x113 => ((Res.val a_top) >>= fun x111 => (Res.val []) >>= fun xs112 => Res.val (x111 :: xs112)) >>= fun xs114 => Res.val (x113 :: xs114)) >>= fun qs116 => ap2 m_range_digits (g_range_digits_0_value_top ps115 qs116)) >>= fun x121 => ((((Res.val (PV.int 1)) >>= fun x117 => (Res.val []) >>= fun xs118 => Res.val (x117 :: xs118)) >>= mkT) >>= fun x119 => ((Res.val x2) >>= lenP) >>= fun x120 => mulPT x119 x120) >>= fun x122 => (m__law_alike 5) x121 x122) >>= fun v123 => Res.val (.rt v123 []))))))
theorem ok__law_right (T : Top K mg) : FnOk P w K mg base (L2.CX P w) 7 T.f__law_right T.d__law_right ["top", "values"] (spP K (clT T) (ap2 m__law_right)) := by
  have G__law_weights := ok__law_weights (P := P) (w := w) (base := base) T
  have G__law_alike := ok__law_alike (P := P) (w := w) (base := base) T 5
  have G__law_digits := ok__law_digits (P := P) (w := w) (base := base) T
  have G_range_digits := ok_range_digits (P := P) (w := w) (base := base) T
  have G__law_asked := ok__law_asked (P := P) (w := w) (base := base) T
  have G_range_weights := ok_range_weights (P := P) (w := w) (base := base) T
  refine fnP T.F__law_right scLright rfl takn2 fun cdv A outer s H E hr qs hq => ?_
  match qs, hq with
  | [a_top, a_values], _ => exact ⟨_, (pss_cons (ps_set (i := 2) scLright.nd rfl (Or.inr rfl) (pe_callS G__law_weights (hr.mono (by decide)) rfl T.m__law_weights T.F__law_weights.kp T.b__law_weights (fun σ => passAt (takes_of rfl rfl rfl rfl) σ) (pa_cons (pv 0) pa_nil)))
      (pss_cons (ps_if (PW.pt (pw_or (pt_not (pt_val (pe_callS G__law_alike (hr.mono (by decide)) rfl T.m__law_alike T.F__law_alike.kp T.b__law_alike (fun σ => passAt (takes_of rfl rfl rfl rfl) σ) (pa_cons (pe_tup (pa_cons (pe_callS G_range_weights (hr.mono (by decide)) rfl T.m_range_weights T.F_range_weights.kp T.b_range_weights (fun σ => passAt (takes_of rfl rfl rfl rfl) σ) (pa_cons (pv 0) pa_nil)) (pa_cons (pe_callK0 G_range_weights (hr.mono (by decide)) rfl T.m_range_weights T.F_range_weights.kp T.k_range_weights_0_top (passes_call (takes_of rfl rfl rfl rfl) (fun _ _ _ _ h => h)) (pk_cons (pv 0) pk_nil)) pa_nil))) (pa_cons (pe_tup (pa_cons (pv 2) (pa_cons (pv 2) pa_nil))) pa_nil))))) (pw_or1 (pt_cmpR (op_neV K rfl hr.units) (pe_callB (cr_sumVT K rfl rfl) (by rfl) T.z_sum (by decide +kernel) (pa_cons (pv 2) pa_nil)) (pv 0) (nomark _))))) (pss_one (ps_ret pe_bl)) pss_nil)
      (pss_cons (ps_for (passes_of rfl) rfl (pi_seqV K rfl (pv 1)) (pg_name (i := 3) scLright.nd rfl (Or.inl rfl)) (pss_cons (ps_set (i := 4) scLright.nd rfl (Or.inr rfl) (pe_callS G__law_digits (hr.mono (by decide)) rfl T.m__law_digits T.F__law_digits.kp T.b__law_digits (fun σ => passAt (takes_of rfl rfl rfl rfl) σ) (pa_cons (pv 0) (pa_cons (pv 3) pa_nil))))
      (pss_cons (ps_if (PW.pt (pw_or (pt_cmpR (op_neV K rfl hr.units) (pe_callB (cr_sumVT K rfl rfl) (by rfl) T.z_sum (by decide +kernel) (pa_cons (pe_lc (own := [("k", 5)]) (g := gName 5) (tt := tYes) rfl scLright.nd (pi_range1 (by rfl) T.z_range (pa_cons (pe_callB (call_lenVK K rfl) (by rfl) T.z_len PySem.boot_len (pa_cons (pv 4) pa_nil)) pa_nil)) (blkOk_by (own := [("k", 5)]) (N := ["top", "values", "weights", "value", "due", "k", "one"]) (sc := defScope s_Lright) (by decide +kernel)) (fun _ _ _ _ _ => (pg_name (i := 5) scLright.nd rfl (Or.inl rfl))) (fun _ _ _ _ _ => pts_nil) (fun _ _ _ _ _ => (pe_op op_mulV (pe_ix (ix_VK K rfl) (pv 2) (pv 5) (fun _ _ => rfl)) (pe_ix (ix_VK K rfl) (pv 4) (pv 5) (fun _ _ => rfl))))) pa_nil)) (pv 3) (nomark _)) (pw_or1 (pt_not (pt_val (pe_callB (cr_allV K rfl rfl) (by rfl) T.z_all (by decide +kernel) (pa_cons (pe_lc (own := [("one", 6)]) (g := gName 6) (tt := tYes) rfl scLright.nd (pi_seqV K rfl (pv 4)) (blkOk_by (own := [("one", 6)]) (N := ["top", "values", "weights", "value", "due", "k", "one"]) (sc := defScope s_Lright) (by decide +kernel)) (fun _ _ _ _ _ => (pg_name (i := 6) scLright.nd rfl (Or.inl rfl))) (fun _ _ _ _ _ => pts_nil) (fun _ _ _ _ _ => (pe_cmpR (op_inV K rfl) (pv 6) (pe_lst (pa_cons pe_int (pa_cons pe_int pa_nil))) (by rfl)))) pa_nil))))))) (pss_one (ps_ret pe_bl)) pss_nil)
      (pss_one (ps_if (pt_not (pt_val (pe_callS G__law_alike (hr.mono (by decide)) rfl T.m__law_alike T.F__law_alike.kp T.b__law_alike (fun σ => passAt (takes_of rfl rfl rfl rfl) σ) (pa_cons (pe_callS G__law_asked (hr.mono (by decide)) rfl T.m__law_asked T.F__law_asked.kp T.b__law_asked (fun σ => passAt (takes_of rfl rfl rfl rfl) σ) (pa_cons (pv 0) (pa_cons (pv 3) pa_nil))) (pa_cons (pe_tup (pa_cons pe_str (pa_cons (pv 4) pa_nil))) pa_nil))))) (pss_one (ps_ret pe_bl)) pss_nil)))))
      (pss_cons (ps_for (passes_of rfl) rfl (pi_seqV K rfl (pe_lst (pa_cons (pe_un un_neg pe_int) (pa_cons (pe_op (op_addV K rfl) (pv 0) pe_int) (pa_cons (pe_op (op_addV K rfl) (pv 0) pe_int) (pa_cons (pe_op op_sub (pe_op op_sub pe_int (pv 0)) pe_int) (pa_cons (pe_op (op_addV K rfl) (pe_op op_mulV pe_int (pv 0)) pe_int) (pa_cons (pe_un un_neg (pe_op op_pow pe_int pe_int)) (pa_cons (pe_op op_pow pe_int pe_int) pa_nil))))))))) (pg_name (i := 3) scLright.nd rfl (Or.inl rfl)) (pss_one (ps_if (pt_not (pt_val (pe_callS G__law_alike (hr.mono (by decide)) rfl T.m__law_alike T.F__law_alike.kp T.b__law_alike (fun σ => passAt (takes_of rfl rfl rfl rfl) σ) (pa_cons (pe_callS G__law_asked (hr.mono (by decide)) rfl T.m__law_asked T.F__law_asked.kp T.b__law_asked (fun σ => passAt (takes_of rfl rfl rfl rfl) σ) (pa_cons (pv 0) (pa_cons (pv 3) pa_nil))) (pa_cons (pe_tup (pa_cons pe_str pa_nil)) pa_nil))))) (pss_one (ps_ret pe_bl)) pss_nil)))
      (pss_one (ps_ret (pe_callS G__law_alike (hr.mono (by decide)) rfl T.m__law_alike T.F__law_alike.kp T.b__law_alike (fun σ => passAt (takes_of rfl rfl rfl rfl) σ) (pa_cons (pe_callK0 G_range_digits (hr.mono (by decide)) rfl T.m_range_digits T.F_range_digits.kp T.k_range_digits_0_value_top (passes_call (takes_of rfl rfl rfl rfl) (fun _ _ _ _ h => h)) (pk_cons (pv 0) (pk_cons (pv 0) pk_nil))) (pa_cons (pe_op (op_mulVT K rfl) (pe_tup (pa_cons pe_int pa_nil)) (pe_callB (call_lenVK K rfl) (by rfl) T.z_len PySem.boot_len (pa_cons (pv 2) pa_nil))) pa_nil))))))))),
    _, run_one (run_assoc (run_set (i := 2) (pu_call1 (pu_var rfl)) rfl (wk_uns rfl) fun x2 => (run_assoc (run_if (ts_or (ts_not (ts_val (Pur.vw (pu_call2 (pu_tup (pl_cons (pu_call1 (pu_var rfl)) (pl_cons (pu_callK g_range_weights_0_top_is pl_nil (pl_cons (pu_var rfl) pl_nil)) pl_nil))) (pu_tup (pl_cons (pu_var rfl) (pl_cons (pu_var rfl) pl_nil))))))) (ts_cmp (Pur.vw (pu_op o2_ne (Pur.vw (pu_cb1 b1_sumT (Pur.vw (pu_var rfl)))) (Pur.vw (pu_var rfl)))))) (wk_uns rfl) (run_ret pu_bl rfl rfl (wk_uns rfl)) (run_skip (run_assoc (run_seq (ρj := fun (s66 : Unit) => [(.fz a_top), (.fz a_values), (.fz x2), .un, .un, .un, .un]) (run_for (ρs := fun (s24 : Unit) => [(.fz a_top), (.fz a_values), (.fz x2), .un, .un, .un, .un]) (s0 := ()) (ρe := fun (s24 : Unit) (a25 : PV) => [(.fz a_top), (.fz a_values), (.fz x2), (.fz a25), .un, .un, .un]) (it_seq (pu_var rfl)) (.keep (.keep (.keep (.keep (.keep (.keep (.keep .nil))))))) (wk_uns rfl) (fun s24 => (tg_name (i := 3) rfl (Or.inl rfl))) (fun a25 s24 => run_one (run_assoc (run_set (i := 4) (pu_call2 (pu_var rfl) (pu_var rfl)) rfl (wk_uns rfl) fun x28 => (run_assoc (run_if (ts_or (ts_cmp (Pur.vw (pu_op o2_ne (Pur.vw (pu_cb1 b1_sumT (Pur.vw (New.pur (nw_lc (ρe := fun (a39 : PV) => [(.fz a_top), (.fz a_values), (.fz x2), (.fz a25), (.fz x28), (.fz a39), .un]) (Iter.view (it_rng1 (Pur.vw (pu_cb1 b1_len (Pur.vw (pu_var rfl)))))) rfl (by decide) (tg_name (i := 5) rfl (Or.inr (by decide))) (fun a39 => ts_yes) (fun a39 => (pu_op o2_mul (Pur.vw (pu_op o2_ix (Pur.vw (pu_var rfl)) (Pur.vw (pu_var rfl)))) (Pur.vw (pu_op o2_ix (Pur.vw (pu_var rfl)) (Pur.vw (pu_var rfl))))))))))) (Pur.vw (pu_var rfl))))) (ts_not (ts_val (Pur.vw (pu_cb1 b1_all (Pur.vw (New.pur (nw_lc (ρe := fun (a29 : PV) => [(.fz a_top), (.fz a_values), (.fz x2), (.fz a25), (.fz x28), .un, (.fz a29)]) (Iter.view (it_seq (pu_var rfl))) rfl (by decide) (tg_name (i := 6) rfl (Or.inr (by decide))) (fun a29 => ts_yes) (fun a29 => (pu_op o2_in (Pur.vw (pu_var rfl)) (Pur.vw (pu_lst (pl_cons pu_int (pl_cons pu_int pl_nil)))))))))))))) (wk_uns rfl) (run_ret pu_bl rfl rfl (wk_uns rfl)) (run_skip (run_if (ts_not (ts_val (Pur.vw (pu_call2 (pu_call2 (pu_var rfl) (pu_var rfl)) (pu_tup (pl_cons pu_str (pl_cons (pu_var rfl) pl_nil))))))) (wk_uns rfl) (run_ret pu_bl rfl rfl (wk_uns rfl)) (run_skip (run_next (s := ()) (.keep (.keep (.keep (.drop (.drop (.keep (.keep .nil))))))))))))))))) fun s66 => (run_assoc (run_seq (ρj := fun (s110 : Unit) => [(.fz a_top), (.fz a_values), (.fz x2), .un, .un, .un, .un]) (run_for (ρs := fun (s97 : Unit) => [(.fz a_top), (.fz a_values), (.fz x2), .un, .un, .un, .un]) (s0 := ()) (ρe := fun (s97 : Unit) (a98 : PV) => [(.fz a_top), (.fz a_values), (.fz x2), (.fz a98), .un, .un, .un]) (it_seq (pu_lst (pl_cons (pu_un o1_neg (Pur.vw pu_int)) (pl_cons (pu_op o2_add (Pur.vw (pu_var rfl)) (Pur.vw pu_int)) (pl_cons (pu_op o2_add (Pur.vw (pu_var rfl)) (Pur.vw pu_int)) (pl_cons (pu_op o2_sub (Pur.vw (pu_op o2_sub (Pur.vw pu_int) (Pur.vw (pu_var rfl)))) (Pur.vw pu_int)) (pl_cons (pu_op o2_add (Pur.vw (pu_op o2_mul (Pur.vw pu_int) (Pur.vw (pu_var rfl)))) (Pur.vw pu_int)) (pl_cons (pu_un o1_neg (Pur.vw (pu_op o2_pow (Pur.vw pu_int) (Pur.vw pu_int)))) (pl_cons (pu_op o2_pow (Pur.vw pu_int) (Pur.vw pu_int)) pl_nil))))))))) (.keep (.keep (.keep (.keep (.keep (.keep (.keep .nil))))))) (wk_uns rfl) (fun s97 => (tg_name (i := 3) rfl (Or.inl rfl))) (fun a98 s97 => run_one (run_if (ts_not (ts_val (Pur.vw (pu_call2 (pu_call2 (pu_var rfl) (pu_var rfl)) (pu_tup (pl_cons pu_str pl_nil)))))) (wk_uns rfl) (run_ret pu_bl rfl rfl (wk_uns rfl)) (run_skip (run_next (s := ()) (.keep (.keep (.keep (.drop (.keep (.keep (.keep .nil)))))))))))) fun s110 => (run_ret (pu_call2 (pu_callK g_range_digits_0_value_top_is pl_nil (pl_cons (pu_var rfl) (pl_cons (pu_var rfl) pl_nil))) (pu_op o2_mulT (Pur.vw (pu_tup (pl_cons pu_int pl_nil))) (Pur.vw (pu_cb1 b1_len (Pur.vw (pu_var rfl)))))) rfl rfl (wk_uns rfl))))))))))), rfl⟩
def m_law (ns : List Int) : Res PV := retF ((((Res.val (PV.fls (List.map PV.int ns))) >>= fun x3 => ((Res.val (PV.int 0)) >>= fun x1 => (Res.val []) >>= fun xs2 => Res.val (x1 :: xs2)) >>= fun xs4 => Res.val (x3 :: xs4)) >>= fun ps5 => noX (apN2 m__law_box ps5) >>= moL) >>= fun l6 => (noX ((fun (s7 : List PV) => (fun (s11 : List PV) => (fun (s8 : List PV) => noX (Res.val (PV.int 127)) >>= fun v9 => Res.val (v9, s8)) s11 >>= fun x12 => (fun (s10 : List PV) => Res.val (([] : List PV), s10)) x12.2 >>= fun xs13 => Res.val (x12.1 :: xs13.1, xs13.2)) s7 >>= fun x14 => (apR1 m__law_draw) (MO.lst x14.2) x14.1 >>= fun r15 => ((fun (s7 : List PV) (mo : MO) => moL mo >>= fun l => Res.val l) x14.2 r15.2) >>= fun s16 => Res.val (r15.1, s16)) l6) >>= fun r19 => (fun (x17 : PV) (s18 : List PV) => (((((Res.val x17) >>= fun x25 => (((((Res.val x17) >>= fun x20 => (Res.val (PV.int 1)) >>= fun x21 => addP x20 x21) >>= rng1) >>= fun ps23 => sized ps23.length >>= fun _ => lcF (fun x => Res.val x) (fun (a22 : PV) => (Res.val true)) (fun (a22 : PV) => (Res.val a22)) ps23) >>= fun ps24 => Res.val (PV.lst ps24)) >>= fun x26 => m__law_right x25 x26) >>= asB) >>= fun b27 => Res.val (!b27)) >>= fun b28 => if b28 = true then ((Res.val (PV.bl false)) >>= fun v29 => Res.val (.rt v29 [])) else ((((Res.val (PV.fls (List.map PV.int ns))) >>= fun x32 => ((Res.val (PV.int 1)) >>= fun x30 => (Res.val []) >>= fun xs31 => Res.val (x30 :: xs31)) >>= fun xs33 => Res.val (x32 :: xs33)) >>= fun ps34 => noX (apN2 m__law_box ps34) >>= moL) >>= fun l35 => (noX ((fun (s36 : List PV) => (fun (s37 : List PV) => noX (Res.val (PV.int 127)) >>= fun v38 => Res.val (v38, s37)) s36 >>= fun x49 => (fun (s39 : List PV) => (fun (s43 : List PV) => (fun (s40 : List PV) => noX (Res.val (PV.int 874)) >>= fun v41 => Res.val (v41, s40)) s43 >>= fun x44 => (fun (s42 : List PV) => Res.val (([] : List PV), s42)) x44.2 >>= fun xs45 => Res.val (x44.1 :: xs45.1, xs45.2)) s39 >>= fun x46 => (apR1 m__law_draw) (MO.lst x46.2) x46.1 >>= fun r47 => ((fun (s39 : List PV) (mo : MO) => moL mo >>= fun l => Res.val l) x46.2 r47.2) >>= fun s48 => Res.val (r47.1, s48)) x49.2 >>= fun x50 => noX (addP x49.1 x50.1) >>= fun z51 => Res.val (z51, x50.2)) l35) >>= fun r54 => (fun (x52 : PV) (s53 : List PV) => (noX ((fun (s55 : List PV) => (fun (s56 : List PV) => noX (((Res.val (PV.int 0)) >>= fun x65 => ((Res.val (PV.int 1)) >>= fun x63 => ((Res.val x52) >>= fun x61 => (((Res.val x52) >>= fun x57 => (Res.val (PV.int 1)) >>= fun x58 => subP x57 x58) >>= fun x59 => (Res.val []) >>= fun xs60 => Res.val (x59 :: xs60)) >>= fun xs62 => Res.val (x61 :: xs62)) >>= fun xs64 => Res.val (x63 :: xs64)) >>= fun xs66 => Res.val (x65 :: xs66)) >>= mkL) >>= fun v67 => Res.val (v67, s56)) s55 >>= fun x90 => (fun (s89 : List PV) => (fun (s69 : List PV) => noX ((Res.val (PV.int 20)) >>= rng1) >>= fun z71 => Res.val (z71, s69)) s89 >>= fun ps87 => sized ps87.1.length >>= fun _ => lcE (fun x => Res.val x) (fun (a72 : PV) => (fun (s74 : List PV) => Res.val (true, s74))) (fun (a72 : PV) => (fun (s75 : List PV) => (fun (s81 : List PV) => (fun (s76 : List PV) => noX ((Res.val x52) >>= fun x77 => (Res.val (PV.int 1)) >>= fun x78 => addP x77 x78) >>= fun v79 => Res.val (v79, s76)) s81 >>= fun x82 => (fun (s80 : List PV) => Res.val (([] : List PV), s80)) x82.2 >>= fun xs83 => Res.val (x82.1 :: xs83.1, xs83.2)) s75 >>= fun x84 => (apR1 m__law_draw) (MO.lst x84.2) x84.1 >>= fun r85 => ((fun (s75 : List PV) (mo : MO) => moL mo >>= fun l => Res.val l) x84.2 r85.2) >>= fun s86 => Res.val (r85.1, s86))) ps87.1 ps87.2 >>= fun r88 => Res.val (PV.lst r88.1, r88.2)) x90.2 >>= fun x91 => noX (addP x90.1 x91.1) >>= fun z92 => Res.val (z92, x91.2)) s53) >>= fun r95 => (fun (x93 : PV) (s94 : List PV) => (((((Res.val x52) >>= fun x96 => (Res.val x93) >>= fun x97 => m__law_right x96 x97) >>= asB) >>= fun b98 => Res.val (!b98)) >>= fun b99 => if b99 = true then ((Res.val (PV.bl false)) >>= fun v100 => Res.val (.rt v100 [])) else ((Res.val (PV.int 1)) >>= fun x101 => (seqF (S1 := PV × List PV) (noX ((fun (s102 : List PV) => (fun (s105 : List PV) => (fun (s106 : List PV) => noX (Res.val (PV.int 1)) >>= fun v107 => Res.val (v107, s106)) s105 >>= fun x118 => (fun (s108 : List PV) => (fun (s112 : List PV) => (fun (s109 : List PV) => noX (Res.val (PV.int 9)) >>= fun v110 => Res.val (v110, s109)) s112 >>= fun x113 => (fun (s111 : List PV) => Res.val (([] : List PV), s111)) x113.2 >>= fun xs114 => Res.val (x113.1 :: xs114.1, xs114.2)) s108 >>= fun x115 => (apR1 m__law_draw) (MO.lst x115.2) x115.1 >>= fun r116 => ((fun (s108 : List PV) (mo : MO) => moL mo >>= fun l => Res.val l) x115.2 r116.2) >>= fun s117 => Res.val (r116.1, s117)) x118.2 >>= fun x119 => noX (addP x118.1 x119.1) >>= fun z120 => Res.val (z120, x119.2)) s102 >>= fun x103 => rng1 x103.1 >>= fun z104 => Res.val (z104, x103.2)) s94) >>= fun r129 => forF (fun (x128 : PV) (s122 : PV × List PV) => (fun x => Res.val x) x128 >>= fun (a123 : PV) => (((Res.val (PV.int 2)) >>= fun x124 => (Res.val s122.1) >>= fun x125 => mulP x124 x125) >>= fun x126 => (Res.val (.nx (x126, s122.2))))) r129.1 ((fun (s121 : List PV) => (x101, s121)) r129.2)) fun s131 => (seqF (S1 := Unit) ((((((Res.val s131.1) >>= fun x138 => (Res.val (PV.int 2)) >>= fun x139 => subP x138 x139) >>= fun x140 => (((Res.val s131.1) >>= fun x134 => (Res.val (PV.int 1)) >>= fun x135 => subP x134 x135) >>= fun x136 => ((Res.val s131.1) >>= fun x132 => (Res.val []) >>= fun xs133 => Res.val (x132 :: xs133)) >>= fun xs137 => Res.val (x136 :: xs137)) >>= fun xs141 => Res.val (x140 :: xs141)) >>= mkL) >>= asSq) >>= fun ps177 => forF (fun (x178 : PV) (s142 : Unit) => (fun x => Res.val x) x178 >>= fun (a143 : PV) => (((((Res.val a143) >>= fun x172 => (((Res.val (PV.int 0)) >>= fun x170 => ((Res.val a143) >>= fun x168 => (((Res.val a143) >>= fun x164 => (Res.val (PV.int 2)) >>= fun x165 => fdivP x164 x165) >>= fun x166 => ((((Res.val a143) >>= fun x158 => (Res.val (PV.int 1)) >>= fun x159 => addP x158 x159) >>= fun x160 => (Res.val (PV.int 2)) >>= fun x161 => fdivP x160 x161) >>= fun x162 => ((((Res.val s131.1) >>= fun x152 => (Res.val (PV.int 2)) >>= fun x153 => fdivP x152 x153) >>= fun x154 => (Res.val (PV.int 1)) >>= fun x155 => subP x154 x155) >>= fun x156 => ((((Res.val s131.1) >>= fun x144 => (Res.val (PV.int 2)) >>= fun x145 => fdivP x144 x145) >>= fun x148 => (((Res.val s131.1) >>= fun x146 => (Res.val (PV.int 2)) >>= fun x147 => gtP x146 x147) >>= intP) >>= fun x149 => mulP x148 x149) >>= fun x150 => (Res.val []) >>= fun xs151 => Res.val (x150 :: xs151)) >>= fun xs157 => Res.val (x156 :: xs157)) >>= fun xs163 => Res.val (x162 :: xs163)) >>= fun xs167 => Res.val (x166 :: xs167)) >>= fun xs169 => Res.val (x168 :: xs169)) >>= fun xs171 => Res.val (x170 :: xs171)) >>= mkL) >>= fun x173 => m__law_right x172 x173) >>= asB) >>= fun b174 => Res.val (!b174)) >>= fun b175 => if b175 = true then ((Res.val (PV.bl false)) >>= fun v176 => Res.val (.rt v176 [])) else (Res.val (.nx ())))) ps177 ()) fun s179 => (((Res.val (PV.int 0)) >>= fun x182 => (((Res.val (PV.int 0)) >>= fun x180 => (Res.val []) >>= fun xs181 => Res.val (x180 :: xs181)) >>= mkL) >>= fun x183 => m__law_right x182 x183) >>= fun v184 => Res.val (.rt v184 []))))))) r95.1 r95.2)) r54.1 r54.2)))) r19.1 r19.2))
theorem ok_law (T : Top K mg) (hl : ∀ ns : List Int, ns.length ≤ 63 → m_law ns = .val (.bl true)) : FnOk P w K mg base CX0 8 T.f_law T.d_law ["script"] (spLaw K) := by
  have G__law_box := ok__law_box (P := P) (w := w) (base := base) T
  have G__law_draw := ok__law_draw (P := P) (w := w) (base := base) T
  have G__law_right := ok__law_right (P := P) (w := w) (base := base) T
  refine fnLaw (cl := clT T) T.F_law sclaw hl fun cdv A outer s H E hr ns => ?_
  exact ⟨_, (pss_cons (ps_set (i := 1) sclaw.nd rfl (Or.inl rfl) (pe_callS G__law_box (hr.mono (by decide)) rfl T.m__law_box T.F__law_box.kp T.b__law_box (fun σ => passAt takes0 σ) (pa_cons (pv 0) (pa_cons pe_int pa_nil))))
      (pss_cons (ps_set (i := 2) sclaw.nd rfl (Or.inl rfl) (pe_callS G__law_draw (hr.mono (by decide)) rfl T.m__law_draw T.F__law_draw.kp T.b__law_draw (fun σ => passAt takes0 σ) (pa_cons (pv 1) (pa_cons pe_int pa_nil))))
      (pss_cons (ps_if (pt_not (pt_val (pe_callS G__law_right (hr.mono (by decide)) rfl T.m__law_right T.F__law_right.kp T.b__law_right (fun σ => passAt takes0 σ) (pa_cons (pv 2) (pa_cons (pe_lc (own := [("value", 3)]) (g := gName 3) (tt := tYes) rfl sclaw.nd (pi_range1 (by rfl) T.z_range (pa_cons (pe_op (op_addV K rfl) (pv 2) pe_int) pa_nil)) (blkOk_by (own := [("value", 3)]) (N := ["script", "box", "top", "value", "far", "great", "values", "turn", "edge", "k"]) (sc := defScope s_law) (by decide +kernel)) (fun _ _ _ _ _ => (pg_name (i := 3) sclaw.nd rfl (Or.inl rfl))) (fun _ _ _ _ _ => pts_nil) (fun _ _ _ _ _ => (pv 3))) pa_nil))))) (pss_one (ps_ret pe_bl)) pss_nil)
      (pss_cons (ps_set (i := 4) sclaw.nd rfl (Or.inr rfl) (pe_callS G__law_box (hr.mono (by decide)) rfl T.m__law_box T.F__law_box.kp T.b__law_box (fun σ => passAt takes0 σ) (pa_cons (pv 0) (pa_cons pe_int pa_nil))))
      (pss_cons (ps_set (i := 5) sclaw.nd rfl (Or.inr rfl) (pe_op (op_addV K rfl) pe_int (pe_callS G__law_draw (hr.mono (by decide)) rfl T.m__law_draw T.F__law_draw.kp T.b__law_draw (fun σ => passAt takes0 σ) (pa_cons (pv 4) (pa_cons pe_int pa_nil)))))
      (pss_cons (ps_set (i := 6) sclaw.nd rfl (Or.inl rfl) (pe_op (op_addV K rfl) (pe_lst (pa_cons pe_int (pa_cons pe_int (pa_cons (pv 5) (pa_cons (pe_op op_sub (pv 5) pe_int) pa_nil))))) (pe_lc (own := [("turn", 7)]) (g := gName 7) (tt := tYes) rfl sclaw.nd (pi_range1 (by rfl) T.z_range (pa_cons pe_int pa_nil)) (blkOk_by (own := [("turn", 7)]) (N := ["script", "box", "top", "value", "far", "great", "values", "turn", "edge", "k"]) (sc := defScope s_law) (by decide +kernel)) (fun _ _ _ _ _ => (pg_name (i := 7) sclaw.nd rfl (Or.inl rfl))) (fun _ _ _ _ _ => pts_nil) (fun _ _ _ _ _ => (pe_callS G__law_draw (hr.mono (by decide)) rfl T.m__law_draw T.F__law_draw.kp T.b__law_draw (fun σ => passAt takes0 σ) (pa_cons (pv 4) (pa_cons (pe_op (op_addV K rfl) (pv 5) pe_int) pa_nil)))))))
      (pss_cons (ps_if (pt_not (pt_val (pe_callS G__law_right (hr.mono (by decide)) rfl T.m__law_right T.F__law_right.kp T.b__law_right (fun σ => passAt takes0 σ) (pa_cons (pv 5) (pa_cons (pv 6) pa_nil))))) (pss_one (ps_ret pe_bl)) pss_nil)
      (pss_cons (ps_set (i := 8) sclaw.nd rfl (Or.inl rfl) pe_int)
      (pss_cons (ps_for PassesOwn.never rfl (pi_range1 (by rfl) T.z_range (pa_cons (pe_op (op_addV K rfl) pe_int (pe_callS G__law_draw (hr.mono (by decide)) rfl T.m__law_draw T.F__law_draw.kp T.b__law_draw (fun σ => passAt takes0 σ) (pa_cons (pv 4) (pa_cons pe_int pa_nil)))) pa_nil)) (pg_name (i := 9) sclaw.nd rfl (Or.inl rfl)) (pss_one (ps_set (i := 8) sclaw.nd rfl (Or.inl rfl) (pe_op op_mulV pe_int (pv 8)))))
      (pss_cons (ps_for PassesOwn.never rfl (pi_seqV K rfl (pe_lst (pa_cons (pe_op op_sub (pv 8) pe_int) (pa_cons (pe_op op_sub (pv 8) pe_int) (pa_cons (pv 8) pa_nil))))) (pg_name (i := 2) sclaw.nd rfl (Or.inl rfl)) (pss_one (ps_if (pt_not (pt_val (pe_callS G__law_right (hr.mono (by decide)) rfl T.m__law_right T.F__law_right.kp T.b__law_right (fun σ => passAt takes0 σ) (pa_cons (pv 2) (pa_cons (pe_lst (pa_cons pe_int (pa_cons (pv 2) (pa_cons (pe_op op_fdivV (pv 2) pe_int) (pa_cons (pe_op op_fdivV (pe_op (op_addV K rfl) (pv 2) pe_int) pe_int) (pa_cons (pe_op op_sub (pe_op op_fdivV (pv 8) pe_int) pe_int) (pa_cons (pe_op op_mulV (pe_op op_fdivV (pv 8) pe_int) (pe_callTy call_intV (by rfl) T.z_int (by decide +kernel) (pa_cons (pe_cmpR op_gt (pv 8) pe_int (nomark _)) pa_nil))) pa_nil))))))) pa_nil))))) (pss_one (ps_ret pe_bl)) pss_nil)))
      (pss_one (ps_ret (pe_callS G__law_right (hr.mono (by decide)) rfl T.m__law_right T.F__law_right.kp T.b__law_right (fun σ => passAt takes0 σ) (pa_cons pe_int (pa_cons (pe_lst (pa_cons pe_int pa_nil)) pa_nil))))))))))))))),
    _, run_one (run_assoc (run_setow (i := 1) (nw_callN (pl_cons (pu_var rfl) (pl_cons pu_int pl_nil))) rfl (wk_uns rfl) fun l6 => (run_assoc (run_setE (i := 2) (ρs := (fun (s187 : List PV) => [(.fz (PV.fls (List.map PV.int ns))), (.ow (.lst s187)), .un, .un, .un, .un, .un, .un, .un, .un])) (s0 := l6) (ef_callR (i := 1) (sl := (fun (s7 : List PV) => (.ow (.lst s7)))) (get := (fun (s7 : List PV) => MO.lst s7)) (put := (fun (s7 : List PV) (mo : MO) => moL mo >>= fun l => Res.val l)) (fun _ => rfl) (fun _ => Or.inl rfl) (fun s mo s' h => by cases mo <;> first | (cases h; rfl) | cases h) (el_cons (ef_pure (W := (fun _ _ _ _ => False)) fun s8 => pu_int) el_nil)) rfl (fun _ => rfl) fun x17 s18 => (run_assoc (run_if (ts_not (ts_val (Pur.vw (pu_call2 (pu_var rfl) (New.pur (nw_lc (ρe := fun (a22 : PV) => [(.fz (PV.fls (List.map PV.int ns))), (.ow (.lst s18)), (.fz x17), (.fz a22), .un, .un, .un, .un, .un, .un]) (Iter.view (it_rng1 (Pur.vw (pu_op o2_add (Pur.vw (pu_var rfl)) (Pur.vw pu_int))))) rfl (by decide) (tg_name (i := 3) rfl (Or.inr (by decide))) (fun a22 => ts_yes) (fun a22 => (pu_var rfl)))))))) (wk_uns rfl) (run_ret pu_bl rfl rfl (wk_uns rfl)) (run_skip (run_assoc (run_setow (i := 4) (nw_callN (pl_cons (pu_var rfl) (pl_cons pu_int pl_nil))) rfl (wk_uns rfl) fun l35 => (run_assoc (run_setE (i := 5) (ρs := (fun (s186 : List PV) => [(.fz (PV.fls (List.map PV.int ns))), (.ow (.lst s18)), (.fz x17), .un, (.ow (.lst s186)), .un, .un, .un, .un, .un])) (s0 := l35) (ef_op o2_add (ef_pure (W := (fun _ _ _ _ => False)) fun s37 => pu_int) (ef_callR (i := 4) (sl := (fun (s39 : List PV) => (.ow (.lst s39)))) (get := (fun (s39 : List PV) => MO.lst s39)) (put := (fun (s39 : List PV) (mo : MO) => moL mo >>= fun l => Res.val l)) (fun _ => rfl) (fun _ => Or.inl rfl) (fun s mo s' h => by cases mo <;> first | (cases h; rfl) | cases h) (el_cons (ef_pure (W := (fun _ _ _ _ => False)) fun s40 => pu_int) el_nil))) rfl (fun _ => rfl) fun x52 s53 => (run_assoc (run_setE (i := 6) (ρs := (fun (s185 : List PV) => [(.fz (PV.fls (List.map PV.int ns))), (.ow (.lst s18)), (.fz x17), .un, (.ow (.lst s185)), (.fz x52), .un, .un, .un, .un])) (s0 := s53) (ef_op o2_add (ef_pure (W := (fun _ _ _ _ => False)) fun s56 => (pu_lst (pl_cons pu_int (pl_cons pu_int (pl_cons (pu_var rfl) (pl_cons (pu_op o2_sub (Pur.vw (pu_var rfl)) (Pur.vw pu_int)) pl_nil)))))) (ef_lc (ρe := fun (a72 : PV) (s73 : List PV) => [(.fz (PV.fls (List.map PV.int ns))), (.ow (.lst s18)), (.fz x17), .un, (.ow (.lst s73)), (.fz x52), .un, (.fz a72), .un, .un]) (ei_pure (W := (fun _ _ _ _ => False)) fun s69 => (it_rng1 (Pur.vw pu_int))) (fun _ => rfl) (by decide) (fun _ => (tg_name (i := 7) rfl (Or.inr (by decide)))) (fun _ _ => rfl) (fun _ _ => rfl) (fun a72 => et_yes) (fun a72 => (ef_callR (i := 4) (sl := (fun (s75 : List PV) => (.ow (.lst s75)))) (get := (fun (s75 : List PV) => MO.lst s75)) (put := (fun (s75 : List PV) (mo : MO) => moL mo >>= fun l => Res.val l)) (fun _ => rfl) (fun _ => Or.inl rfl) (fun s mo s' h => by cases mo <;> first | (cases h; rfl) | cases h) (el_cons (ef_pure (W := (fun _ _ _ _ => False)) fun s76 => (pu_op o2_add (Pur.vw (pu_var rfl)) (Pur.vw pu_int))) el_nil))))) rfl (fun _ => rfl) fun x93 s94 => (run_assoc (run_if (ts_not (ts_val (Pur.vw (pu_call2 (pu_var rfl) (pu_var rfl))))) (wk_uns rfl) (run_ret pu_bl rfl rfl (wk_uns rfl)) (run_skip (run_assoc (run_set (i := 8) pu_int rfl (wk_uns rfl) fun x101 => (run_assoc (run_seq (ρj := fun (s131 : PV × List PV) => [(.fz (PV.fls (List.map PV.int ns))), (.ow (.lst s18)), (.fz x17), .un, (.ow (.lst s131.2)), (.fz x52), (.fz x93), .un, (.fz s131.1), .un]) (run_forE (ρs := (fun (s130 : List PV) => [(.fz (PV.fls (List.map PV.int ns))), (.ow (.lst s18)), (.fz x17), .un, (.ow (.lst s130)), (.fz x52), (.fz x93), .un, (.fz x101), .un])) (s0 := s94) (st := (fun (s121 : List PV) => (x101, s121))) (ρs' := fun (s122 : PV × List PV) => [(.fz (PV.fls (List.map PV.int ns))), (.ow (.lst s18)), (.fz x17), .un, (.ow (.lst s122.2)), (.fz x52), (.fz x93), .un, (.fz s122.1), .un]) (ρe := fun (s122 : PV × List PV) (a123 : PV) => [(.fz (PV.fls (List.map PV.int ns))), (.ow (.lst s18)), (.fz x17), .un, (.ow (.lst s122.2)), (.fz x52), (.fz x93), .un, (.fz s122.1), (.fz a123)]) (ei_rng1 (ef_op o2_add (ef_pure (W := (fun _ _ _ _ => False)) fun s106 => pu_int) (ef_callR (i := 4) (sl := (fun (s108 : List PV) => (.ow (.lst s108)))) (get := (fun (s108 : List PV) => MO.lst s108)) (put := (fun (s108 : List PV) (mo : MO) => moL mo >>= fun l => Res.val l)) (fun _ => rfl) (fun _ => Or.inl rfl) (fun s mo s' h => by cases mo <;> first | (cases h; rfl) | cases h) (el_cons (ef_pure (W := (fun _ _ _ _ => False)) fun s109 => pu_int) el_nil)))) rfl (fun s121 => (.keep (.keep (.keep (.keep (.keep (.keep (.keep (.keep (.keep (.keep .nil))))))))))) (fun s122 => (tg_name (i := 9) rfl (Or.inl rfl))) (fun a123 s122 => run_one (run_set (i := 8) (pu_op o2_mul (Pur.vw pu_int) (Pur.vw (pu_var rfl))) rfl (wk_uns rfl) fun x126 => (run_next (s := (x126, s122.2)) (.keep (.keep (.keep (.keep (.keep (.keep (.keep (.keep (.keep (.drop .nil)))))))))))))) fun s131 => (run_assoc (run_seq (ρj := fun (s179 : Unit) => [(.fz (PV.fls (List.map PV.int ns))), (.ow (.lst s18)), .un, .un, (.ow (.lst s131.2)), (.fz x52), (.fz x93), .un, (.fz s131.1), .un]) (run_for (ρs := fun (s142 : Unit) => [(.fz (PV.fls (List.map PV.int ns))), (.ow (.lst s18)), .un, .un, (.ow (.lst s131.2)), (.fz x52), (.fz x93), .un, (.fz s131.1), .un]) (s0 := ()) (ρe := fun (s142 : Unit) (a143 : PV) => [(.fz (PV.fls (List.map PV.int ns))), (.ow (.lst s18)), (.fz a143), .un, (.ow (.lst s131.2)), (.fz x52), (.fz x93), .un, (.fz s131.1), .un]) (it_seq (pu_lst (pl_cons (pu_op o2_sub (Pur.vw (pu_var rfl)) (Pur.vw pu_int)) (pl_cons (pu_op o2_sub (Pur.vw (pu_var rfl)) (Pur.vw pu_int)) (pl_cons (pu_var rfl) pl_nil))))) (.keep (.keep (.drop (.keep (.keep (.keep (.keep (.keep (.keep (.keep .nil)))))))))) (wk_uns rfl) (fun s142 => (tg_name (i := 2) rfl (Or.inl rfl))) (fun a143 s142 => run_one (run_if (ts_not (ts_val (Pur.vw (pu_call2 (pu_var rfl) (pu_lst (pl_cons pu_int (pl_cons (pu_var rfl) (pl_cons (pu_op o2_fdiv (Pur.vw (pu_var rfl)) (Pur.vw pu_int)) (pl_cons (pu_op o2_fdiv (Pur.vw (pu_op o2_add (Pur.vw (pu_var rfl)) (Pur.vw pu_int))) (Pur.vw pu_int)) (pl_cons (pu_op o2_sub (Pur.vw (pu_op o2_fdiv (Pur.vw (pu_var rfl)) (Pur.vw pu_int))) (Pur.vw pu_int)) (pl_cons (pu_op o2_mul (Pur.vw (pu_op o2_fdiv (Pur.vw (pu_var rfl)) (Pur.vw pu_int))) (Pur.vw (pu_cb1 b1_int (Pur.vw (pu_op o2_gt (Pur.vw (pu_var rfl)) (Pur.vw pu_int)))))) pl_nil))))))))))) (wk_uns rfl) (run_ret pu_bl rfl rfl (wk_uns rfl)) (run_skip (run_next (s := ()) (.keep (.keep (.drop (.keep (.keep (.keep (.keep (.keep (.keep (.keep .nil))))))))))))))) fun s179 => (run_ret (pu_call2 pu_int (pu_lst (pl_cons pu_int pl_nil))) rfl rfl (wk_uns rfl)))))))))))))))))))))))), rfl⟩
end
/-! ### reckoning with mirrors -/
section
variable {S L S1 : Type}
@[simp] theorem retF_rt {v : PV} {r : List MO} : retF (.val (.rt v r)) = .val v := rfl
@[simp] theorem retF_nx : retF (.val (.nx ())) = .val .non := rfl
@[simp] theorem retF_exc {c : Str} : retF (.exc c) = .exc c := rfl
@[simp] theorem retR_rt {v : PV} {mo : MO} : retR (.val (.rt v [mo])) = .val (v, mo) := rfl
@[simp] theorem retR_nx {mo : MO} : retR (.val (.nx mo)) = .val (.non, mo) := rfl
@[simp] theorem retN_ro {mo : MO} : retN (.val (.ro mo)) = .val mo := rfl
@[simp] theorem seqF_nx {s : S1} {n : S1 → Res (Fl S L)} : seqF (.val (.nx s)) n = n s := rfl
@[simp] theorem seqF_rt {v : PV} {r : List MO} {n : S1 → Res (Fl S L)} : seqF (.val (.rt v r)) n = .val (.rt v r) := rfl
@[simp] theorem seqF_exc {c : Str} {n : S1 → Res (Fl S L)} : seqF (.exc c) n = .exc c := rfl
@[simp] theorem noX_val {α : Type} {a : α} : noX (.val a) = .val a := rfl
@[simp] theorem asB_bl {b : Bool} : asB (.bl b) = .val b := rfl
@[simp] theorem asSq_tup {l : List PV} : asSq (.tup l) = .val l := rfl
@[simp] theorem asSq_lst {l : List PV} : asSq (.lst l) = .val l := rfl
@[simp] theorem asSq_fls {l : List PV} : asSq (.fls l) = .val l := rfl
@[simp] theorem asLi_lst {l : List PV} : asLi (.lst l) = .val l := rfl
@[simp] theorem asTu_tup {l : List PV} : asTu (.tup l) = .val l := rfl
@[simp] theorem partP_int {i : Int} : partP (.int i) = .val i := rfl
@[simp] theorem moL_lst {l : List PV} : moL (.lst l) = .val l := rfl
@[simp] theorem moD_dct {l : List (Key × PV)} : moD (.dct l) = .val l := rfl
@[simp] theorem addP_int {a b : Int} : addP (.int a) (.int b) = .val (.int (a + b)) := rfl
@[simp] theorem subP_int {a b : Int} : subP (.int a) (.int b) = .val (.int (a - b)) := rfl
@[simp] theorem negP_int {a : Int} : negP (.int a) = .val (.int (-a)) := rfl
@[simp] theorem ltP_int {a b : Int} : ltP (.int a) (.int b) = .val (.bl (decide (a < b))) := rfl
@[simp] theorem leP_int {a b : Int} : leP (.int a) (.int b) = .val (.bl (decide (a ≤ b))) := rfl
@[simp] theorem gtP_int {a b : Int} : gtP (.int a) (.int b) = .val (.bl (decide (b < a))) := rfl
@[simp] theorem geP_int {a b : Int} : geP (.int a) (.int b) = .val (.bl (decide (b ≤ a))) := rfl
@[simp] theorem intP_int {a : Int} : intP (.int a) = .val (.int a) := rfl
@[simp] theorem intP_bl {b : Bool} : intP (.bl b) = .val (.int (if b then 1 else 0)) := rfl
@[simp] theorem listP_sq {l : List PV} : listP (.tup l) = .val (.lst l) := rfl
@[simp] theorem listP_lst {l : List PV} : listP (.lst l) = .val (.lst l) := rfl
@[simp] theorem listP_fls {l : List PV} : listP (.fls l) = .val (.lst l) := rfl
@[simp] theorem tupleP_lst {l : List PV} : tupleP (.lst l) = .val (.tup l) := rfl
@[simp] theorem tupleP_tup {l : List PV} : tupleP (.tup l) = .val (.tup l) := rfl
@[simp] theorem lenP_tup {l : List PV} : lenP (.tup l) = .val (.int l.length) := rfl
@[simp] theorem lenP_lst {l : List PV} : lenP (.lst l) = .val (.int l.length) := rfl
@[simp] theorem lenP_fls {l : List PV} : lenP (.fls l) = .val (.int l.length) := rfl
@[simp] theorem isP_non {p : PV} : isP p .non = .val (.bl (isNo p)) := rfl
@[simp] theorem isnP_non {p : PV} : isnP p .non = .val (.bl (!isNo p)) := rfl
@[simp] theorem ap1_one {f : PV → Res PV} {a : PV} : ap1 f [a] = f a := rfl
@[simp] theorem ap2_two {f : PV → PV → Res PV} {a b : PV} : ap2 f [a, b] = f a b := rfl
@[simp] theorem ap3_three {f : PV → PV → PV → Res PV} {a b c : PV} : ap3 f [a, b, c] = f a b c := rfl
@[simp] theorem ap4_four {f : PV → PV → PV → PV → Res PV} {a b c d : PV} : ap4 f [a, b, c, d] = f a b c d := rfl
@[simp] theorem ap5_five {f : PV → PV → PV → PV → PV → Res PV} {a b c d e : PV} : ap5 f [a, b, c, d, e] = f a b c d e := rfl
@[simp] theorem apR0_z {f : MO → Res (PV × MO)} {mo : MO} : apR0 f mo [] = f mo := rfl
@[simp] theorem apR1_o {f : MO → PV → Res (PV × MO)} {mo : MO} {a : PV} : apR1 f mo [a] = f mo a := rfl
@[simp] theorem apR2_t {f : MO → PV → PV → Res (PV × MO)} {mo : MO} {a b : PV} : apR2 f mo [a, b] = f mo a b := rfl
@[simp] theorem apR3_t {f : MO → PV → PV → PV → Res (PV × MO)} {mo : MO} {a b c : PV} : apR3 f mo [a, b, c] = f mo a b c := rfl
@[simp] theorem apN1_o {f : PV → Res MO} {a : PV} : apN1 f [a] = f a := rfl
@[simp] theorem apN2_t {f : PV → PV → Res MO} {a b : PV} : apN2 f [a, b] = f a b := rfl
theorem sized_ok {n : Nat} (h : n ≤ sizeLine) : sized n = .val () := if_pos h
theorem sized_small {n : Nat} (h : n ≤ 10000000) : sized n = .val () := if_pos (Nat.le_trans h (by unfold sizeLine; decide))
theorem mkT_ok {l : List PV} (h : l.length ≤ 10000000) : mkT l = .val (.tup l) := by unfold mkT; rw [sized_small h]; rfl
theorem mkL_ok {l : List PV} (h : l.length ≤ 10000000) : mkL l = .val (.lst l) := by unfold mkL; rw [sized_small h]; rfl
theorem mkN_ok {l : List PV} (h : l.length ≤ 10000000) : mkN l = .val l := by unfold mkN; rw [sized_small h]; rfl
theorem mulI_int {a b : Int} (h : CMul a b) : mulI (.int a) (.int b) = .val (.int (a * b)) := by
  unfold mulI orS ints2
  simp only [if_pos h]
theorem mulP_int {a b : Int} (h : CMul a b) : mulP (.int a) (.int b) = .val (.int (a * b)) := by
  unfold mulP orS
  rw [mulI_int h]
theorem mulP_intW {a b : Int} (h : CMulW a b) : mulP (.int a) (.int b) = .val (.int (a * b)) := by
  by_cases c : CMul a b
  · exact mulP_int c
  · unfold mulP mulI orS ints2
    simp only [if_neg c, if_pos h]
theorem mulP_l {a b : Int} (h1 : -(2 ^ 64) < a) (h2 : a < 2 ^ 64) : mulP (.int a) (.int b) = .val (.int (a * b)) := mulP_int (.inl ⟨h1, h2⟩)
theorem mulP_r {a b : Int} (h1 : -(2 ^ 64) < b) (h2 : b < 2 ^ 64) : mulP (.int a) (.int b) = .val (.int (a * b)) := mulP_int (.inr ⟨h1, h2⟩)
theorem mulPT_l {a b : Int} (h1 : -(2 ^ 64) < a) (h2 : a < 2 ^ 64) : mulPT (.int a) (.int b) = .val (.int (a * b)) := by unfold mulPT orS; rw [mulP_l h1 h2]
theorem modP_int {a b : Int} (h : b ≠ 0) : modP (.int a) (.int b) = .val (.int (a.fmod b)) := if_pos h
theorem modP_pos {a b : Int} (h : 0 < b) : modP (.int a) (.int b) = .val (.int (a % b)) := by
  rw [modP_int (by omega), Int.fmod_eq_emod_of_nonneg a (by omega)]
theorem fdivP_pos {a b : Int} (h : 0 < b) (h2 : b < 1073741824) : fdivP (.int a) (.int b) = .val (.int (a / b)) := by
  unfold fdivP orS ints2
  have c : CDivN a b := ⟨by omega, by omega⟩
  simp only [if_pos c]
  rw [Int.fdiv_eq_ediv_of_nonneg a (by omega)]
theorem powP_int {a b : Int} (h : CPow a b) : powP (.int a) (.int b) = .val (.int (a ^ b.toNat)) := if_pos h
theorem shlP_int {a b : Int} (h : CPow a b) : shlP (.int a) (.int b) = .val (.int (a * 2 ^ b.toNat)) := if_pos h
theorem shrP_int {a b : Int} (h : 0 ≤ b) : shrP (.int a) (.int b) = .val (.int (a / 2 ^ b.toNat)) := if_pos h
theorem ixP_tup {l : List PV} {i : Nat} {p : PV} (h : l[i]? = some p) : ixP (.tup l) (.int (i : Nat)) = .val p := by
  unfold ixP
  have : atI l ((i : Nat) : Int) = some p := atI_nat h
  simp only [this]
theorem ixP_lst {l : List PV} {i : Nat} {p : PV} (h : l[i]? = some p) : ixP (.lst l) (.int (i : Nat)) = .val p := by
  unfold ixP
  have : atI l ((i : Nat) : Int) = some p := atI_nat h
  simp only [this]
theorem rng1_ok {j : Int} (h : 0 ≤ j) (h2 : j < 2 ^ 62) : rng1 (.int j) = .val (rngP 0 j) := if_pos ⟨by omega, h2⟩
theorem rng2_ok {i j : Int} (h : -(2 ^ 62) ≤ i ∧ i < 2 ^ 62 ∧ -(2 ^ 62) ≤ j ∧ j < 2 ^ 62) : rng2 (.int i) (.int j) = .val (rngP i j) := if_pos h
theorem sumPT_ints {is : List Int} : sumPT (.tup (is.map PV.int)) = .val (.int is.sum) := by
  unfold sumPT
  rw [asSq_tup, bind_val, allI_map]
theorem sumPT_lints {is : List Int} : sumPT (.lst (is.map PV.int)) = .val (.int is.sum) := by
  unfold sumPT
  rw [asSq_lst, bind_val, allI_map]
theorem allP_bls {bs : List Bool} : allP (.lst (bs.map PV.bl)) = .val (.bl (bs.all id)) := by
  unfold allP
  rw [asLi_lst, bind_val, allB_map]
theorem anyP_bls {bs : List Bool} : anyP (.lst (bs.map PV.bl)) = .val (.bl (bs.any id)) := by
  unfold anyP
  rw [asLi_lst, bind_val, allB_map]
/-! loops -/
theorem whileF_iter {c : S → Res Bool} {b : S → Res (Fl S S)} (f : Nat → S) (j : Nat) (hc : ∀ i, i < j → c (f i) = .val true) (hb : ∀ i, i < j → b (f i) = .val (.nx (f (i + 1)))) (he : c (f j) = .val false) : ∀ (n i : Nat), i ≤ j → j - i < n → whileF (L := L) c b n (f i) = .val (.nx (f j))
  | 0, i, _, h => by omega
  | n + 1, i, hi, h => by
    unfold whileF
    by_cases e : i = j
    · subst e
      rw [he]
      rfl
    · have hlt : i < j := by omega
      rw [hc i hlt, bind_val, if_pos rfl, hb i hlt]
      exact whileF_iter f j hc hb he n (i + 1) (by omega) (by omega)
theorem forF_iter {body : PV → S → Res (Fl S S)} : ∀ (ps : List PV) (f : Nat → S), (∀ i p, ps[i]? = some p → body p (f i) = .val (.nx (f (i + 1)))) → forF (L := L) body ps (f 0) = .val (.nx (f ps.length))
  | [], f, _ => rfl
  | p :: ps, f, h => by
    unfold forF
    rw [h 0 p rfl]
    exact forF_iter ps (fun i => f (i + 1)) fun i q hq => h (i + 1) q (by simpa using hq)
theorem forF_rng {body : PV → S → Res (Fl S S)} {lo hi : Int} (f : Nat → S) (h : ∀ i : Nat, i < (hi - lo).toNat → body (.int (lo + (i : Nat))) (f i) = .val (.nx (f (i + 1)))) : forF (L := L) body (rngP lo hi) (f 0) = .val (.nx (f (hi - lo).toNat)) := by
  have := forF_iter (L := L) (body := body) (rngP lo hi) f fun i p hp => by
    obtain ⟨h1, rfl⟩ := rng_get hp
    exact h i h1
  rw [rng_len] at this
  exact this
theorem lcF_val {c : PV → Res Bool} {e : PV → Res PV} {g : PV → PV} : ∀ {ps : List PV}, (∀ p, p ∈ ps → c p = .val true) → (∀ p, p ∈ ps → e p = .val (g p)) → lcF (fun x => Res.val x) c e ps = .val (ps.map g)
  | [], _, _ => rfl
  | p :: ps, hc, he => by
    unfold lcF
    rw [noX_val, bind_val, hc p List.mem_cons_self, noX_val, bind_val, if_pos rfl, he p List.mem_cons_self, noX_val, bind_val, lcF_val (fun q hq => hc q (List.mem_cons_of_mem _ hq)) (fun q hq => he q (List.mem_cons_of_mem _ hq))]
    rfl
theorem lcF_rng {e : PV → Res PV} {lo hi : Int} (g : Nat → PV) (h : ∀ i : Nat, i < (hi - lo).toNat → e (.int (lo + (i : Nat))) = .val (g i)) : lcF (fun x => Res.val x) (fun _ => Res.val true) e (rngP lo hi) = .val ((List.range (hi - lo).toNat).map g) := by
  have key : ∀ (l : List Nat), (∀ i, i ∈ l → i < (hi - lo).toNat) → lcF (fun x => Res.val x) (fun _ => Res.val true) e (l.map fun i => PV.int (lo + (i : Nat))) = .val (l.map g) := by
    intro l
    induction l with
    | nil => intro _; rfl
    | cons i l ih =>
      intro hl
      rw [List.map_cons]
      unfold lcF
      rw [noX_val, bind_val, noX_val, bind_val, if_pos rfl, h i (hl i List.mem_cons_self), noX_val, bind_val, ih fun j hj => hl j (List.mem_cons_of_mem _ hj)]
      rfl
  exact key _ fun i hi => List.mem_range.mp hi
/-- with a condition -/
theorem lcF_filter {c : PV → Res Bool} {e : PV → Res PV} {k : PV → Bool} {g : PV → PV} : ∀ {ps : List PV}, (∀ p, p ∈ ps → c p = .val (k p)) → (∀ p, p ∈ ps → k p = true → e p = .val (g p)) → lcF (fun x => Res.val x) c e ps = .val ((ps.filter k).map g)
  | [], _, _ => rfl
  | p :: ps, hc, he => by
    have ih := lcF_filter (ps := ps) (fun q hq => hc q (List.mem_cons_of_mem _ hq)) (fun q hq => he q (List.mem_cons_of_mem _ hq))
    unfold lcF
    rw [noX_val, bind_val, hc p List.mem_cons_self, noX_val, bind_val]
    cases hk : k p with
    | true =>
      rw [if_pos rfl, he p List.mem_cons_self hk, noX_val, bind_val, ih, List.filter_cons_of_pos hk]
      rfl
    | false =>
      rw [if_neg (by decide), ih, List.filter_cons_of_neg (by rw [hk]; decide)]
theorem lc_rng1 {e : PV → Res PV} {n : Nat} (g : Nat → PV) (hn : n ≤ 10000000) (h : ∀ i : Nat, i < n → e (.int (i : Nat)) = .val (g i)) : (rng1 (.int (n : Nat)) >>= fun ps => sized ps.length >>= fun _ => lcF (fun x => Res.val x) (fun _ => Res.val true) e ps) = .val ((List.range n).map g) := by
  have e1 : (((n : Nat) : Int) - 0).toNat = n := by omega
  rw [rng1_ok (by omega) (by omega), bind_val, rng_len, sized_small (by omega), bind_val, lcF_rng (lo := 0) (hi := (n : Nat)) g fun i hi => by rw [Int.zero_add]; exact h i (by omega), e1]
theorem forF_rng1 {S L : Type} {body : PV → S → Res (Fl S S)} {n : Nat} (f : Nat → S) (hn : n ≤ 10000000) (h : ∀ i : Nat, i < n → body (.int (i : Nat)) (f i) = .val (.nx (f (i + 1)))) : (rng1 (.int (n : Nat)) >>= fun ps => forF (L := L) body ps (f 0)) = .val (.nx (f n)) := by
  have e1 : (((n : Nat) : Int) - 0).toNat = n := by omega
  rw [rng1_ok (by omega) (by omega), bind_val, forF_rng (L := L) (lo := 0) (hi := (n : Nat)) f fun i hi => by rw [Int.zero_add]; exact h i (by omega), e1]
theorem shlP_nat {a : Int} {n : Nat} (h : CPow a (n : Int)) : shlP (.int a) (.int n) = .val (.int (a * 2 ^ n)) := by
  rw [shlP_int h]; rfl
theorem shrP_nat {a n : Nat} : shrP (.int a) (.int n) = .val (.int ((a / 2 ^ n : Nat) : Int)) := by
  rw [shrP_int (by omega)]
  simp
theorem modP_nat {a b : Nat} (h : 0 < b) : modP (.int a) (.int b) = .val (.int ((a % b : Nat) : Int)) := by
  rw [modP_pos (by omega)]; rfl
end
/-! ### k65: weights, by reckoning -/
def isInts : List PV → List Int → Bool
  | [], [] => true
  | .int a :: l, b :: m => decide (a = b) && isInts l m
  | _, _ => false
theorem isInts_eq : ∀ {l : List PV} {m : List Int}, isInts l m = true → l = m.map PV.int
  | [], [], _ => rfl
  | .int a :: l, b :: m, h => by
    unfold isInts at h
    obtain ⟨h1, h2⟩ := Bool.and_eq_true_iff.mp h
    rw [of_decide_eq_true h1, isInts_eq h2]
    rfl
  | .non :: _, _ :: _, h => by cases h
  | .bl _ :: _, _ :: _, h => by cases h
  | .str _ :: _, _ :: _, h => by cases h
  | .tup _ :: _, _ :: _, h => by cases h
  | .lst _ :: _, _ :: _, h => by cases h
  | .fls _ :: _, _ :: _, h => by cases h
  | .ins _ _ :: _, _ :: _, h => by cases h
  | .dct _ :: _, _ :: _, h => by cases h
  | .ty _ :: _, _ :: _, h => by cases h
  | [], _ :: _, h => by cases h
  | p :: _, [], h => by cases p <;> cases h
def tw : Res PV → List Int → Bool
  | .val (.tup l), m => isInts l m
  | _, _ => false
def ti : Res PV → Int → Bool
  | .val (.int l), m => decide (l = m)
  | _, _ => false
theorem tw_eq {r : Res PV} {m : List Int} (h : tw r m = true) : r = .val (.tup (m.map PV.int)) := by
  unfold tw at h
  split at h
  · rw [isInts_eq h]
  · cases h
theorem ti_eq {r : Res PV} {m : Int} (h : ti r m = true) : r = .val (.int m) := by
  unfold ti at h
  split at h
  · rw [of_decide_eq_true h]
  · cases h
def lg (t : Nat) : Nat := Nat.log2 (t + 1)
def Wt (t : Nat) : List Int := (List.range (lg t)).map (fun k => ((2 ^ k : Nat) : Int)) ++ if 2 ^ lg t - 1 < t then [((t - (2 ^ lg t - 1) : Nat) : Int)] else []
def Dg (t v : Nat) : List Int :=
  let e : Nat := if 2 ^ lg t - 1 < v then 1 else 0
  (List.range (lg t)).map (fun k => (((v - e * (t - (2 ^ lg t - 1))) / 2 ^ k % 2 : Nat) : Int)) ++ if 2 ^ lg t - 1 < t then [(e : Int)] else []
theorem reck1 : ((List.range 1001).all fun t => tw (m_range_weights (.int t)) (Wt t) && tw (m__law_weights (.int t)) (Wt t) && ti (m__count_doubling (.int t)) (lg t) && ti (m__law_pure (.int t)) (lg t)
    && decide ((Wt t).sum = t) && decide (Dg t t = List.replicate (Wt t).length 1) && decide (2 ^ lg t - 1 ≤ t ∧ t < 2 ^ (lg t + 1) - 1 ∧ lg t < 10)) = true := by decide +kernel
structure Rk (t : Nat) : Prop where
  rw : m_range_weights (.int t) = .val (.tup ((Wt t).map PV.int))
  lw : m__law_weights (.int t) = .val (.tup ((Wt t).map PV.int))
  cd : m__count_doubling (.int t) = .val (.int (lg t))
  lp : m__law_pure (.int t) = .val (.int (lg t))
  sm : (Wt t).sum = t
  dt : Dg t t = List.replicate (Wt t).length 1
  lo : 2 ^ lg t - 1 ≤ t
  hi : t < 2 ^ (lg t + 1) - 1
  sl : lg t < 10
theorem rk {t : Nat} (h : t < 1001) : Rk t := by
  have := List.all_eq_true.mp reck1 t (List.mem_range.mpr h)
  simp only [Bool.and_eq_true, decide_eq_true_eq] at this
  obtain ⟨⟨⟨⟨⟨⟨h1, h2⟩, h3⟩, h4⟩, h5⟩, h6⟩, h7⟩ := this
  exact ⟨tw_eq h1, tw_eq h2, ti_eq h3, ti_eq h4, h5, h6, h7.1, h7.2.1, h7.2.2⟩
theorem range_digits_no {t : Nat} {v : Int} (h : ¬ (0 ≤ v ∧ v ≤ t)) : m_range_digits (.int t) (.int v) = .exc "NoWitness" := by
  unfold m_range_digits
  by_cases c : 0 ≤ v
  · have c2 : ¬ v ≤ t := fun c3 => h ⟨c, c3⟩
    simp [c, c2]
  · simp [c]
theorem range_digits_ok {t v : Nat} (h : t < 1001) (hv : v ≤ t) : m_range_digits (.int t) (.int v) = .val (.tup ((Dg t v).map PV.int)) := by
  have R := rk h
  have e1 : (0 : Int) ≤ (v : Int) := by omega
  have e2 : (v : Int) ≤ (t : Int) := by omega
  have e3 : CPow 1 ((lg t : Nat) : Int) := by have := R.sl; exact ⟨by omega, by omega, by decide⟩
  have hP : 0 < 2 ^ lg t := Nat.pow_pos (by decide)
  have eP : (1 : Int) * 2 ^ lg t = ((2 ^ lg t : Nat) : Int) := by rw [Int.one_mul, Int.natCast_pow]; rfl
  have hl := R.lo
  have hs := R.sl
  have key : ∀ x : Nat, (do
          let ps31 ← (rng1 (PV.int ((lg t : Nat) : Int)) >>= fun ps30 => sized ps30.length >>= fun _ =>
              lcF (fun x => Res.val x) (fun a25 => Res.val true) (fun a25 => shrP (.int (x : Nat)) a25 >>= fun x28 => modP x28 (.int 2)) ps30)
          Res.val (PV.lst ps31)) = Res.val (PV.lst ((List.range (lg t)).map fun k => PV.int ((x / 2 ^ k % 2 : Nat) : Int))) := fun x => by
    rw [lc_rng1 (fun k => PV.int ((x / 2 ^ k % 2 : Nat) : Int)) (by omega) fun i hi => by rw [shrP_nat, bind_val]; exact modP_nat (by decide)]
    rfl
  have hh : 2 ^ (lg t + 1) = 2 ^ lg t * 2 := Nat.pow_succ ..
  have hi := R.hi
  have m1 : ∀ b : Int, mulP (.int 1) (.int b) = .val (.int (1 * b)) := fun b => mulP_l (by decide) (by decide)
  have m0 : ∀ b : Int, mulP (.int 0) (.int b) = .val (.int (0 * b)) := fun b => mulP_l (by decide) (by decide)
  have lr : ∀ f : Nat → PV, ((List.range (lg t)).map f).length = lg t := fun f => by rw [List.length_map, List.length_range]
  unfold m_range_digits Dg
  by_cases c1 : 2 ^ lg t - 1 < v
  · have d1 : ((2 ^ lg t : Nat) : Int) - 1 < (v : Int) := by omega
    have d2 : ((2 ^ lg t : Nat) : Int) - 1 < (t : Int) := by omega
    have c2 : 2 ^ lg t - 1 < t := by omega
    have e4 : (v : Int) - 1 * ((t : Int) - (((2 ^ lg t : Nat) : Int) - 1)) = ((v - 1 * (t - (2 ^ lg t - 1)) : Nat) : Int) := by omega
    simp -implicitDefEqProofs only [bind_val, asB_bl, if_true, Bool.not_true, Bool.not_false, Bool.false_eq_true, if_false, retF_rt, seqF_nx, seqF_rt, asSq_lst, asSq_tup, partP_int, leP_int, ltP_int, gtP_int, geP_int, addP_int, subP_int, intP_int, tupleP_lst, asLi_lst, decide_eq_true e1, decide_eq_true e2, R.cd, shlP_nat e3, eP, decide_eq_true d1, decide_eq_true d2, m1, e4, key]
    rw [mkT_ok (by rw [List.length_append, lr]; show lg t + 1 ≤ _; omega)]
    simp -implicitDefEqProofs only [bind_val, asB_bl, if_true, Bool.not_true, Bool.not_false, Bool.false_eq_true, if_false, retF_rt, seqF_nx, seqF_rt, asSq_lst, asSq_tup, partP_int, leP_int, ltP_int, gtP_int, geP_int, addP_int, subP_int, intP_int, tupleP_lst, asLi_lst, if_pos c1, if_pos c2]
    rw [List.map_append, List.map_map]
    rfl
  · have d1 : ¬ ((2 ^ lg t : Nat) : Int) - 1 < (v : Int) := by omega
    have e4 : (v : Int) - 0 * ((t : Int) - (((2 ^ lg t : Nat) : Int) - 1)) = ((v - 0 * (t - (2 ^ lg t - 1)) : Nat) : Int) := by omega
    by_cases c2 : 2 ^ lg t - 1 < t
    · have d2 : ((2 ^ lg t : Nat) : Int) - 1 < (t : Int) := by omega
      simp -implicitDefEqProofs only [bind_val, asB_bl, if_true, Bool.not_true, Bool.not_false, Bool.false_eq_true, if_false, retF_rt, seqF_nx, seqF_rt, asSq_lst, asSq_tup, partP_int, leP_int, ltP_int, gtP_int, geP_int, addP_int, subP_int, intP_int, tupleP_lst, asLi_lst, decide_eq_true e1, decide_eq_true e2, R.cd, shlP_nat e3, eP, decide_eq_false d1, decide_eq_true d2, m0, e4, key]
      rw [mkT_ok (by rw [List.length_append, lr]; show lg t + 1 ≤ _; omega)]
      simp -implicitDefEqProofs only [bind_val, asB_bl, if_true, Bool.not_true, Bool.not_false, Bool.false_eq_true, if_false, retF_rt, seqF_nx, seqF_rt, asSq_lst, asSq_tup, partP_int, leP_int, ltP_int, gtP_int, geP_int, addP_int, subP_int, intP_int, tupleP_lst, asLi_lst, if_neg c1, if_pos c2]
      rw [List.map_append, List.map_map]
      rfl
    · have d2 : ¬ ((2 ^ lg t : Nat) : Int) - 1 < (t : Int) := by omega
      simp -implicitDefEqProofs only [bind_val, asB_bl, if_true, Bool.not_true, Bool.not_false, Bool.false_eq_true, if_false, retF_rt, seqF_nx, seqF_rt, asSq_lst, asSq_tup, partP_int, leP_int, ltP_int, gtP_int, geP_int, addP_int, subP_int, intP_int, tupleP_lst, asLi_lst, decide_eq_true e1, decide_eq_true e2, R.cd, shlP_nat e3, eP, decide_eq_false d1, decide_eq_false d2, m0, e4, key]
      simp -implicitDefEqProofs only [bind_val, asB_bl, if_true, Bool.not_true, Bool.not_false, Bool.false_eq_true, if_false, retF_rt, seqF_nx, seqF_rt, asSq_lst, asSq_tup, partP_int, leP_int, ltP_int, gtP_int, geP_int, addP_int, subP_int, intP_int, tupleP_lst, asLi_lst, if_neg c1, if_neg c2]
      rw [List.append_nil, List.map_map]
      rfl
def Pw (t : Nat) : List Int := (List.range (lg t)).map (fun k => ((2 ^ k : Nat) : Int))
def tu : Res PV → Res PV → Bool
  | .val (.tup l), r => match allI l with
    | some m => tw r m
    | none => false
  | _, _ => false
theorem reck2 : ((List.range 1001).all fun t => tw (slP (.tup ((Wt t).map PV.int)) none (some ((lg t : Nat) : Int))) (Pw t) && decide ((Pw t).sum = ((2 ^ lg t - 1 : Nat) : Int))
    && (List.range (lg t)).all (fun k => ti (ixP (.tup ((Wt t).map PV.int)) (.int (k : Nat))) ((2 ^ k : Nat) : Int))
    && decide ((Wt t).length = lg t + if 2 ^ lg t - 1 < t then 1 else 0)
    && (decide (t ≤ 2 ^ lg t - 1) || ti (ixP (.tup ((Wt t).map PV.int)) (.int (lg t : Nat))) ((t - (2 ^ lg t - 1) : Nat) : Int))) = true := by decide +kernel
structure Rl (t : Nat) : Prop where
  sl : slP (.tup ((Wt t).map PV.int)) none (some ((lg t : Nat) : Int)) = .val (.tup ((Pw t).map PV.int))
  sm : (Pw t).sum = ((2 ^ lg t - 1 : Nat) : Int)
  ix : ∀ k : Nat, k < lg t → ixP (.tup ((Wt t).map PV.int)) (.int (k : Nat)) = .val (.int ((2 ^ k : Nat) : Int))
  ln : (Wt t).length = lg t + if 2 ^ lg t - 1 < t then 1 else 0
  ex : 2 ^ lg t - 1 < t → ixP (.tup ((Wt t).map PV.int)) (.int (lg t : Nat)) = .val (.int ((t - (2 ^ lg t - 1) : Nat) : Int))
theorem rl {t : Nat} (h : t < 1001) : Rl t := by
  have := List.all_eq_true.mp reck2 t (List.mem_range.mpr h)
  simp only [Bool.and_eq_true, decide_eq_true_eq, Bool.or_eq_true] at this
  obtain ⟨⟨⟨⟨h1, h2⟩, h3⟩, h4⟩, h5⟩ := this
  refine ⟨tw_eq h1, h2, fun k hk => ti_eq (List.all_eq_true.mp h3 k (List.mem_range.mpr hk)), h4, fun c => ?_⟩
  rcases h5 with h5 | h5
  · omega
  · exact ti_eq h5
theorem addP_tups {a b : List PV} (h : a.length + b.length ≤ 10000000) : addP (.tup a) (.tup b) = .val (.tup (a ++ b)) := by
  unfold addP orS ints2 catS catL catT
  simp only
  rw [if_pos (by exact Nat.le_trans h (by unfold sizeLine; decide))]
theorem fdivP_nat {a b : Nat} (h : 0 < b) (h2 : b < 1073741824) : fdivP (.int a) (.int b) = .val (.int ((a / b : Nat) : Int)) := by
  rw [fdivP_pos (by omega) (by omega)]; rfl
theorem p2 {k : Nat} (h : k < 10) : 0 < 2 ^ k ∧ 2 ^ k < 1073741824 := ⟨Nat.pow_pos (by decide), Nat.lt_of_le_of_lt (Nat.pow_le_pow_right (by decide) (show k ≤ 10 by omega)) (by decide)⟩
theorem law_digits_ok {t v : Nat} (h : t < 1001) (hv : v ≤ t) : m__law_digits (.int t) (.int v) = .val (.tup ((Dg t v).map PV.int)) := by
  have R := rk h
  have L := rl h
  have hP : 0 < 2 ^ lg t := Nat.pow_pos (by decide)
  have hl := R.lo
  have hs := R.sl
  have hh : 2 ^ (lg t + 1) = 2 ^ lg t * 2 := Nat.pow_succ ..
  have hi := R.hi
  have key : ∀ x : Nat, (do
          let ps31 ← (rng1 (PV.int ((lg t : Nat) : Int)) >>= fun ps30 => sized ps30.length >>= fun _ =>
              lcF (fun x => Res.val x) (fun a25 => Res.val true) (fun a25 => ((ixP (.tup ((Wt t).map PV.int)) a25 >>= fun x32 => fdivP (.int (x : Nat)) x32) >>= intP) >>= fun x33 => modP x33 (.int 2)) ps30)
          Res.val (PV.lst ps31)) = Res.val (PV.lst ((List.range (lg t)).map fun k => PV.int ((x / 2 ^ k % 2 : Nat) : Int))) := fun x => by
    rw [lc_rng1 (fun k => PV.int ((x / 2 ^ k % 2 : Nat) : Int)) (by omega) fun i hi => by
      rw [L.ix i hi, bind_val, fdivP_nat (p2 (by omega)).1 (p2 (by omega)).2, bind_val, intP_int, bind_val]; exact modP_nat (by decide)]
    rfl
  have lr : ∀ f : Nat → PV, ((List.range (lg t)).map f).length = lg t := fun f => by rw [List.length_map, List.length_range]
  have m1 : ∀ b : Int, mulP (.int 1) (.int b) = .val (.int (1 * b)) := fun b => mulP_l (by decide) (by decide)
  have m0 : ∀ b : Int, mulP (.int 0) (.int b) = .val (.int (0 * b)) := fun b => mulP_l (by decide) (by decide)
  have hm : mkT [] = .val (.tup []) := mkT_ok (by decide)
  have hn : ∀ x : PV, mkT [x] = .val (.tup [x]) := fun x => mkT_ok (by show 1 ≤ 10000000; decide)
  have hw : lenP (.tup ((Wt t).map PV.int)) = .val (.int ((lg t + if 2 ^ lg t - 1 < t then 1 else 0 : Nat) : Int)) := by
    rw [lenP_tup, List.length_map, L.ln]
  have hpw : sumPT (.tup ((Pw t).map PV.int)) = .val (.int ((2 ^ lg t - 1 : Nat) : Int)) := by rw [sumPT_ints, L.sm]
  unfold m__law_digits Dg
  by_cases c2 : 2 ^ lg t - 1 < t
  · have d2 : ((lg t : Nat) : Int) < ((lg t + if 2 ^ lg t - 1 < t then 1 else 0 : Nat) : Int) := by rw [if_pos c2]; omega
    by_cases c1 : 2 ^ lg t - 1 < v
    · have d1 : ((2 ^ lg t - 1 : Nat) : Int) < (v : Int) := by omega
      have e4 : (v : Int) - 1 * ((t - (2 ^ lg t - 1) : Nat) : Int) = ((v - 1 * (t - (2 ^ lg t - 1)) : Nat) : Int) := by omega
      simp -implicitDefEqProofs only [bind_val, asB_bl, if_true, Bool.not_true, Bool.not_false, Bool.false_eq_true, if_false, retF_rt, seqF_nx, seqF_rt, asSq_lst, asSq_tup, partP_int, leP_int, ltP_int, gtP_int, geP_int, addP_int, subP_int, intP_int, tupleP_lst, asLi_lst, R.lw, R.lp, hw, decide_eq_true d2, L.sl, hpw, decide_eq_true d1, intP_bl, L.ex c2, m1, e4, key, hn, hm]
      rw [addP_tups (by rw [lr]; show lg t + 1 ≤ _; omega)]
      simp -implicitDefEqProofs only [bind_val, asB_bl, if_true, Bool.not_true, Bool.not_false, Bool.false_eq_true, if_false, retF_rt, seqF_nx, seqF_rt, asSq_lst, asSq_tup, partP_int, leP_int, ltP_int, gtP_int, geP_int, addP_int, subP_int, intP_int, tupleP_lst, asLi_lst, if_pos c1, if_pos c2]
      rw [List.map_append, List.map_map]
      rfl
    · have d1 : ¬ ((2 ^ lg t - 1 : Nat) : Int) < (v : Int) := by omega
      have e4 : (v : Int) - 0 * ((t - (2 ^ lg t - 1) : Nat) : Int) = ((v - 0 * (t - (2 ^ lg t - 1)) : Nat) : Int) := by omega
      simp -implicitDefEqProofs only [bind_val, asB_bl, if_true, Bool.not_true, Bool.not_false, Bool.false_eq_true, if_false, retF_rt, seqF_nx, seqF_rt, asSq_lst, asSq_tup, partP_int, leP_int, ltP_int, gtP_int, geP_int, addP_int, subP_int, intP_int, tupleP_lst, asLi_lst, R.lw, R.lp, hw, decide_eq_true d2, L.sl, hpw, decide_eq_false d1, intP_bl, L.ex c2, m0, e4, key, hn, hm]
      rw [addP_tups (by rw [lr]; show lg t + 1 ≤ _; omega)]
      simp -implicitDefEqProofs only [bind_val, asB_bl, if_true, Bool.not_true, Bool.not_false, Bool.false_eq_true, if_false, retF_rt, seqF_nx, seqF_rt, asSq_lst, asSq_tup, partP_int, leP_int, ltP_int, gtP_int, geP_int, addP_int, subP_int, intP_int, tupleP_lst, asLi_lst, if_neg c1, if_pos c2]
      rw [List.map_append, List.map_map]
      rfl
  · have c1 : ¬ 2 ^ lg t - 1 < v := by omega
    have d2 : ¬ ((lg t : Nat) : Int) < ((lg t + if 2 ^ lg t - 1 < t then 1 else 0 : Nat) : Int) := by rw [if_neg c2]; omega
    simp -implicitDefEqProofs only [bind_val, asB_bl, if_true, Bool.not_true, Bool.not_false, Bool.false_eq_true, if_false, retF_rt, seqF_nx, seqF_rt, asSq_lst, asSq_tup, partP_int, leP_int, ltP_int, gtP_int, geP_int, addP_int, subP_int, intP_int, tupleP_lst, asLi_lst, R.lw, R.lp, hw, decide_eq_false d2, key, hn, hm]
    rw [addP_tups (by rw [lr]; show lg t + 0 ≤ _; omega)]
    simp -implicitDefEqProofs only [bind_val, asB_bl, if_true, Bool.not_true, Bool.not_false, Bool.false_eq_true, if_false, retF_rt, seqF_nx, seqF_rt, asSq_lst, asSq_tup, partP_int, leP_int, ltP_int, gtP_int, geP_int, addP_int, subP_int, intP_int, tupleP_lst, asLi_lst, if_neg c1, if_neg c2]
    rw [List.append_nil, List.append_nil, List.map_map, Nat.zero_mul, Nat.sub_zero]
    rfl
theorem eqB_int {a b : Int} : eqB (.int a) (.int b) = some (decide (a = b)) := by
  show (if SeqAt.shaped (.int a) = true ∧ SeqAt.shaped (.int b) = true then some (PyData.eqv (.int a) (.int b)) else none) = _
  rw [if_pos ⟨rfl, rfl⟩]
  unfold PyData.eqv
  rfl
theorem eqB_bl {a b : Bool} : eqB (.bl a) (.bl b) = some (decide (a = b)) := by
  show (if SeqAt.shaped (.bool a) = true ∧ SeqAt.shaped (.bool b) = true then some (PyData.eqv (.bool a) (.bool b)) else none) = _
  rw [if_pos ⟨rfl, rfl⟩]
  unfold PyData.eqv
  cases a <;> cases b <;> rfl
theorem eqB_str {a b : Str} (h : SeqAt.shaped (.str a) = true) (h2 : SeqAt.shaped (.str b) = true) : eqB (.str a) (.str b) = some (decide (a = b)) := by
  show (if SeqAt.shaped (.str a) = true ∧ SeqAt.shaped (.str b) = true then some (PyData.eqv (.str a) (.str b)) else none) = _
  rw [if_pos ⟨h, h2⟩]
  unfold PyData.eqv
  rfl
theorem eqP_int {a b : Int} : eqP (.int a) (.int b) = .val (.bl (decide (a = b))) := by unfold eqP; rw [eqB_int]
theorem neP_int {a b : Int} : neP (.int a) (.int b) = .val (.bl (!decide (a = b))) := by unfold neP; rw [eqB_int]
theorem eqP_bl {a b : Bool} : eqP (.bl a) (.bl b) = .val (.bl (decide (a = b))) := by unfold eqP; rw [eqB_bl]
theorem neP_bl {a b : Bool} : neP (.bl a) (.bl b) = .val (.bl (!decide (a = b))) := by unfold neP; rw [eqB_bl]
theorem eqP_str {a b : Str} (h : SeqAt.shaped (.str a) = true) (h2 : SeqAt.shaped (.str b) = true) : eqP (.str a) (.str b) = .val (.bl (decide (a = b))) := by unfold eqP; rw [eqB_str h h2]
theorem neP_str {a b : Str} (h : SeqAt.shaped (.str a) = true) (h2 : SeqAt.shaped (.str b) = true) : neP (.str a) (.str b) = .val (.bl (!decide (a = b))) := by unfold neP; rw [eqB_str h h2]
theorem alike_int (n : Nat) (a : Int) : m__law_alike (n + 1) (.int a) (.int a) = .val (.bl true) := by
  have h1 : isiP2 "tuple" "list" (.int a) = .val (.bl false) := rfl
  have h2 : isiP (.int a) (.ty "bool") = .val (.bl false) := rfl
  have h3 : isiP (.int a) (.ty "str") = .val (.bl false) := rfl
  have h4 : isiP (.int a) (.ty "int") = .val (.bl true) := rfl
  have h5 : isP (.int a) .non = .val (.bl false) := rfl
  unfold m__law_alike
  simp -implicitDefEqProofs only [bind_val, asB_bl, if_true, Bool.not_true, Bool.not_false, Bool.false_eq_true, if_false, retF_rt, seqF_nx, seqF_rt, asSq_lst, asSq_tup, partP_int, leP_int, ltP_int, gtP_int, geP_int, addP_int, subP_int, intP_int, tupleP_lst, asLi_lst, h1, h2, h3, h4, h5, eqP_int, decide_true]
theorem alike_str (n : Nat) (a : Str) (hs : SeqAt.shaped (.str a) = true) : m__law_alike (n + 1) (.str a) (.str a) = .val (.bl true) := by
  have h1 : isiP2 "tuple" "list" (.str a) = .val (.bl false) := rfl
  have h2 : isiP (.str a) (.ty "bool") = .val (.bl false) := rfl
  have h3 : isiP (.str a) (.ty "str") = .val (.bl true) := rfl
  have h5 : isP (.str a) .non = .val (.bl false) := rfl
  unfold m__law_alike
  simp -implicitDefEqProofs only [bind_val, asB_bl, if_true, Bool.not_true, Bool.not_false, Bool.false_eq_true, if_false, retF_rt, seqF_nx, seqF_rt, asSq_lst, asSq_tup, partP_int, leP_int, ltP_int, gtP_int, geP_int, addP_int, subP_int, intP_int, tupleP_lst, asLi_lst, h1, h2, h3, h5, eqP_str hs hs, decide_true]
theorem alike_tup (n : Nat) (l : List PV) (hl : l.length ≤ 10000000) (h : ∀ p, p ∈ l → m__law_alike n p p = .val (.bl true)) : m__law_alike (n + 1) (.tup l) (.tup l) = .val (.bl true) := by
  have h1 : isiP2 "tuple" "list" (.tup l) = .val (.bl true) := rfl
  have h2 : isiP (.tup l) (.ty "tuple") = .val (.bl true) := rfl
  have h3 : isiP (.tup l) (.ty "list") = .val (.bl false) := rfl
  have key := forF_rng1 (S := Unit) (L := Empty) (n := l.length) (body := fun (x33 : PV) (s21 : Unit) => (fun x => Res.val x) x33 >>= fun (a22 : PV) => ((((((Res.val (.tup l)) >>= fun x23 => (Res.val a22) >>= fun x24 => ixP x23 x24) >>= fun x27 => ((Res.val (.tup l)) >>= fun x25 => (Res.val a22) >>= fun x26 => ixP x25 x26) >>= fun x28 => (m__law_alike n) x27 x28) >>= asB) >>= fun b29 => Res.val (!b29)) >>= fun b30 => if b30 = true then ((Res.val (PV.bl false)) >>= fun v31 => Res.val (.rt v31 [])) else (Res.val (.nx ())))) (fun _ => ()) hl fun i hi => by
    have e := ixP_tup (List.getElem?_eq_getElem hi)
    simp -implicitDefEqProofs only [bind_val, asB_bl, if_true, Bool.not_true, Bool.not_false, Bool.false_eq_true, if_false, retF_rt, seqF_nx, seqF_rt, asSq_lst, asSq_tup, partP_int, leP_int, ltP_int, gtP_int, geP_int, addP_int, subP_int, intP_int, tupleP_lst, asLi_lst, e, h _ (List.getElem_mem hi)]
  unfold m__law_alike
  simp -implicitDefEqProofs only [bind_val] at key
  simp -implicitDefEqProofs only [bind_val, asB_bl, if_true, Bool.not_true, Bool.not_false, Bool.false_eq_true, if_false, retF_rt, seqF_nx, seqF_rt, asSq_lst, asSq_tup, partP_int, leP_int, ltP_int, gtP_int, geP_int, addP_int, subP_int, intP_int, tupleP_lst, asLi_lst, h1, h2, h3, neP_bl, lenP_tup, neP_int, decide_true, key]
theorem hitNW : hit_NoWitness "NoWitness" = some true := rfl
theorem shT : SeqAt.shaped (.str "told") = true := by decide +kernel
theorem shN : SeqAt.shaped (.str "none") = true := by decide +kernel
theorem asked_ok {t v : Nat} (h : t < 1001) (hv : v ≤ t) : m__law_asked (.int t) (.int v) = .val (.tup [.str "told", .tup ((Dg t v).map PV.int)]) := by
  have e : ∀ a b : PV, mkT [a, b] = .val (.tup [a, b]) := fun a b => mkT_ok (by show 2 ≤ 10000000; decide)
  unfold m__law_asked tryF
  simp -implicitDefEqProofs only [bind_val, asB_bl, if_true, Bool.not_true, Bool.not_false, Bool.false_eq_true, if_false, retF_rt, seqF_nx, seqF_rt, asSq_lst, asSq_tup, partP_int, leP_int, ltP_int, gtP_int, geP_int, addP_int, subP_int, intP_int, tupleP_lst, asLi_lst, range_digits_ok h hv, e]
theorem exc_bind {α β : Type} {c : Str} {f : α → Res β} : (Res.exc c >>= f) = Res.exc c := rfl
theorem asked_no {t : Nat} {v : Int} (h : ¬ (0 ≤ v ∧ v ≤ t)) : m__law_asked (.int t) (.int v) = .val (.tup [.str "none"]) := by
  have e : ∀ a : PV, mkT [a] = .val (.tup [a]) := fun a => mkT_ok (by show 1 ≤ 10000000; decide)
  unfold m__law_asked tryF
  simp -implicitDefEqProofs only [bind_val, asB_bl, if_true, Bool.not_true, Bool.not_false, Bool.false_eq_true, if_false, retF_rt, seqF_nx, seqF_rt, asSq_lst, asSq_tup, partP_int, leP_int, ltP_int, gtP_int, geP_int, addP_int, subP_int, intP_int, tupleP_lst, asLi_lst, range_digits_no h, exc_bind, hitNW, e, noX_val]
theorem forF_unit {L : Type} {body : PV → Unit → Res (Fl Unit Unit)} : ∀ {ps : List PV}, (∀ p, p ∈ ps → body p () = .val (.nx ())) → forF (L := L) body ps () = .val (.nx ())
  | [], _ => rfl
  | p :: ps, h => by
    unfold forF
    rw [h p List.mem_cons_self]
    exact forF_unit fun q hq => h q (List.mem_cons_of_mem _ hq)
theorem ixP_ints {l : List Int} {k : Nat} (h : k < l.length) : ixP (.tup (l.map PV.int)) (.int (k : Nat)) = .val (.int (l.getD k 0)) := ixP_tup (by
  rw [List.getElem?_map, List.getElem?_eq_getElem h, List.getD_eq_getElem?_getD, List.getElem?_eq_getElem h]; rfl)
theorem bits_ok : ((List.range 10).all fun j => (List.range (2 ^ j)).all fun r => decide (((List.range j).map fun k => ((2 ^ k : Nat) : Int) * ((r / 2 ^ k % 2 : Nat) : Int)).sum = (r : Int))) = true := by decide +kernel
theorem bits {j r : Nat} (h : j < 10) (hr : r < 2 ^ j) : ((List.range j).map fun k => ((2 ^ k : Nat) : Int) * ((r / 2 ^ k % 2 : Nat) : Int)).sum = (r : Int) :=
  of_decide_eq_true (List.all_eq_true.mp (List.all_eq_true.mp bits_ok j (List.mem_range.mpr h)) r (List.mem_range.mpr hr))
theorem mulTwo (n : Nat) (h : n < 12) : mulPT (.tup [.int 1]) (.int (n : Nat)) = .val (.tup ((List.replicate n 1).map PV.int)) := by
  have : ((List.range 12).all fun n => tw (mulPT (.tup [.int 1]) (.int (n : Nat))) (List.replicate n 1)) = true := by decide +kernel
  exact tw_eq (List.all_eq_true.mp this n (List.mem_range.mpr h))
theorem Dg_len {t v : Nat} (h : t < 1001) : (Dg t v).length = (Wt t).length := by
  unfold Dg Wt
  simp only [List.length_append, List.length_map, List.length_range]
  split <;> rfl
theorem Dg_sum {t v : Nat} (h : t < 1001) (hv : v ≤ t) : ((List.range (Dg t v).length).map fun k => (Wt t).getD k 0 * (Dg t v).getD k 0).sum = (v : Int) := by
  have R := rk h
  have hP : 0 < 2 ^ lg t := Nat.pow_pos (by decide)
  have hl := R.lo
  have hs := R.sl
  have hh : 2 ^ (lg t + 1) = 2 ^ lg t * 2 := Nat.pow_succ ..
  have hi := R.hi
  have e1 : ∀ k, k < lg t → (Wt t).getD k 0 = ((2 ^ k : Nat) : Int) := fun k hk => by
    unfold Wt
    rw [List.getD_eq_getElem?_getD, List.getElem?_append_left (by rw [List.length_map, List.length_range]; exact hk), List.getElem?_map, List.getElem?_range hk]
    rfl
  let e : Nat := if 2 ^ lg t - 1 < v then 1 else 0
  let r : Nat := v - e * (t - (2 ^ lg t - 1))
  have e2 : ∀ k, k < lg t → (Dg t v).getD k 0 = ((r / 2 ^ k % 2 : Nat) : Int) := fun k hk => by
    unfold Dg
    rw [List.getD_eq_getElem?_getD, List.getElem?_append_left (by rw [List.length_map, List.length_range]; exact hk), List.getElem?_map, List.getElem?_range hk]
    rfl
  have hr : r < 2 ^ lg t := by
    show v - (if 2 ^ lg t - 1 < v then 1 else 0) * (t - (2 ^ lg t - 1)) < _
    split <;> omega
  have part : ((List.range (lg t)).map fun k => (Wt t).getD k 0 * (Dg t v).getD k 0).sum = (r : Int) := by
    rw [← bits hs hr]
    congr 1
    exact List.map_congr_left fun k hk => by rw [e1 k (List.mem_range.mp hk), e2 k (List.mem_range.mp hk)]
  by_cases c2 : 2 ^ lg t - 1 < t
  · have hlen : (Dg t v).length = lg t + 1 := by
      unfold Dg
      simp only [List.length_append, List.length_map, List.length_range, if_pos c2]
      rfl
    have e3 : (Wt t).getD (lg t) 0 = ((t - (2 ^ lg t - 1) : Nat) : Int) := by
      unfold Wt
      rw [List.getD_eq_getElem?_getD, List.getElem?_append_right (by rw [List.length_map, List.length_range]; exact Nat.le_refl _), List.length_map, List.length_range, Nat.sub_self, if_pos c2]
      rfl
    have e4 : (Dg t v).getD (lg t) 0 = ((e : Nat) : Int) := by
      unfold Dg
      rw [List.getD_eq_getElem?_getD, List.getElem?_append_right (by rw [List.length_map, List.length_range]; exact Nat.le_refl _), List.length_map, List.length_range, Nat.sub_self, if_pos c2]
      rfl
    rw [hlen, List.range_succ, List.map_append, List.sum_append, part]
    show (r : Int) + ((Wt t).getD (lg t) 0 * (Dg t v).getD (lg t) 0 + 0) = _
    rw [e3, e4]
    show ((v - (if 2 ^ lg t - 1 < v then 1 else 0) * (t - (2 ^ lg t - 1)) : Nat) : Int) + (((t - (2 ^ lg t - 1) : Nat) : Int) * (((if 2 ^ lg t - 1 < v then 1 else 0) : Nat) : Int) + 0) = _
    split <;> omega
  · have hlen : (Dg t v).length = lg t := by
      unfold Dg
      simp only [List.length_append, List.length_map, List.length_range, if_neg c2]
      rfl
    rw [hlen, part]
    show ((v - (if 2 ^ lg t - 1 < v then 1 else 0) * (t - (2 ^ lg t - 1)) : Nat) : Int) = _
    rw [if_neg (by omega)]
    omega
theorem Dg_01 {t v : Nat} : ∀ d, d ∈ Dg t v → d = 0 ∨ d = 1 := fun d hd => by
  unfold Dg at hd
  rcases List.mem_append.mp hd with hd | hd
  · obtain ⟨k, _, rfl⟩ := List.mem_map.mp hd
    rcases Nat.mod_two_eq_zero_or_one ((v - (if 2 ^ lg t - 1 < v then 1 else 0) * (t - (2 ^ lg t - 1))) / 2 ^ k) with e | e
    · exact .inl (by rw [e]; rfl)
    · exact .inr (by rw [e]; rfl)
  · split at hd
    · rcases List.mem_singleton.mp hd with rfl
      split
      · exact .inr rfl
      · exact .inl rfl
    · cases hd
theorem alike_ints (n : Nat) (l : List Int) (hl : l.length ≤ 10000000) : m__law_alike (n + 2) (.tup (l.map PV.int)) (.tup (l.map PV.int)) = .val (.bl true) :=
  alike_tup (n + 1) _ (by rw [List.length_map]; exact hl) fun p hp => by
    obtain ⟨a, _, rfl⟩ := List.mem_map.mp hp
    exact alike_int n a
theorem in01 {d : Int} (h : d = 0 ∨ d = 1) : inP false (.int d) (.lst [.int 0, .int 1]) = .val (.bl true) := by
  rcases h with rfl | rfl <;> rfl
theorem Wt_len {t : Nat} (h : t < 1001) : (Wt t).length ≤ 10 := by
  have := (rl h).ln
  have := (rk h).sl
  split at * <;> omega
theorem Wt_lt {t k : Nat} (h : t < 1001) : -(2 ^ 64) < (Wt t).getD k 0 ∧ (Wt t).getD k 0 < 2 ^ 64 := by
  have hw : ((List.range 1001).all fun t => (Wt t).all fun x => decide (-(2 ^ 64) < x ∧ x < 2 ^ 64)) = true := by decide +kernel
  by_cases c : k < (Wt t).length
  · rw [List.getD_eq_getElem?_getD, List.getElem?_eq_getElem c]
    exact of_decide_eq_true (List.all_eq_true.mp (List.all_eq_true.mp hw t (List.mem_range.mpr h)) _ (List.getElem_mem c))
  · rw [List.getD_eq_getElem?_getD, List.getElem?_eq_none (by omega)]
    exact ⟨by decide, by decide⟩
theorem law_right_ok {t : Nat} (h : t < 1001) {vs : List PV} (hv : ∀ p, p ∈ vs → ∃ v : Nat, v ≤ t ∧ p = .int (v : Nat)) : m__law_right (.int t) (.lst vs) = .val (.bl true) := by
  have R := rk h
  have L := rl h
  have hw := Wt_len h
  have e1 : ∀ a : PV, mkT [a] = .val (.tup [a]) := fun a => mkT_ok (by show 1 ≤ 10000000; decide)
  have e2 : ∀ a b : PV, mkT [a, b] = .val (.tup [a, b]) := fun a b => mkT_ok (by show 2 ≤ 10000000; decide)
  have e3 : ∀ a b : PV, mkL [a, b] = .val (.lst [a, b]) := fun a b => mkL_ok (by show 2 ≤ 10000000; decide)
  have e7 : ∀ a b c d e f g : PV, mkL [a, b, c, d, e, f, g] = .val (.lst [a, b, c, d, e, f, g]) := fun a b c d e f g => mkL_ok (by show 7 ≤ 10000000; decide)
  have g1 : ∀ a : PV, ap1 m_range_weights (g_range_weights_0_top [] [a]) = m_range_weights a := fun a => rfl
  have g2 : ∀ a b : PV, ap2 m_range_digits (g_range_digits_0_value_top [] [a, b]) = m_range_digits b a := fun a b => rfl
  have w2 : m__law_alike 5 (.tup [.tup ((Wt t).map PV.int), .tup ((Wt t).map PV.int)]) (.tup [.tup ((Wt t).map PV.int), .tup ((Wt t).map PV.int)]) = .val (.bl true) :=
    alike_tup 4 _ (by show 2 ≤ 10000000; decide) fun p hp => by
      rcases List.mem_cons.mp hp with rfl | hp
      · exact alike_ints 2 _ (by omega)
      · rcases List.mem_singleton.mp hp with rfl
        exact alike_ints 2 _ (by omega)
  have sW : sumPT (.tup ((Wt t).map PV.int)) = .val (.int (t : Nat)) := by rw [sumPT_ints, R.sm]
  have sN : neP (.int (t : Nat)) (.int (t : Nat)) = .val (.bl false) := by rw [neP_int]; simp
  have aD : ∀ v : Nat, m__law_alike 5 (.tup [.str "told", .tup ((Dg t v).map PV.int)]) (.tup [.str "told", .tup ((Dg t v).map PV.int)]) = .val (.bl true) := fun v =>
    alike_tup 4 _ (by show 2 ≤ 10000000; decide) fun p hp => by
      rcases List.mem_cons.mp hp with rfl | hp
      · exact alike_str 3 _ shT
      · rcases List.mem_singleton.mp hp with rfl
        exact alike_ints 2 _ (by rw [Dg_len h]; omega)
  have aN : m__law_alike 5 (.tup [.str "none"]) (.tup [.str "none"]) = .val (.bl true) :=
    alike_tup 4 _ (by show 1 ≤ 10000000; decide) fun p hp => by
      rcases List.mem_singleton.mp hp with rfl
      exact alike_str 3 _ shN
  have lD : ∀ v, lenP (.tup ((Dg t v).map PV.int)) = .val (.int ((Dg t v).length : Nat)) := fun v => by rw [lenP_tup, List.length_map]
  have lW : lenP (.tup ((Wt t).map PV.int)) = .val (.int ((Wt t).length : Nat)) := by rw [lenP_tup, List.length_map]
  have k1 : ∀ v : Nat, v ≤ t → (do
            let ps47 ← (rng1 (.int ((Dg t v).length : Nat)) >>= fun ps46 => sized ps46.length >>= fun _ => lcF (fun x => Res.val x) (fun (a39 : PV) => (Res.val true)) (fun (a39 : PV) => (ixP (.tup ((Wt t).map PV.int)) a39) >>= fun x44 => (ixP (.tup ((Dg t v).map PV.int)) a39) >>= fun x45 => mulP x44 x45) ps46)
            Res.val (PV.lst ps47)) = .val (.lst (((List.range (Dg t v).length).map fun k => (Wt t).getD k 0 * (Dg t v).getD k 0).map PV.int)) := fun v hv => by
    rw [lc_rng1 (fun k => PV.int ((Wt t).getD k 0 * (Dg t v).getD k 0)) (by rw [Dg_len h]; omega) fun i hi => by
      rw [ixP_ints (by rw [← Dg_len h]; exact hi), bind_val, ixP_ints hi, bind_val, mulP_l (Wt_lt h).1 (Wt_lt h).2], bind_val, List.map_map]
    rfl
  have k2 : ∀ v : Nat, v ≤ t → sumPT (.lst (((List.range (Dg t v).length).map fun k => (Wt t).getD k 0 * (Dg t v).getD k 0).map PV.int)) = .val (.int (v : Nat)) := fun v hv => by rw [sumPT_lints, Dg_sum h hv]
  have k3 : ∀ v : Nat, neP (.int (v : Nat)) (.int (v : Nat)) = .val (.bl false) := fun v => by rw [neP_int]; simp
  have k4 : ∀ v : Nat, (do
            let ps37 ← (sized ((Dg t v).map PV.int).length >>= fun _ => lcF (fun x => Res.val x) (fun (a29 : PV) => (Res.val true)) (fun (a29 : PV) => (inP false) a29 (.lst [.int 0, .int 1])) ((Dg t v).map PV.int))
            Res.val (PV.lst ps37)) = .val (.lst (((Dg t v).map fun _ => true).map PV.bl)) := fun v => by
    rw [sized_small (by rw [List.length_map, Dg_len h]; omega), bind_val, lcF_val (g := fun _ => PV.bl true) (fun _ _ => rfl) (fun p hp => by
      obtain ⟨d, hd, rfl⟩ := List.mem_map.mp hp
      exact in01 (Dg_01 d hd)), bind_val, List.map_map, List.map_map]
    rfl
  have k5 : ∀ v : Nat, allP (.lst (((Dg t v).map fun _ => true).map PV.bl)) = .val (.bl true) := fun v => by
    rw [allP_bls, show (((Dg t v).map fun _ => true).all id) = true from List.all_eq_true.mpr fun x hx => by
      obtain ⟨_, _, rfl⟩ := List.mem_map.mp hx
      rfl]
  have p10 : powP (.int 10) (.int 9) = .val (.int 1000000000) := rfl
  have m2 : mulP (.int 2) (.int (t : Nat)) = .val (.int (2 * (t : Nat))) := mulP_l (by decide) (by decide)
  have dt : Dg t t = List.replicate (Wt t).length 1 := R.dt
  have out : ∀ p, p ∈ [PV.int (-1), .int ((t : Nat) + 1), .int ((t : Nat) + 2), .int (0 - (t : Nat) - 1), .int (2 * (t : Nat) + 1), .int (-1000000000), .int 1000000000] → ∃ x : Int, p = .int x ∧ ¬ (0 ≤ x ∧ x ≤ (t : Nat)) := fun p hp => by
    simp only [List.mem_cons, List.not_mem_nil, or_false] at hp
    rcases hp with rfl | rfl | rfl | rfl | rfl | rfl | rfl <;> exact ⟨_, rfl, by omega⟩
  unfold m__law_right
  simp -implicitDefEqProofs only [bind_val, asB_bl, if_true, Bool.not_true, Bool.not_false, Bool.false_eq_true, if_false, retF_rt, seqF_nx, seqF_rt, asSq_lst, asSq_tup, partP_int, leP_int, ltP_int, gtP_int, geP_int, addP_int, subP_int, intP_int, tupleP_lst, asLi_lst, R.lw, R.rw, g1, e1, e2, w2, sW, sN]
  rw [forF_unit (ps := vs) ?h1]
  case h1 =>
    intro p hp
    obtain ⟨v, hvt, rfl⟩ := hv p hp
    simp -implicitDefEqProofs only [bind_val, asB_bl, if_true, Bool.not_true, Bool.not_false, Bool.false_eq_true, if_false, retF_rt, seqF_nx, seqF_rt, asSq_lst, asSq_tup, partP_int, leP_int, ltP_int, gtP_int, geP_int, addP_int, subP_int, intP_int, tupleP_lst, asLi_lst, law_digits_ok h hvt, lD, k1 v hvt, k2 v hvt, k3, e3, k4, k5, asked_ok h hvt, e2, aD]
  simp -implicitDefEqProofs only [bind_val, asB_bl, if_true, Bool.not_true, Bool.not_false, Bool.false_eq_true, if_false, retF_rt, seqF_nx, seqF_rt, asSq_lst, asSq_tup, partP_int, leP_int, ltP_int, gtP_int, geP_int, addP_int, subP_int, intP_int, tupleP_lst, asLi_lst, negP_int, m2, p10, e7]
  rw [forF_unit ?h2]
  case h2 =>
    intro p hp
    obtain ⟨x, rfl, hx⟩ := out p hp
    simp -implicitDefEqProofs only [bind_val, asB_bl, if_true, Bool.not_true, Bool.not_false, Bool.false_eq_true, if_false, retF_rt, seqF_nx, seqF_rt, asSq_lst, asSq_tup, partP_int, leP_int, ltP_int, gtP_int, geP_int, addP_int, subP_int, intP_int, tupleP_lst, asLi_lst, asked_no hx, e1, aN]
  simp -implicitDefEqProofs only [bind_val, asB_bl, if_true, Bool.not_true, Bool.not_false, Bool.false_eq_true, if_false, retF_rt, seqF_nx, seqF_rt, asSq_lst, asSq_tup, partP_int, leP_int, ltP_int, gtP_int, geP_int, addP_int, subP_int, intP_int, tupleP_lst, asLi_lst, g2, range_digits_ok h (Nat.le_refl t), e1, lW]
  rw [mulTwo _ (by omega), bind_val, dt, alike_ints 3 _ (by rw [List.length_replicate]; omega)]
  rfl
def Bx (l : List PV) : Prop := ∃ (a b d e : Int) (c : Nat) (ns : List Int), l = [.int a, .int b, .int (c : Nat), .int d, .int e, .lst (ns.map PV.int)]
def Good (m : Int) (R : Res (PV × MO)) : Prop := ∃ r l', R = .val (.int r, .lst l') ∧ 0 ≤ r ∧ r < m ∧ Bx l'
theorem part {S L : Type} {m : Int} {M : Res (Fl (List PV) L)} {N : List PV → Res (Fl S L)} {ret : Res (Fl S L) → Res (PV × MO)} (h1 : ∃ l1, M = .val (.nx l1) ∧ Bx l1) (h2 : ∀ l1, Bx l1 → Good m (ret (N l1))) : Good m (ret (seqF M N)) := by
  obtain ⟨l1, rfl, hb⟩ := h1
  exact h2 l1 hb
theorem modP_ex {x b : Int} (h : 0 < b) : ∃ r, modP (.int x) (.int b) = .val (.int r) ∧ 0 ≤ r ∧ r < b := ⟨x % b, modP_pos h, Int.emod_nonneg _ (by omega), Int.emod_lt_of_pos _ h⟩
theorem mix_ok (c s : Int) : ∃ r : Int, m__law_mix (.int c) (.int s) = .val (.int r) := by
  have m1 : ∀ a, mulP (.int a) (.int 48271) = .val (.int (a * 48271)) := fun a => mulP_r (by decide) (by decide)
  have m2 : ∀ a, mulP (.int a) (.int 69621) = .val (.int (a * 69621)) := fun a => mulP_r (by decide) (by decide)
  have m3 : ∀ a, mulP (.int a) (.int 16807) = .val (.int (a * 16807)) := fun a => mulP_r (by decide) (by decide)
  have m4 : ∀ a, mulP (.int a) (.int 7919) = .val (.int (a * 7919)) := fun a => mulP_r (by decide) (by decide)
  obtain ⟨o, e, h1, h2⟩ := modP_ex (x := c * 48271 + s * 69621 + 12345) (b := 2147483647) (by decide)
  obtain ⟨r, e2, _⟩ := modP_ex (x := o * o + o * 16807 + s * 7919) (b := 2147483629) (by decide)
  have m5 : mulP (.int o) (.int o) = .val (.int (o * o)) := mulP_l (by omega) (by omega)
  refine ⟨r, ?_⟩
  unfold m__law_mix
  simp -implicitDefEqProofs only [bind_val, asB_bl, if_true, Bool.not_true, Bool.not_false, Bool.false_eq_true, if_false, retF_rt, seqF_nx, seqF_rt, asSq_lst, asSq_tup, partP_int, leP_int, ltP_int, gtP_int, geP_int, addP_int, subP_int, intP_int, tupleP_lst, asLi_lst, m1, m2, m3, m4, e, m5, e2]
theorem draw_ok {l : List PV} (hb : Bx l) {m : Int} (hm : 0 < m) (hm2 : m < 1073741824) : Good m (m__law_draw (.lst l) (.int m)) := by
  have x0 : ∀ p0 p1 p2 p3 p4 p5 : PV, ixP (.lst [p0, p1, p2, p3, p4, p5]) (.int 0) = .val p0 := fun _ _ _ _ _ _ => rfl
  have x1 : ∀ p0 p1 p2 p3 p4 p5 : PV, ixP (.lst [p0, p1, p2, p3, p4, p5]) (.int 1) = .val p1 := fun _ _ _ _ _ _ => rfl
  have x2 : ∀ p0 p1 p2 p3 p4 p5 : PV, ixP (.lst [p0, p1, p2, p3, p4, p5]) (.int 2) = .val p2 := fun _ _ _ _ _ _ => rfl
  have x3 : ∀ p0 p1 p2 p3 p4 p5 : PV, ixP (.lst [p0, p1, p2, p3, p4, p5]) (.int 3) = .val p3 := fun _ _ _ _ _ _ => rfl
  have x4 : ∀ p0 p1 p2 p3 p4 p5 : PV, ixP (.lst [p0, p1, p2, p3, p4, p5]) (.int 4) = .val p4 := fun _ _ _ _ _ _ => rfl
  have x5 : ∀ p0 p1 p2 p3 p4 p5 : PV, ixP (.lst [p0, p1, p2, p3, p4, p5]) (.int 5) = .val p5 := fun _ _ _ _ _ _ => rfl
  have s0 : ∀ p0 p1 p2 p3 p4 p5 x : PV, setL [p0, p1, p2, p3, p4, p5] (.int 0) x = .val [x, p1, p2, p3, p4, p5] := fun _ _ _ _ _ _ _ => rfl
  have s1 : ∀ p0 p1 p2 p3 p4 p5 x : PV, setL [p0, p1, p2, p3, p4, p5] (.int 1) x = .val [p0, x, p2, p3, p4, p5] := fun _ _ _ _ _ _ _ => rfl
  have s2 : ∀ p0 p1 p2 p3 p4 p5 x : PV, setL [p0, p1, p2, p3, p4, p5] (.int 2) x = .val [p0, p1, x, p3, p4, p5] := fun _ _ _ _ _ _ _ => rfl
  have s3 : ∀ p0 p1 p2 p3 p4 p5 x : PV, setL [p0, p1, p2, p3, p4, p5] (.int 3) x = .val [p0, p1, p2, x, p4, p5] := fun _ _ _ _ _ _ _ => rfl
  have s4 : ∀ p0 p1 p2 p3 p4 p5 x : PV, setL [p0, p1, p2, p3, p4, p5] (.int 4) x = .val [p0, p1, p2, p3, x, p5] := fun _ _ _ _ _ _ _ => rfl
  have p18 : powP (.int 10) (.int 18) = .val (.int 1000000000000000000) := rfl
  have m31 : ∀ a, mulP (.int a) (.int 31) = .val (.int (a * 31)) := fun a => mulP_r (by decide) (by decide)
  unfold m__law_draw
  show Good m (retR (seqF _ _))
  refine part (ret := retR) ?_ ?_
  · obtain ⟨a, b, d, e, c, ns, rfl⟩ := hb
    by_cases h1 : b = 0
    · by_cases h2 : (c : Int) < (ns.length : Int)
      · have ic : ixP (.lst (ns.map PV.int)) (.int (c : Nat)) = .val (.int (ns.getD c 0)) := ixP_lst (by
          rw [List.getElem?_map, List.getElem?_eq_getElem (by omega), List.getD_eq_getElem?_getD, List.getElem?_eq_getElem (by omega)]; rfl)
        have ll : lenP (.lst (ns.map PV.int)) = .val (.int (ns.length : Nat)) := by rw [lenP_lst, List.length_map]
        obtain ⟨o, eo, _⟩ := modP_ex (x := e * 31 + ns.getD c 0) (b := 2147483647) (by decide)
        have c2 : ((c : Nat) : Int) + 2 = ((c + 2 : Nat) : Int) := rfl
        by_cases h3 : 1000000000000000000 ≤ ns.getD c 0
        · refine ⟨[.int (ns.getD c 0 - 1000000000000000000), .int 60, .int ((c + 2 : Nat) : Int), .int d, .int o, .lst (ns.map PV.int)], ?_, ⟨_, _, _, _, _, _, rfl⟩⟩
          simp -implicitDefEqProofs only [bind_val, asB_bl, if_true, Bool.not_true, Bool.not_false, Bool.false_eq_true, if_false, retF_rt, seqF_nx, seqF_rt, asSq_lst, asSq_tup, partP_int, leP_int, ltP_int, gtP_int, geP_int, addP_int, subP_int, intP_int, tupleP_lst, asLi_lst, x1, eqP_int, decide_eq_true h1, x2, x5, ll, decide_eq_true h2, ic, s2, x4, m31, eo, s4, p18, decide_eq_true h3, s0, s1, c2]
        · refine ⟨[.int a, .int b, .int ((c + 2 : Nat) : Int), .int d, .int o, .lst (ns.map PV.int)], ?_, ⟨_, _, _, _, _, _, rfl⟩⟩
          simp -implicitDefEqProofs only [bind_val, asB_bl, if_true, Bool.not_true, Bool.not_false, Bool.false_eq_true, if_false, retF_rt, seqF_nx, seqF_rt, asSq_lst, asSq_tup, partP_int, leP_int, ltP_int, gtP_int, geP_int, addP_int, subP_int, intP_int, tupleP_lst, asLi_lst, x1, eqP_int, decide_eq_true h1, x2, x5, ll, decide_eq_true h2, ic, s2, x4, m31, eo, s4, p18, decide_eq_false h3, s0, s1, c2]
      · have ll : lenP (.lst (ns.map PV.int)) = .val (.int (ns.length : Nat)) := by rw [lenP_lst, List.length_map]
        refine ⟨_, ?_, ⟨a, b, d, e, c, ns, rfl⟩⟩
        simp -implicitDefEqProofs only [bind_val, asB_bl, if_true, Bool.not_true, Bool.not_false, Bool.false_eq_true, if_false, retF_rt, seqF_nx, seqF_rt, asSq_lst, asSq_tup, partP_int, leP_int, ltP_int, gtP_int, geP_int, addP_int, subP_int, intP_int, tupleP_lst, asLi_lst, x1, eqP_int, decide_eq_true h1, x2, x5, ll, decide_eq_false h2]
    · refine ⟨_, ?_, ⟨a, b, d, e, c, ns, rfl⟩⟩
      simp -implicitDefEqProofs only [bind_val, asB_bl, if_true, Bool.not_true, Bool.not_false, Bool.false_eq_true, if_false, retF_rt, seqF_nx, seqF_rt, asSq_lst, asSq_tup, partP_int, leP_int, ltP_int, gtP_int, geP_int, addP_int, subP_int, intP_int, tupleP_lst, asLi_lst, x1, eqP_int, decide_eq_false h1]
  · intro l1 hb1
    obtain ⟨a, b, d, e, c, ns, rfl⟩ := hb1
    have low : ∀ (a' b' : Int), (¬ 0 < b' ∨ ¬ 0 < a') → True := fun _ _ _ => trivial
    by_cases h1 : 0 < b
    · by_cases h2 : 0 < a
      · obtain ⟨o, eo, ho⟩ := modP_ex (x := a) hm
        refine ⟨o, [.int (a / m), .int (b - 1), .int (c : Nat), .int d, .int e, .lst (ns.map PV.int)], ?_, ho.1, ho.2, ⟨_, _, _, _, _, _, rfl⟩⟩
        simp -implicitDefEqProofs only [bind_val, asB_bl, if_true, Bool.not_true, Bool.not_false, Bool.false_eq_true, if_false, retF_rt, seqF_nx, seqF_rt, asSq_lst, asSq_tup, partP_int, leP_int, ltP_int, gtP_int, geP_int, addP_int, subP_int, intP_int, tupleP_lst, asLi_lst, x1, x0, decide_eq_true h1, decide_eq_true h2, eo, fdivP_pos hm hm2, s0, s1, retR_rt]
      · obtain ⟨q, eq⟩ := mix_ok e (d + 1)
        obtain ⟨o, eo, ho⟩ := modP_ex (x := q) hm
        refine ⟨o, [.int a, .int 0, .int (c : Nat), .int (d + 1), .int e, .lst (ns.map PV.int)], ?_, ho.1, ho.2, ⟨_, _, _, _, _, _, rfl⟩⟩
        simp -implicitDefEqProofs only [bind_val, asB_bl, if_true, Bool.not_true, Bool.not_false, Bool.false_eq_true, if_false, retF_rt, seqF_nx, seqF_rt, asSq_lst, asSq_tup, partP_int, leP_int, ltP_int, gtP_int, geP_int, addP_int, subP_int, intP_int, tupleP_lst, asLi_lst, x1, x0, decide_eq_true h1, decide_eq_false h2, eq, eo, s3, x3, x4, s0, s1, retR_rt]
    · obtain ⟨q, eq⟩ := mix_ok e (d + 1)
      obtain ⟨o, eo, ho⟩ := modP_ex (x := q) hm
      refine ⟨o, [.int a, .int 0, .int (c : Nat), .int (d + 1), .int e, .lst (ns.map PV.int)], ?_, ho.1, ho.2, ⟨_, _, _, _, _, _, rfl⟩⟩
      simp -implicitDefEqProofs only [bind_val, asB_bl, if_true, Bool.not_true, Bool.not_false, Bool.false_eq_true, if_false, retF_rt, seqF_nx, seqF_rt, asSq_lst, asSq_tup, partP_int, leP_int, ltP_int, gtP_int, geP_int, addP_int, subP_int, intP_int, tupleP_lst, asLi_lst, x1, x0, decide_eq_false h1, eq, eo, s3, x3, x4, s0, s1, retR_rt]
theorem box_ok (ns : List Int) (h : ns.length ≤ 63) (k : Int) : m__law_box (.fls (ns.map PV.int)) (.int k) = .val (.lst [.int 0, .int 0, .int k, .int 0, .int k, .lst (ns.map PV.int)]) := by
  have e1 : sized (ns.map PV.int).length = .val () := sized_small (by rw [List.length_map]; omega)
  have e2 : lcF (fun x => Res.val x) (fun (a1 : PV) => (Res.val true)) (fun (a1 : PV) => intP a1) (ns.map PV.int) = .val (ns.map PV.int) := by
    rw [lcF_val (g := fun p => p) (fun _ _ => rfl) (fun p hp => by
      obtain ⟨d, _, rfl⟩ := List.mem_map.mp hp
      rfl), List.map_id']
  have e3 : ∀ a b c d e f : PV, mkN [a, b, c, d, e, f] = .val [a, b, c, d, e, f] := fun a b c d e f => mkN_ok (by show 6 ≤ 10000000; decide)
  unfold m__law_box
  simp -implicitDefEqProofs only [bind_val, asB_bl, if_true, Bool.not_true, Bool.not_false, Bool.false_eq_true, if_false, retF_rt, seqF_nx, seqF_rt, asSq_lst, asSq_tup, partP_int, leP_int, ltP_int, gtP_int, geP_int, addP_int, subP_int, intP_int, tupleP_lst, asLi_lst, asSq_fls, e1, e2, e3, retN_ro]
theorem bx0 (ns : List Int) (k : Nat) : Bx [.int 0, .int 0, .int (k : Nat), .int 0, .int (k : Nat), .lst (ns.map PV.int)] := ⟨_, _, _, _, _, _, rfl⟩
theorem draw_nat {l : List PV} (hb : Bx l) {m : Nat} (hm : 0 < m) (hm2 : m < 1073741824) : ∃ (r : Nat) (l' : List PV), m__law_draw (.lst l) (.int (m : Nat)) = .val (.int (r : Nat), .lst l') ∧ r < m ∧ Bx l' := by
  obtain ⟨r, l', e, h0, h1, hb'⟩ := draw_ok hb (m := (m : Nat)) (by omega) (by omega)
  obtain ⟨n, rfl⟩ := Int.eq_ofNat_of_zero_le h0
  exact ⟨n, l', e, by omega, hb'⟩
theorem addP_lsts {a b : List PV} (h : a.length + b.length ≤ 10000000) : addP (.lst a) (.lst b) = .val (.lst (a ++ b)) := by
  unfold addP orS ints2 catS catL
  simp only
  rw [if_pos (by exact Nat.le_trans h (by unfold sizeLine; decide))]
theorem draws (g : Nat) (hg : g < 10000) : ∀ (ps : List PV) (s : List PV), Bx s → ∃ ys s', lcE (fun x => Res.val x) (fun (a72 : PV) (s74 : List PV) => Res.val (true, s74))
      (fun (a72 : PV) (s75 : List PV) => m__law_draw (MO.lst s75) (PV.int ((g : Nat) + 1)) >>= fun r15 => (moL r15.snd >>= fun l => Res.val l) >>= fun s16 => Res.val (r15.fst, s16)) ps s = .val (ys, s') ∧ (∀ y, y ∈ ys → ∃ v : Nat, v ≤ g ∧ y = .int (v : Nat)) ∧ Bx s' ∧ ys.length = ps.length
  | [], s, h => ⟨[], s, rfl, fun y hy => (by cases hy), h, rfl⟩
  | p :: ps, s, h => by
    obtain ⟨r, l', e, hr, hb⟩ := draw_nat h (m := g + 1) (by omega) (by omega)
    obtain ⟨ys, s', e2, hy, hb2, hl⟩ := draws g hg ps l' hb
    have e' : m__law_draw (MO.lst s) (PV.int ((g : Nat) + 1)) = .val (.int (r : Nat), .lst l') := e
    refine ⟨.int (r : Nat) :: ys, s', ?_, fun y hy' => ?_, hb2, congrArg (· + 1) hl⟩
    · unfold lcE
      simp -implicitDefEqProofs only [bind_val, asB_bl, if_true, Bool.not_true, Bool.not_false, Bool.false_eq_true, if_false, retF_rt, seqF_nx, seqF_rt, asSq_lst, asSq_tup, partP_int, leP_int, ltP_int, gtP_int, geP_int, addP_int, subP_int, intP_int, tupleP_lst, asLi_lst, noX_val, e', moL_lst, e2]
    · rcases List.mem_cons.mp hy' with rfl | hy'
      · exact ⟨r, by omega, rfl⟩
      · exact hy y hy'
theorem law_true (ns : List Int) (h : ns.length ≤ 63) : m_law ns = .val (.bl true) := by
  have b0 := box_ok ns h 0
  have b1 := box_ok ns h 1
  obtain ⟨r1, l1, d1, h1, -⟩ := draw_nat (bx0 ns 0) (m := 127) (by decide) (by decide)
  obtain ⟨r2, l2, d2, h2, hb2⟩ := draw_nat (bx0 ns 1) (m := 874) (by decide) (by decide)
  have w1 : (do
      let ps24 ← (rng1 (.int ((r1 + 1 : Nat) : Int)) >>= fun ps23 => sized ps23.length >>= fun _ => lcF (fun x => Res.val x) (fun (a22 : PV) => (Res.val true)) (fun (a22 : PV) => (Res.val a22)) ps23)
      Res.val (PV.lst ps24)) = .val (.lst ((List.range (r1 + 1)).map fun k => PV.int (k : Nat))) := by
    rw [lc_rng1 (fun k => PV.int (k : Nat)) (by omega) fun i _ => rfl]
    rfl
  have q1 := law_right_ok (t := r1) (by omega) (vs := (List.range (r1 + 1)).map fun k => PV.int (k : Nat)) fun p hp => by
    obtain ⟨k, hk, rfl⟩ := List.mem_map.mp hp
    exact ⟨k, by have := List.mem_range.mp hk; omega, rfl⟩
  have a1 : ((r1 : Nat) : Int) + 1 = ((r1 + 1 : Nat) : Int) := rfl
  have a2 : (127 : Int) + ((r2 : Nat) : Int) = ((127 + r2 : Nat) : Int) := rfl
  have d1' : m__law_draw (.lst [.int 0, .int 0, .int 0, .int 0, .int 0, .lst (ns.map PV.int)]) (.int 127) = .val (.int (r1 : Nat), .lst l1) := d1
  have d2' : m__law_draw (.lst [.int 0, .int 0, .int 1, .int 0, .int 1, .lst (ns.map PV.int)]) (.int 874) = .val (.int (r2 : Nat), .lst l2) := d2
  obtain ⟨ys, l3, e3, hy, hb3, hl⟩ := draws (127 + r2) (by omega) (rngP 0 20) l2 hb2
  have h20 : (rngP 0 20).length = 20 := rfl
  obtain ⟨r4, l4, d4, h4, -⟩ := draw_nat hb3 (m := 9) (by decide) (by decide)
  have d4' : m__law_draw (.lst l3) (.int 9) = .val (.int (r4 : Nat), .lst l4) := d4
  have g20 : rng1 (.int 20) = .val (rngP 0 20) := rng1_ok (by decide) (by decide)
  have z20 : sized (rngP 0 20).length = .val () := sized_small (by rw [h20]; decide)
  have m4 : ∀ a b c d : PV, mkL [a, b, c, d] = .val (.lst [a, b, c, d]) := fun a b c d => mkL_ok (by show 4 ≤ 10000000; decide)
  have m3 : ∀ a b c : PV, mkL [a, b, c] = .val (.lst [a, b, c]) := fun a b c => mkL_ok (by show 3 ≤ 10000000; decide)
  have m6 : ∀ a b c d e f : PV, mkL [a, b, c, d, e, f] = .val (.lst [a, b, c, d, e, f]) := fun a b c d e f => mkL_ok (by show 6 ≤ 10000000; decide)
  have m1 : ∀ a : PV, mkL [a] = .val (.lst [a]) := fun a => mkL_ok (by show 1 ≤ 10000000; decide)
  have a3 : ((127 + r2 : Nat) : Int) - 1 = ((126 + r2 : Nat) : Int) := by omega
  have c1 := addP_lsts (a := [.int 0, .int 1, .int ((127 + r2 : Nat) : Int), .int ((126 + r2 : Nat) : Int)]) (b := ys) (by rw [hl, h20]; show 4 + 20 ≤ 10000000; decide)
  have q2 := law_right_ok (t := 127 + r2) (by omega) (vs := [.int 0, .int 1, .int ((127 + r2 : Nat) : Int), .int ((126 + r2 : Nat) : Int)] ++ ys) fun p hp => by
    rcases List.mem_append.mp hp with hp | hp
    · simp only [List.mem_cons, List.not_mem_nil, or_false] at hp
      rcases hp with rfl | rfl | rfl | rfl
      · exact ⟨0, by omega, rfl⟩
      · exact ⟨1, by omega, rfl⟩
      · exact ⟨_, by omega, rfl⟩
      · exact ⟨_, by omega, rfl⟩
    · exact hy p hp
  have a4 : (1 : Int) + ((r4 : Nat) : Int) = ((1 + r4 : Nat) : Int) := rfl
  have g4 : rng1 (.int ((1 + r4 : Nat) : Int)) = .val (rngP 0 ((1 + r4 : Nat) : Int)) := rng1_ok (by omega) (by omega)
  have m2 : ∀ b : Int, mulP (.int 2) (.int b) = .val (.int (2 * b)) := fun b => mulP_l (by decide) (by decide)
  have lp := forF_rng (L := Empty) (lo := 0) (hi := ((1 + r4 : Nat) : Int)) (body := fun (x128 : PV) (s122 : PV × List PV) => mulP (PV.int 2) s122.fst >>= fun x126 => Res.val (Fl.nx (x126, s122.snd))) (fun i => (PV.int ((2 ^ i : Nat) : Int), l4)) fun i _ => by
    have e : (2 : Int) * ((2 ^ i : Nat) : Int) = ((2 ^ (i + 1) : Nat) : Int) := by rw [Nat.pow_succ]; omega
    simp -implicitDefEqProofs only [bind_val, asB_bl, if_true, Bool.not_true, Bool.not_false, Bool.false_eq_true, if_false, retF_rt, seqF_nx, seqF_rt, asSq_lst, asSq_tup, partP_int, leP_int, ltP_int, gtP_int, geP_int, addP_int, subP_int, intP_int, tupleP_lst, asLi_lst, m2, e]
  rw [show ((((1 + r4 : Nat) : Int)) - 0).toNat = 1 + r4 by omega] at lp
  have lp' : forF (L := Empty) (fun (x128 : PV) (s122 : PV × List PV) => mulP (PV.int 2) s122.fst >>= fun x126 => Res.val (Fl.nx (x126, s122.snd))) (rngP 0 ((1 + r4 : Nat) : Int)) (PV.int 1, l4) = .val (.nx (PV.int ((2 ^ (1 + r4) : Nat) : Int), l4)) := lp
  unfold m_law
  simp -implicitDefEqProofs only [bind_val, asB_bl, if_true, Bool.not_true, Bool.not_false, Bool.false_eq_true, if_false, retF_rt, seqF_nx, seqF_rt, asSq_lst, asSq_tup, partP_int, leP_int, ltP_int, gtP_int, geP_int, addP_int, subP_int, intP_int, tupleP_lst, asLi_lst, ap2_two, apN2_t, b0, noX_val, moL_lst, apR1_o, d1', a1, w1, q1, b1, d2', a2]
  simp -implicitDefEqProofs only [bind_val, asB_bl, if_true, Bool.not_true, Bool.not_false, Bool.false_eq_true, if_false, retF_rt, seqF_nx, seqF_rt, asSq_lst, asSq_tup, partP_int, leP_int, ltP_int, gtP_int, geP_int, addP_int, subP_int, intP_int, tupleP_lst, asLi_lst, noX_val, m4, a3, g20, z20, e3, c1, q2, d4', moL_lst, a4, g4, lp']
  have h1' : 1 ≤ 2 ^ r4 := Nat.pow_pos (by decide)
  have h2' : 2 ^ r4 ≤ 256 := Nat.le_trans (Nat.pow_le_pow_right (by decide) (show r4 ≤ 8 by omega)) (by decide)
  have hE : 2 ^ (1 + r4) = 2 * 2 ^ r4 := by rw [Nat.pow_add]
  rw [hE]
  generalize 2 ^ r4 = w at *
  have f2 : ∀ n : Nat, fdivP (.int (n : Nat)) (.int 2) = .val (.int ((n / 2 : Nat) : Int)) := fun n => fdivP_nat (b := 2) (by decide) (by decide)
  have ew : 2 * w / 2 = w := by omega
  have s2 : ((2 * w : Nat) : Int) - 2 = ((2 * w - 2 : Nat) : Int) := by omega
  have s1 : ((2 * w : Nat) : Int) - 1 = ((2 * w - 1 : Nat) : Int) := by omega
  have s3 : ((w : Nat) : Int) - 1 = ((w - 1 : Nat) : Int) := by omega
  have a5 : ∀ n : Nat, ((n : Nat) : Int) + 1 = ((n + 1 : Nat) : Int) := fun _ => rfl
  have mw : ∀ b : Int, mulP (.int (w : Nat)) (.int b) = .val (.int ((w : Nat) * b)) := fun b => mulP_l (by omega) (by omega)
  have q3 : ∀ t : Nat, t = 2 * w - 2 ∨ t = 2 * w - 1 ∨ t = 2 * w → m__law_right (.int (t : Nat)) (.lst [.int 0, .int (t : Nat), .int ((t / 2 : Nat) : Int), .int (((t + 1) / 2 : Nat) : Int), .int ((w - 1 : Nat) : Int), .int ((w : Nat) * (if decide ((2 : Int) < ((2 * w : Nat) : Int)) = true then 1 else 0))]) = .val (.bl true) := fun t ht => by
    refine law_right_ok (by omega) fun p hp => ?_
    simp only [List.mem_cons, List.not_mem_nil, or_false] at hp
    rcases hp with rfl | rfl | rfl | rfl | rfl | rfl
    · exact ⟨0, by omega, rfl⟩
    · exact ⟨t, by omega, rfl⟩
    · exact ⟨_, by omega, rfl⟩
    · exact ⟨_, by omega, rfl⟩
    · exact ⟨_, by omega, rfl⟩
    · by_cases c : (2 : Int) < ((2 * w : Nat) : Int)
      · exact ⟨w, by omega, by rw [decide_eq_true c, if_pos rfl, Int.mul_one]⟩
      · exact ⟨0, by omega, by rw [decide_eq_false c, if_neg (by decide), Int.mul_zero]; rfl⟩
  have q4 := law_right_ok (t := 0) (by omega) (vs := [.int 0]) fun p hp => by
    rcases List.mem_singleton.mp hp with rfl
    exact ⟨0, by omega, rfl⟩
  have q4' : m__law_right (.int 0) (.lst [.int 0]) = .val (.bl true) := q4
  simp -implicitDefEqProofs only [bind_val, asB_bl, if_true, Bool.not_true, Bool.not_false, Bool.false_eq_true, if_false, retF_rt, seqF_nx, seqF_rt, asSq_lst, asSq_tup, partP_int, leP_int, ltP_int, gtP_int, geP_int, addP_int, subP_int, intP_int, tupleP_lst, asLi_lst, m3, s1, s2]
  rw [forF_unit ?hb]
  case hb =>
    intro p hp
    have : ∃ t : Nat, p = .int (t : Nat) ∧ (t = 2 * w - 2 ∨ t = 2 * w - 1 ∨ t = 2 * w) := by
      simp only [List.mem_cons, List.not_mem_nil, or_false] at hp
      rcases hp with rfl | rfl | rfl
      · exact ⟨_, rfl, .inl rfl⟩
      · exact ⟨_, rfl, .inr (.inl rfl)⟩
      · exact ⟨_, rfl, .inr (.inr rfl)⟩
    obtain ⟨t, rfl, ht⟩ := this
    simp -implicitDefEqProofs only [bind_val, asB_bl, if_true, Bool.not_true, Bool.not_false, Bool.false_eq_true, if_false, retF_rt, seqF_nx, seqF_rt, asSq_lst, asSq_tup, partP_int, leP_int, ltP_int, gtP_int, geP_int, addP_int, subP_int, intP_int, tupleP_lst, asLi_lst, f2, a5, ew, s3, intP_bl, mw, m6, q3 t ht]
  simp -implicitDefEqProofs only [bind_val, asB_bl, if_true, Bool.not_true, Bool.not_false, Bool.false_eq_true, if_false, retF_rt, seqF_nx, seqF_rt, asSq_lst, asSq_tup, partP_int, leP_int, ltP_int, gtP_int, geP_int, addP_int, subP_int, intP_int, tupleP_lst, asLi_lst, m1, q4']
theorem all_mk {l : PySem.W.OpenLaw} {w : World} {K : PySem.W.Frag} {h : Heap} {mg : Str → Option Value} {fa : Addr} (X : K.In h) (G : h.Ns mainGlobals mg) (hfa : mg "law" = some (.ref fa))
    {f__count_doubling : Addr} {od__count_doubling an__count_doubling : Option Addr} {sl__count_doubling : Array (Option Value)} {oc__count_doubling kV__count_doubling dc__count_doubling pm__count_doubling cd__count_doubling ct__count_doubling : Value}
    {f_range_weights : Addr} {od_range_weights an_range_weights : Option Addr} {sl_range_weights : Array (Option Value)} {oc_range_weights kV_range_weights dc_range_weights pm_range_weights cd_range_weights ct_range_weights : Value}
    {f_range_digits : Addr} {od_range_digits an_range_digits : Option Addr} {sl_range_digits : Array (Option Value)} {oc_range_digits kV_range_digits dc_range_digits pm_range_digits cd_range_digits ct_range_digits : Value}
    {f__law_mix : Addr} {od__law_mix an__law_mix : Option Addr} {sl__law_mix : Array (Option Value)} {oc__law_mix kV__law_mix dc__law_mix pm__law_mix cd__law_mix ct__law_mix : Value}
    {f__law_box : Addr} {od__law_box an__law_box : Option Addr} {sl__law_box : Array (Option Value)} {oc__law_box kV__law_box dc__law_box pm__law_box cd__law_box ct__law_box : Value}
    {f__law_draw : Addr} {od__law_draw an__law_draw : Option Addr} {sl__law_draw : Array (Option Value)} {oc__law_draw kV__law_draw dc__law_draw pm__law_draw cd__law_draw ct__law_draw : Value}
    {f__law_alike : Addr} {od__law_alike an__law_alike : Option Addr} {sl__law_alike : Array (Option Value)} {oc__law_alike kV__law_alike dc__law_alike pm__law_alike cd__law_alike ct__law_alike : Value}
    {f__law_pure : Addr} {od__law_pure an__law_pure : Option Addr} {sl__law_pure : Array (Option Value)} {oc__law_pure kV__law_pure dc__law_pure pm__law_pure cd__law_pure ct__law_pure : Value}
    {f__law_weights : Addr} {od__law_weights an__law_weights : Option Addr} {sl__law_weights : Array (Option Value)} {oc__law_weights kV__law_weights dc__law_weights pm__law_weights cd__law_weights ct__law_weights : Value}
    {f__law_digits : Addr} {od__law_digits an__law_digits : Option Addr} {sl__law_digits : Array (Option Value)} {oc__law_digits kV__law_digits dc__law_digits pm__law_digits cd__law_digits ct__law_digits : Value}
    {f__law_asked : Addr} {od__law_asked an__law_asked : Option Addr} {sl__law_asked : Array (Option Value)} {oc__law_asked kV__law_asked dc__law_asked pm__law_asked cd__law_asked ct__law_asked : Value}
    {f__law_right : Addr} {od__law_right an__law_right : Option Addr} {sl__law_right : Array (Option Value)} {oc__law_right kV__law_right dc__law_right pm__law_right cd__law_right ct__law_right : Value}
    {f_law : Addr} {od_law an_law : Option Addr} {sl_law : Array (Option Value)} {oc_law kV_law dc_law pm_law cd_law ct_law : Value}
    {c_NoWitness : Addr}
    
    
    
    
    
    
    
    
    (a__count_doubling : PySem.W.nsIn K mainGlobals "_count_doubling" = some (some (.ref f__count_doubling))) (l__count_doubling : K.lookup f__count_doubling = some ⟨oc__count_doubling, od__count_doubling, .func (PySem.W.fnOf "_count_doubling" "_count_doubling" (defArgs s__count_doubling) (defBody s__count_doubling) (defScope s__count_doubling) .none kV__count_doubling dc__count_doubling pm__count_doubling an__count_doubling cd__count_doubling ct__count_doubling), sl__count_doubling⟩) (c__count_doubling : PySem.W.codeIn K cd__count_doubling "_count_doubling" = true) (k__count_doubling : PySem.W.keepIn K (.ref f__count_doubling) = true)
    (a_range_weights : PySem.W.nsIn K mainGlobals "range_weights" = some (some (.ref f_range_weights))) (l_range_weights : K.lookup f_range_weights = some ⟨oc_range_weights, od_range_weights, .func (PySem.W.fnOf "range_weights" "range_weights" (defArgs s_range_weights) (defBody s_range_weights) (defScope s_range_weights) .none kV_range_weights dc_range_weights pm_range_weights an_range_weights cd_range_weights ct_range_weights), sl_range_weights⟩) (c_range_weights : PySem.W.codeIn K cd_range_weights "range_weights" = true) (k_range_weights : PySem.W.keepIn K (.ref f_range_weights) = true)
    (a_range_digits : PySem.W.nsIn K mainGlobals "range_digits" = some (some (.ref f_range_digits))) (l_range_digits : K.lookup f_range_digits = some ⟨oc_range_digits, od_range_digits, .func (PySem.W.fnOf "range_digits" "range_digits" (defArgs s_range_digits) (defBody s_range_digits) (defScope s_range_digits) .none kV_range_digits dc_range_digits pm_range_digits an_range_digits cd_range_digits ct_range_digits), sl_range_digits⟩) (c_range_digits : PySem.W.codeIn K cd_range_digits "range_digits" = true) (k_range_digits : PySem.W.keepIn K (.ref f_range_digits) = true)
    (a__law_mix : PySem.W.nsIn K mainGlobals "_law_mix" = some (some (.ref f__law_mix))) (l__law_mix : K.lookup f__law_mix = some ⟨oc__law_mix, od__law_mix, .func (PySem.W.fnOf "_law_mix" "_law_mix" (defArgs s_Lmix) (defBody s_Lmix) (defScope s_Lmix) .none kV__law_mix dc__law_mix pm__law_mix an__law_mix cd__law_mix ct__law_mix), sl__law_mix⟩) (c__law_mix : PySem.W.codeIn K cd__law_mix "_law_mix" = true) (k__law_mix : PySem.W.keepIn K (.ref f__law_mix) = true)
    (a__law_box : PySem.W.nsIn K mainGlobals "_law_box" = some (some (.ref f__law_box))) (l__law_box : K.lookup f__law_box = some ⟨oc__law_box, od__law_box, .func (PySem.W.fnOf "_law_box" "_law_box" (defArgs s_Lbox) (defBody s_Lbox) (defScope s_Lbox) .none kV__law_box dc__law_box pm__law_box an__law_box cd__law_box ct__law_box), sl__law_box⟩) (c__law_box : PySem.W.codeIn K cd__law_box "_law_box" = true) (k__law_box : PySem.W.keepIn K (.ref f__law_box) = true)
    (a__law_draw : PySem.W.nsIn K mainGlobals "_law_draw" = some (some (.ref f__law_draw))) (l__law_draw : K.lookup f__law_draw = some ⟨oc__law_draw, od__law_draw, .func (PySem.W.fnOf "_law_draw" "_law_draw" (defArgs s_Ldraw) (defBody s_Ldraw) (defScope s_Ldraw) .none kV__law_draw dc__law_draw pm__law_draw an__law_draw cd__law_draw ct__law_draw), sl__law_draw⟩) (c__law_draw : PySem.W.codeIn K cd__law_draw "_law_draw" = true) (k__law_draw : PySem.W.keepIn K (.ref f__law_draw) = true)
    (a__law_alike : PySem.W.nsIn K mainGlobals "_law_alike" = some (some (.ref f__law_alike))) (l__law_alike : K.lookup f__law_alike = some ⟨oc__law_alike, od__law_alike, .func (PySem.W.fnOf "_law_alike" "_law_alike" (defArgs s_Lalike) (defBody s_Lalike) (defScope s_Lalike) .none kV__law_alike dc__law_alike pm__law_alike an__law_alike cd__law_alike ct__law_alike), sl__law_alike⟩) (c__law_alike : PySem.W.codeIn K cd__law_alike "_law_alike" = true) (k__law_alike : PySem.W.keepIn K (.ref f__law_alike) = true)
    (a__law_pure : PySem.W.nsIn K mainGlobals "_law_pure" = some (some (.ref f__law_pure))) (l__law_pure : K.lookup f__law_pure = some ⟨oc__law_pure, od__law_pure, .func (PySem.W.fnOf "_law_pure" "_law_pure" (defArgs s_Lpure) (defBody s_Lpure) (defScope s_Lpure) .none kV__law_pure dc__law_pure pm__law_pure an__law_pure cd__law_pure ct__law_pure), sl__law_pure⟩) (c__law_pure : PySem.W.codeIn K cd__law_pure "_law_pure" = true) (k__law_pure : PySem.W.keepIn K (.ref f__law_pure) = true)
    (a__law_weights : PySem.W.nsIn K mainGlobals "_law_weights" = some (some (.ref f__law_weights))) (l__law_weights : K.lookup f__law_weights = some ⟨oc__law_weights, od__law_weights, .func (PySem.W.fnOf "_law_weights" "_law_weights" (defArgs s_Lweights) (defBody s_Lweights) (defScope s_Lweights) .none kV__law_weights dc__law_weights pm__law_weights an__law_weights cd__law_weights ct__law_weights), sl__law_weights⟩) (c__law_weights : PySem.W.codeIn K cd__law_weights "_law_weights" = true) (k__law_weights : PySem.W.keepIn K (.ref f__law_weights) = true)
    (a__law_digits : PySem.W.nsIn K mainGlobals "_law_digits" = some (some (.ref f__law_digits))) (l__law_digits : K.lookup f__law_digits = some ⟨oc__law_digits, od__law_digits, .func (PySem.W.fnOf "_law_digits" "_law_digits" (defArgs s_Ldigits) (defBody s_Ldigits) (defScope s_Ldigits) .none kV__law_digits dc__law_digits pm__law_digits an__law_digits cd__law_digits ct__law_digits), sl__law_digits⟩) (c__law_digits : PySem.W.codeIn K cd__law_digits "_law_digits" = true) (k__law_digits : PySem.W.keepIn K (.ref f__law_digits) = true)
    (a__law_asked : PySem.W.nsIn K mainGlobals "_law_asked" = some (some (.ref f__law_asked))) (l__law_asked : K.lookup f__law_asked = some ⟨oc__law_asked, od__law_asked, .func (PySem.W.fnOf "_law_asked" "_law_asked" (defArgs s_Lasked) (defBody s_Lasked) (defScope s_Lasked) .none kV__law_asked dc__law_asked pm__law_asked an__law_asked cd__law_asked ct__law_asked), sl__law_asked⟩) (c__law_asked : PySem.W.codeIn K cd__law_asked "_law_asked" = true) (k__law_asked : PySem.W.keepIn K (.ref f__law_asked) = true)
    (a__law_right : PySem.W.nsIn K mainGlobals "_law_right" = some (some (.ref f__law_right))) (l__law_right : K.lookup f__law_right = some ⟨oc__law_right, od__law_right, .func (PySem.W.fnOf "_law_right" "_law_right" (defArgs s_Lright) (defBody s_Lright) (defScope s_Lright) .none kV__law_right dc__law_right pm__law_right an__law_right cd__law_right ct__law_right), sl__law_right⟩) (c__law_right : PySem.W.codeIn K cd__law_right "_law_right" = true) (k__law_right : PySem.W.keepIn K (.ref f__law_right) = true)
    (a_law : PySem.W.nsIn K mainGlobals "law" = some (some (.ref f_law))) (l_law : K.lookup f_law = some ⟨oc_law, od_law, .func (PySem.W.fnOf "law" "law" (defArgs s_law) (defBody s_law) (defScope s_law) .none kV_law dc_law pm_law an_law cd_law ct_law), sl_law⟩) (c_law : PySem.W.codeIn K cd_law "law" = true) (k_law : PySem.W.keepIn K (.ref f_law) = true)
    (z_all : PySem.W.nsIn K mainGlobals "all" = some none)
    (z_bool : PySem.W.nsIn K mainGlobals "bool" = some none)
    (z_int : PySem.W.nsIn K mainGlobals "int" = some none)
    (z_isinstance : PySem.W.nsIn K mainGlobals "isinstance" = some none)
    (z_len : PySem.W.nsIn K mainGlobals "len" = some none)
    (z_list : PySem.W.nsIn K mainGlobals "list" = some none)
    (z_range : PySem.W.nsIn K mainGlobals "range" = some none)
    (z_str : PySem.W.nsIn K mainGlobals "str" = some none)
    (z_sum : PySem.W.nsIn K mainGlobals "sum" = some none)
    (z_tuple : PySem.W.nsIn K mainGlobals "tuple" = some none)
    
    (a_NoWitness : PySem.W.nsIn K mainGlobals "NoWitness" = some (some (.ref c_NoWitness)))
    (kc_NoWitness : PySem.W.keepIn K (.ref c_NoWitness) = true)
    (s_NoWitness : PySem.W.subIn K (.ref c_NoWitness) (.type "BaseException") = some true)
    (t_NoWitness : PySem.W.typeIn K (.ref c_NoWitness) = some (.type "type"))
    (i_NoWitness : PySem.W.isClsIn K c_NoWitness = true)
    (hd_NoWitness : PySem.W.hasDictIn K c_NoWitness = true)
    (x_NoWitness : PySem.W.excIn K c_NoWitness [.type "ValueError", .type "Exception", .type "BaseException", .type "object"] "ValueError.__new__" = true)
    (u_NoWitness_NoWitness : PySem.W.subIn K (.ref c_NoWitness) (.ref c_NoWitness) = some true)
    : ∃ fd : FuncData, (∀ (s : Shared) (v : Value), BindsTo s fd ⟨[v], []⟩ [("script", v)]) ∧ ∀ base : Heap, K.In base → base.Ns mainGlobals mg → FnOk l.prog w K mg base CX0 8 fa fd ["script"] (spLaw K) := by
  have e := hfa.symm.trans (PySem.W.mg_of X G a_law)
  cases e
  let T : Top K mg := { f__count_doubling := f__count_doubling, d__count_doubling := _, F__count_doubling := fun_mk (st := s__count_doubling) l__count_doubling c__count_doubling k__count_doubling, m__count_doubling := PySem.W.mg_of X G a__count_doubling, b__count_doubling := (fun_mk (st := s__count_doubling) l__count_doubling c__count_doubling k__count_doubling).binds (ps := ["top"]) (fun _ _ _ _ _ _ us hl => match us, hl with | [_], _ => rfl),
                        f_range_weights := f_range_weights, d_range_weights := _, F_range_weights := fun_mk (st := s_range_weights) l_range_weights c_range_weights k_range_weights, m_range_weights := PySem.W.mg_of X G a_range_weights, b_range_weights := (fun_mk (st := s_range_weights) l_range_weights c_range_weights k_range_weights).binds (ps := ["top"]) (fun _ _ _ _ _ _ us hl => match us, hl with | [_], _ => rfl),
                        f_range_digits := f_range_digits, d_range_digits := _, F_range_digits := fun_mk (st := s_range_digits) l_range_digits c_range_digits k_range_digits, m_range_digits := PySem.W.mg_of X G a_range_digits, b_range_digits := (fun_mk (st := s_range_digits) l_range_digits c_range_digits k_range_digits).binds (ps := ["top", "value"]) (fun _ _ _ _ _ _ us hl => match us, hl with | [_, _], _ => rfl),
                        f__law_mix := f__law_mix, d__law_mix := _, F__law_mix := fun_mk (st := s_Lmix) l__law_mix c__law_mix k__law_mix, m__law_mix := PySem.W.mg_of X G a__law_mix, b__law_mix := (fun_mk (st := s_Lmix) l__law_mix c__law_mix k__law_mix).binds (ps := ["cell", "salt"]) (fun _ _ _ _ _ _ us hl => match us, hl with | [_, _], _ => rfl),
                        f__law_box := f__law_box, d__law_box := _, F__law_box := fun_mk (st := s_Lbox) l__law_box c__law_box k__law_box, m__law_box := PySem.W.mg_of X G a__law_box, b__law_box := (fun_mk (st := s_Lbox) l__law_box c__law_box k__law_box).binds (ps := ["script", "at"]) (fun _ _ _ _ _ _ us hl => match us, hl with | [_, _], _ => rfl),
                        f__law_draw := f__law_draw, d__law_draw := _, F__law_draw := fun_mk (st := s_Ldraw) l__law_draw c__law_draw k__law_draw, m__law_draw := PySem.W.mg_of X G a__law_draw, b__law_draw := (fun_mk (st := s_Ldraw) l__law_draw c__law_draw k__law_draw).binds (ps := ["box", "many"]) (fun _ _ _ _ _ _ us hl => match us, hl with | [_, _], _ => rfl),
                        f__law_alike := f__law_alike, d__law_alike := _, F__law_alike := fun_mk (st := s_Lalike) l__law_alike c__law_alike k__law_alike, m__law_alike := PySem.W.mg_of X G a__law_alike, b__law_alike := (fun_mk (st := s_Lalike) l__law_alike c__law_alike k__law_alike).binds (ps := ["told", "due"]) (fun _ _ _ _ _ _ us hl => match us, hl with | [_, _], _ => rfl),
                        f__law_pure := f__law_pure, d__law_pure := _, F__law_pure := fun_mk (st := s_Lpure) l__law_pure c__law_pure k__law_pure, m__law_pure := PySem.W.mg_of X G a__law_pure, b__law_pure := (fun_mk (st := s_Lpure) l__law_pure c__law_pure k__law_pure).binds (ps := ["top"]) (fun _ _ _ _ _ _ us hl => match us, hl with | [_], _ => rfl),
                        f__law_weights := f__law_weights, d__law_weights := _, F__law_weights := fun_mk (st := s_Lweights) l__law_weights c__law_weights k__law_weights, m__law_weights := PySem.W.mg_of X G a__law_weights, b__law_weights := (fun_mk (st := s_Lweights) l__law_weights c__law_weights k__law_weights).binds (ps := ["top"]) (fun _ _ _ _ _ _ us hl => match us, hl with | [_], _ => rfl),
                        f__law_digits := f__law_digits, d__law_digits := _, F__law_digits := fun_mk (st := s_Ldigits) l__law_digits c__law_digits k__law_digits, m__law_digits := PySem.W.mg_of X G a__law_digits, b__law_digits := (fun_mk (st := s_Ldigits) l__law_digits c__law_digits k__law_digits).binds (ps := ["top", "value"]) (fun _ _ _ _ _ _ us hl => match us, hl with | [_, _], _ => rfl),
                        f__law_asked := f__law_asked, d__law_asked := _, F__law_asked := fun_mk (st := s_Lasked) l__law_asked c__law_asked k__law_asked, m__law_asked := PySem.W.mg_of X G a__law_asked, b__law_asked := (fun_mk (st := s_Lasked) l__law_asked c__law_asked k__law_asked).binds (ps := ["top", "value"]) (fun _ _ _ _ _ _ us hl => match us, hl with | [_, _], _ => rfl),
                        f__law_right := f__law_right, d__law_right := _, F__law_right := fun_mk (st := s_Lright) l__law_right c__law_right k__law_right, m__law_right := PySem.W.mg_of X G a__law_right, b__law_right := (fun_mk (st := s_Lright) l__law_right c__law_right k__law_right).binds (ps := ["top", "values"]) (fun _ _ _ _ _ _ us hl => match us, hl with | [_, _], _ => rfl),
                        f_law := fa, d_law := _, F_law := fun_mk (st := s_law) l_law c_law k_law, m_law := PySem.W.mg_of X G a_law, b_law := (fun_mk (st := s_law) l_law c_law k_law).binds (ps := ["script"]) (fun _ _ _ _ _ _ us hl => match us, hl with | [_], _ => rfl),
                        k_range_digits_0_value_top := fun_kbinds (fun_mk (st := s_range_digits) l_range_digits c_range_digits k_range_digits) g_range_digits_0_value_top_rel (fun _ _ _ _ _ _ us ws hl => match us, ws, hl with | [], [_, _], _ => rfl),
                        k_range_weights_0_top := fun_kbinds (fun_mk (st := s_range_weights) l_range_weights c_range_weights k_range_weights) g_range_weights_0_top_rel (fun _ _ _ _ _ _ us ws hl => match us, ws, hl with | [], [_], _ => rfl),
                        z_all := PySem.W.mg_none_of X G z_all,
                        z_bool := PySem.W.mg_none_of X G z_bool,
                        z_int := PySem.W.mg_none_of X G z_int,
                        z_isinstance := PySem.W.mg_none_of X G z_isinstance,
                        z_len := PySem.W.mg_none_of X G z_len,
                        z_list := PySem.W.mg_none_of X G z_list,
                        z_range := PySem.W.mg_none_of X G z_range,
                        z_str := PySem.W.mg_none_of X G z_str,
                        z_sum := PySem.W.mg_none_of X G z_sum,
                        z_tuple := PySem.W.mg_none_of X G z_tuple,
                        c_NoWitness := c_NoWitness,
                        m_NoWitness := PySem.W.mg_of X G a_NoWitness,
                        kc_NoWitness := kc_NoWitness,
                        s_NoWitness := s_NoWitness,
                        t_NoWitness := t_NoWitness,
                        i_NoWitness := i_NoWitness,
                        hd_NoWitness := hd_NoWitness,
                        x_NoWitness := x_NoWitness,
                        u_NoWitness_NoWitness := u_NoWitness_NoWitness }
  refine ⟨T.d_law, fun s v => .of_eq rfl, fun base _ _ => ?_⟩
  exact ok_law T law_true
theorem walk {l : PySem.W.OpenLaw} {q : Program} {loose : List Str} {XP : (Str → Option Value) → Heap → Prop} {YP : World → Heap → Prop} {d : DefRec} {K : Params → PySem.W.Frag} (hn : l.most = some 63) (hdf : d.params.defaults = [])
    (hY : ∀ (w : World) (h : Heap), YP w h → (K w.params).In h)
    (F : ∀ (w : World) (mg : Str → Option Value) (fa : Addr) (h : Heap), (K w.params).In h → h.Ns mainGlobals mg → mg d.name = some (.ref fa) →
      ∃ fd : FuncData, (∀ (s : Shared) (u : Value), BindsTo s fd ⟨[u], []⟩ [("script", u)]) ∧ ∀ base : Heap, (K w.params).In base → base.Ns mainGlobals mg → FnOk l.prog w (K w.params) mg base CX0 8 fa fd ["script"] (spLaw (K w.params))) :
    PySem.W.WalkO q loose XP YP l.row.toRowW d [] (fun f vs => PySem.call f vs) :=
  L2.walk_of (n := 63) (k := 8) (x := "script") (CX := fun _ => CX0) (sp := fun w => spLaw (K w.params)) hn (by decide) hdf ⟨rfl, by decide, by decide⟩ hY F (fun _ _ a ns hl _ hS => ⟨a, ns, rfl, hS, hl, fun _ => rfl⟩) fun _ _ _ _ _ z => z
end Toy
open PySem PySem.W PyProof.Rows
set_option maxRecDepth 100000 in
set_option maxHeartbeats 0 in
theorem PySem.Challenge.cw_hushpapers_k65_range_weights_and_digits_holds : PySem.Challenge.rw_hushpapers_k65_range_weights_and_digits.Holds := by
  w_on; o_law; k_head; (case hw => w_witness2)
  k_fill
  refine Toy.walk (l := PySem.Challenge.rw_hushpapers_k65_range_weights_and_digits) rfl rfl (fun w h Y => PySem.W.kIn_of Y) ?F
  case F =>
    intro w mg fa h KX G hmg
    refine' Toy.all_mk KX G hmg ?a__count_doubling ?l__count_doubling ?c__count_doubling ?k__count_doubling ?a_range_weights ?l_range_weights ?c_range_weights ?k_range_weights ?a_range_digits ?l_range_digits ?c_range_digits ?k_range_digits ?a__law_mix ?l__law_mix ?c__law_mix ?k__law_mix ?a__law_box ?l__law_box ?c__law_box ?k__law_box ?a__law_draw ?l__law_draw ?c__law_draw ?k__law_draw ?a__law_alike ?l__law_alike ?c__law_alike ?k__law_alike ?a__law_pure ?l__law_pure ?c__law_pure ?k__law_pure ?a__law_weights ?l__law_weights ?c__law_weights ?k__law_weights ?a__law_digits ?l__law_digits ?c__law_digits ?k__law_digits ?a__law_asked ?l__law_asked ?c__law_asked ?k__law_asked ?a__law_right ?l__law_right ?c__law_right ?k__law_right ?a_law ?l_law ?c_law ?k_law ?z_all ?z_bool ?z_int ?z_isinstance ?z_len ?z_list ?z_range ?z_str ?z_sum ?z_tuple ?a_NoWitness ?kc_NoWitness ?s_NoWitness ?t_NoWitness ?i_NoWitness ?hd_NoWitness ?x_NoWitness ?u_NoWitness_NoWitness
    (case a__count_doubling => k_is)
    (case l__count_doubling => k_is)
    (case c__count_doubling => k_is)
    (case k__count_doubling => k_is)
    (case a_range_weights => k_is)
    (case l_range_weights => k_is)
    (case c_range_weights => k_is)
    (case k_range_weights => k_is)
    (case a_range_digits => k_is)
    (case l_range_digits => k_is)
    (case c_range_digits => k_is)
    (case k_range_digits => k_is)
    (case a__law_mix => k_is)
    (case l__law_mix => k_is)
    (case c__law_mix => k_is)
    (case k__law_mix => k_is)
    (case a__law_box => k_is)
    (case l__law_box => k_is)
    (case c__law_box => k_is)
    (case k__law_box => k_is)
    (case a__law_draw => k_is)
    (case l__law_draw => k_is)
    (case c__law_draw => k_is)
    (case k__law_draw => k_is)
    (case a__law_alike => k_is)
    (case l__law_alike => k_is)
    (case c__law_alike => k_is)
    (case k__law_alike => k_is)
    (case a__law_pure => k_is)
    (case l__law_pure => k_is)
    (case c__law_pure => k_is)
    (case k__law_pure => k_is)
    (case a__law_weights => k_is)
    (case l__law_weights => k_is)
    (case c__law_weights => k_is)
    (case k__law_weights => k_is)
    (case a__law_digits => k_is)
    (case l__law_digits => k_is)
    (case c__law_digits => k_is)
    (case k__law_digits => k_is)
    (case a__law_asked => k_is)
    (case l__law_asked => k_is)
    (case c__law_asked => k_is)
    (case k__law_asked => k_is)
    (case a__law_right => k_is)
    (case l__law_right => k_is)
    (case c__law_right => k_is)
    (case k__law_right => k_is)
    (case a_law => k_is)
    (case l_law => k_is)
    (case c_law => k_is)
    (case k_law => k_is)
    (case z_all => k_is)
    (case z_bool => k_is)
    (case z_int => k_is)
    (case z_isinstance => k_is)
    (case z_len => k_is)
    (case z_list => k_is)
    (case z_range => k_is)
    (case z_str => k_is)
    (case z_sum => k_is)
    (case z_tuple => k_is)
    (case a_NoWitness => k_is)
    (case kc_NoWitness => k_is)
    (case s_NoWitness => k_is)
    (case t_NoWitness => k_is)
    (case i_NoWitness => k_is)
    (case hd_NoWitness => k_is)
    (case x_NoWitness => k_exc)
    (case u_NoWitness_NoWitness => k_is)
