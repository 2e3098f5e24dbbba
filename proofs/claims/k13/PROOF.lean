import PyProof.Rows.All
import Wide.All
import OpenK.AllK
import Wide.FinOn
import HandS.ForMost
import HandS.Wide
import HandS.IsInst
import HandS.Gcd
import HandS.NoneIn
import HandS.ForExc
import HandS.ExcIs
import HandS.Star
import HandS.Walk
import HandS.Zip
import HandS.TupAny
import HandS.Strs
import HandS.TupMul
import HandS.ClsMeth
import HandS.DictComp
import HandS.MakeKw
import HandS.Property
import KE.KSuper
import KE.GoesMore
import HandS.Conv
import HandS.Rev
import HandS.RevTup
import HandS.Deep
import HandS.CallSlots
import HandS.EndBits
import HandS.Flow
import HandS.SetFor
import HandS.SortInts
import HandS.Style
import PySem.Challenge.RW_hushpapers_k13_hiding_keys_have_one_blin
set_option Elab.async false
set_option linter.all false
set_option maxRecDepth 100000
set_option maxHeartbeats 4000000
namespace Toy
open PySem L2
/-! ### values, described; what stands still; environments -/
inductive PV where
  | non | bl (b : Bool) | int (i : Int) | str (x : Str)
  | tup (xs : List PV) | lst (xs : List PV) | fls (xs : List PV)
  | ins (C : Str) (fs : List (Str × PV)) | dct (kvs : List (Key × PV))
  | ty (n : String)
mutual
inductive Is (K : PySem.W.Frag) (cl : Str → Option Addr) (F : Hp) : V → PV → Prop
  | non : Is K cl F .non .non
  | bl (b : Bool) : Is K cl F (.bl b) (.bl b)
  | int (i : Int) : Is K cl F (.int i) (.int i)
  | str (x : Str) : Is K cl F (.str x) (.str x)
  | ty (n : String) : Is K cl F (.ty n) (.ty n)
  | tup {a : Addr} {vs : List V} {ps : List PV} : SqT K F a vs → IsL K cl F vs ps → Is K cl F (.ref a) (.tup ps)
  | lst {a : Addr} {vs : List V} {ps : List PV} : F a = some (.lst vs) → IsL K cl F vs ps → Is K cl F (.ref a) (.lst ps)
  | fls {a : Addr} {vs : List V} {ps : List PV} : SqL K F a vs → IsL K cl F vs ps → Is K cl F (.ref a) (.fls ps)
  | ins {a c dx : Addr} {C : Str} {vs : List (Str × V)} {fs : List (Str × PV)} : cl C = some c → F a = some (.ins c dx vs) → IsF K cl F vs fs → Is K cl F (.ref a) (.ins C fs)
  | dct {a : Addr} {vs : List (Key × V)} {ps : List (Key × PV)} : F a = some (.dK vs) → IsK K cl F vs ps → Is K cl F (.ref a) (.dct ps)
inductive IsL (K : PySem.W.Frag) (cl : Str → Option Addr) (F : Hp) : List V → List PV → Prop
  | nil : IsL K cl F [] []
  | cons {v : V} {p : PV} {vs : List V} {ps : List PV} : Is K cl F v p → IsL K cl F vs ps → IsL K cl F (v :: vs) (p :: ps)
inductive IsF (K : PySem.W.Frag) (cl : Str → Option Addr) (F : Hp) : List (Str × V) → List (Str × PV) → Prop
  | nil : IsF K cl F [] []
  | cons {f : Str} {v : V} {p : PV} {vs : List (Str × V)} {ps : List (Str × PV)} : Is K cl F v p → IsF K cl F vs ps → IsF K cl F ((f, v) :: vs) ((f, p) :: ps)
inductive IsK (K : PySem.W.Frag) (cl : Str → Option Addr) (F : Hp) : List (Key × V) → List (Key × PV) → Prop
  | nil : IsK K cl F [] []
  | cons {f : Key} {v : V} {p : PV} {vs : List (Key × V)} {ps : List (Key × PV)} : Is K cl F v p → IsK K cl F vs ps → IsK K cl F ((f, v) :: vs) ((f, p) :: ps)
end
section
variable {K : PySem.W.Frag} {cl : Str → Option Addr} {F F' : Hp}
def Sub (F F' : Hp) : Prop := ∀ a o, F a = some o → F' a = some o
theorem Sub.refl {F : Hp} : Sub F F := fun _ _ h => h
theorem Sub.trans {F F' F2 : Hp} (a : Sub F F') (b : Sub F' F2) : Sub F F2 := fun x o h => b x o (a x o h)
theorem Sub.rd {a : Addr} {u : HO} (s : Sub F F') (h : Rd F a u) : Rd F' a u := by
  rcases h with h | ⟨o, h⟩
  · exact .inl (s _ _ h)
  · exact .inr ⟨o, s _ _ h⟩
theorem Sub.sqT {a : Addr} {vs : List V} (s : Sub F F') (h : SqT K F a vs) : SqT K F' a vs := h.imp (fun h => s.rd h) id
theorem Sub.sqL {a : Addr} {vs : List V} (s : Sub F F') (h : SqL K F a vs) : SqL K F' a vs := h.imp (fun h => s.rd h) id
mutual
theorem Is.mono (s : Sub F F') : ∀ {v : V} {p : PV}, Is K cl F v p → Is K cl F' v p
  | _, _, .non => .non
  | _, _, .bl b => .bl b
  | _, _, .int i => .int i
  | _, _, .str x => .str x
  | _, _, .ty n => .ty n
  | _, _, .tup h r => .tup (s.sqT h) (IsL.mono s r)
  | _, _, .lst h r => .lst (s _ _ h) (IsL.mono s r)
  | _, _, .fls h r => .fls (s.sqL h) (IsL.mono s r)
  | _, _, .ins c h r => .ins c (s _ _ h) (IsF.mono s r)
  | _, _, .dct h r => .dct (s _ _ h) (IsK.mono s r)
theorem IsL.mono (s : Sub F F') : ∀ {vs : List V} {ps : List PV}, IsL K cl F vs ps → IsL K cl F' vs ps
  | _, _, .nil => .nil
  | _, _, .cons a r => .cons (Is.mono s a) (IsL.mono s r)
theorem IsF.mono (s : Sub F F') : ∀ {vs : List (Str × V)} {ps : List (Str × PV)}, IsF K cl F vs ps → IsF K cl F' vs ps
  | _, _, .nil => .nil
  | _, _, .cons a r => .cons (Is.mono s a) (IsF.mono s r)
theorem IsK.mono (s : Sub F F') : ∀ {vs : List (Key × V)} {ps : List (Key × PV)}, IsK K cl F vs ps → IsK K cl F' vs ps
  | _, _, .nil => .nil
  | _, _, .cons a r => .cons (Is.mono s a) (IsK.mono s r)
end
theorem IsL.len : ∀ {vs : List V} {ps : List PV}, IsL K cl F vs ps → vs.length = ps.length
  | _, _, .nil => rfl
  | _, _, .cons _ r => congrArg (· + 1) r.len
theorem IsL.get : ∀ {vs : List V} {ps : List PV} {i : Nat} {p : PV}, IsL K cl F vs ps → ps[i]? = some p → ∃ v, vs[i]? = some v ∧ Is K cl F v p
  | _, _, _, _, .nil, e => by simp at e
  | _, _, 0, _, .cons a _, e => by simp at e; subst e; exact ⟨_, rfl, a⟩
  | _, _, i + 1, _, .cons _ r, e => by
    obtain ⟨v, h, q⟩ := r.get (i := i) (by simpa using e)
    exact ⟨v, by simpa using h, q⟩
theorem IsL.get' : ∀ {vs : List V} {ps : List PV} {i : Nat} {v : V}, IsL K cl F vs ps → vs[i]? = some v → ∃ p, ps[i]? = some p ∧ Is K cl F v p
  | _, _, _, _, .nil, e => by simp at e
  | _, _, 0, _, .cons a _, e => by simp at e; subst e; exact ⟨_, rfl, a⟩
  | _, _, i + 1, _, .cons _ r, e => by
    obtain ⟨v, h, q⟩ := r.get' (i := i) (by simpa using e)
    exact ⟨v, by simpa using h, q⟩
theorem IsL.append : ∀ {vs ws : List V} {ps qs : List PV}, IsL K cl F vs ps → IsL K cl F ws qs → IsL K cl F (vs ++ ws) (ps ++ qs)
  | _, _, _, _, .nil, s => s
  | _, _, _, _, .cons a r, s => .cons a (r.append s)
theorem IsL.one {v : V} {p : PV} (h : Is K cl F v p) : IsL K cl F [v] [p] := .cons h .nil
theorem IsL.take : ∀ {vs : List V} {ps : List PV} (n : Nat), IsL K cl F vs ps → IsL K cl F (vs.take n) (ps.take n)
  | _, _, 0, _ => .nil
  | _, _, _ + 1, .nil => .nil
  | _, _, n + 1, .cons a r => .cons a (r.take n)
theorem IsL.drop : ∀ {vs : List V} {ps : List PV} (n : Nat), IsL K cl F vs ps → IsL K cl F (vs.drop n) (ps.drop n)
  | _, _, 0, r => r
  | _, _, _ + 1, .nil => .nil
  | _, _, n + 1, .cons _ r => r.drop n
theorem IsL.set {v : V} {p : PV} (h : Is K cl F v p) : ∀ {vs : List V} {ps : List PV} (n : Nat), IsL K cl F vs ps → IsL K cl F (vs.set n v) (ps.set n p)
  | _, _, _, .nil => .nil
  | _, _, 0, .cons _ r => .cons h r
  | _, _, n + 1, .cons a r => .cons a (IsL.set h n r)
theorem IsL.erase : ∀ {vs : List V} {ps : List PV} (n : Nat), IsL K cl F vs ps → IsL K cl F (vs.eraseIdx n) (ps.eraseIdx n)
  | _, _, _, .nil => .nil
  | _, _, 0, .cons _ r => r
  | _, _, n + 1, .cons a r => .cons a (IsL.erase n r)
theorem IsL.rep {v : V} {p : PV} (h : Is K cl F v p) : ∀ n : Nat, IsL K cl F (List.replicate n v) (List.replicate n p)
  | 0 => .nil
  | n + 1 => .cons h (IsL.rep h n)
theorem IsL.reverse {vs : List V} {ps : List PV} (h : IsL K cl F vs ps) : IsL K cl F vs.reverse ps.reverse := by
  induction vs generalizing ps with
  | nil => cases h; exact .nil
  | cons v vs ih =>
    cases h with
    | cons a r =>
      rw [List.reverse_cons, List.reverse_cons]
      exact (ih r).append (.one a)
theorem IsL.ints {vs : List V} : ∀ {ns : List Int}, IsL K cl F vs (ns.map PV.int) → vs = ns.map V.int := by
  intro ns
  induction ns generalizing vs with
  | nil => intro h; cases h; rfl
  | cons n ns ih =>
    intro h
    cases h with
    | cons a r =>
      cases a
      rw [ih r]
      rfl
theorem IsL.of_ints : ∀ ns : List Int, IsL K cl F (ns.map V.int) (ns.map PV.int)
  | [] => .nil
  | n :: ns => .cons (.int n) (IsL.of_ints ns)
theorem IsL.bls {vs : List V} : ∀ {ns : List Bool}, IsL K cl F vs (ns.map PV.bl) → vs = ns.map V.bl := by
  intro ns
  induction ns generalizing vs with
  | nil => intro h; cases h; rfl
  | cons n ns ih =>
    intro h
    cases h with
    | cons a r =>
      cases a
      rw [ih r]
      rfl
theorem IsF.look {f : Str} {p : PV} : ∀ {vs : List (Str × V)} {ps : List (Str × PV)}, IsF K cl F vs ps → ps.lookup f = some p → ∃ v, vs.lookup f = some v ∧ Is K cl F v p
  | _, _, .nil, e => by cases e
  | _, _, .cons (f := g) a r, e => by
    rw [List.lookup_cons] at e ⊢
    split at e
    · next h => cases e; exact ⟨_, rfl, a⟩
    · next h => exact r.look e
theorem IsF.nolook {f : Str} : ∀ {vs : List (Str × V)} {ps : List (Str × PV)}, IsF K cl F vs ps → ps.lookup f = none → vs.lookup f = none
  | _, _, .nil, _ => rfl
  | _, _, .cons (f := g) a r, e => by
    rw [List.lookup_cons] at e ⊢
    split at e
    · cases e
    · next h => exact r.nolook e
def valP (kvs : List (Key × PV)) (k : Key) : Option PV := (kvs.find? fun kv => decide (kv.1 = k)).map (·.2)
theorem IsK.val {k : Key} {p : PV} : ∀ {vs : List (Key × V)} {ps : List (Key × PV)}, IsK K cl F vs ps → valP ps k = some p → ∃ v, valV vs k = some v ∧ Is K cl F v p
  | _, _, .nil, e => by cases e
  | _, _, .cons (f := g) a r, e => by
    unfold valP at e
    unfold valV
    rw [List.find?_cons] at e ⊢
    by_cases h : g = k
    · rw [decide_eq_true h] at e ⊢
      cases e
      exact ⟨_, rfl, a⟩
    · rw [decide_eq_false h] at e ⊢
      exact r.val e
theorem IsK.noval {k : Key} : ∀ {vs : List (Key × V)} {ps : List (Key × PV)}, IsK K cl F vs ps → valP ps k = none → valV vs k = none
  | _, _, .nil, _ => rfl
  | _, _, .cons (f := g) a r, e => by
    unfold valP at e
    unfold valV
    rw [List.find?_cons] at e ⊢
    by_cases h : g = k
    · rw [decide_eq_true h] at e
      cases e
    · rw [decide_eq_false h] at e ⊢
      exact r.noval e
theorem IsK.len : ∀ {vs : List (Key × V)} {ps : List (Key × PV)}, IsK K cl F vs ps → vs.length = ps.length
  | _, _, .nil => rfl
  | _, _, .cons _ r => congrArg (· + 1) r.len
def putP (kvs : List (Key × PV)) (k : Key) (v : PV) : List (Key × PV) :=
  if (kvs.any fun kv => decide (kv.1 = k)) = true then kvs.map (fun kv => if kv.1 = k then (kv.1, v) else kv) else kvs ++ [(k, v)]
theorem IsK.any {k : Key} : ∀ {vs : List (Key × V)} {ps : List (Key × PV)}, IsK K cl F vs ps → (vs.any fun kv => decide (kv.1 = k)) = ps.any fun kv => decide (kv.1 = k)
  | _, _, .nil => rfl
  | _, _, .cons _ r => by rw [List.any_cons, List.any_cons, r.any]
theorem IsK.over {k : Key} {v : V} {p : PV} (h : Is K cl F v p) : ∀ {vs : List (Key × V)} {ps : List (Key × PV)}, IsK K cl F vs ps → IsK K cl F (vs.map fun kv => if kv.1 = k then (kv.1, v) else kv) (ps.map fun kv => if kv.1 = k then (kv.1, p) else kv)
  | _, _, .nil => .nil
  | _, _, .cons (f := g) a r => by
    rw [List.map_cons, List.map_cons]
    by_cases e : g = k
    · rw [if_pos e, if_pos e]
      exact .cons h (r.over h)
    · rw [if_neg e, if_neg e]
      exact .cons a (r.over h)
theorem IsK.append : ∀ {vs ws : List (Key × V)} {ps qs : List (Key × PV)}, IsK K cl F vs ps → IsK K cl F ws qs → IsK K cl F (vs ++ ws) (ps ++ qs)
  | _, _, _, _, .nil, s => s
  | _, _, _, _, .cons a r, s => .cons a (r.append s)
theorem IsK.put {k : Key} {v : V} {p : PV} (h : Is K cl F v p) {vs : List (Key × V)} {ps : List (Key × PV)} (r : IsK K cl F vs ps) : IsK K cl F (putK vs k v) (putP ps k p) := by
  unfold putK putP
  rw [r.any]
  split
  · exact r.over h
  · exact r.append (.cons h .nil)
end
/-! ### results -/
inductive Res (α : Type) where
  | val (a : α) | exc (c : Str) | stuck
def Res.bind {α β : Type} : Res α → (α → Res β) → Res β
  | .val a, f => f a
  | .exc c, _ => .exc c
  | .stuck, _ => .stuck
instance : Monad Res where
  pure := .val
  bind := Res.bind
def wp {α : Type} (m : Res α) (Q : α → Prop) (E : Str → Prop) : Prop := match m with
  | .val a => Q a
  | .exc c => E c
  | .stuck => False
section
variable {α β : Type} {Q : α → Prop} {E : Str → Prop} {R : β → Prop}
theorem wp_val {a : α} : wp (.val a) Q E ↔ Q a := Iff.rfl
theorem wp_bind {m : Res β} {f : β → Res α} : wp (m >>= f) Q E ↔ wp m (fun b => wp (f b) Q E) E := by cases m <;> rfl
theorem wp_mono {m : Res α} {Q' : α → Prop} {E' : Str → Prop} (h : wp m Q E) (q : ∀ a, Q a → Q' a) (e : ∀ c, E c → E' c) : wp m Q' E' := by
  cases m with
  | val a => exact q a h
  | exc c => exact e c h
  | stuck => exact h
@[simp] theorem bind_val {a : β} {f : β → Res α} : (Res.val a >>= f) = f a := rfl
@[simp] theorem bind_exc {c : Str} {f : β → Res α} : (Res.exc c >>= f) = .exc c := rfl
@[simp] theorem bind_stuck {f : β → Res α} : ((Res.stuck : Res β) >>= f) = .stuck := rfl
@[simp] theorem pure_val {a : α} : (pure a : Res α) = .val a := rfl
theorem wp_of_val {m : Res α} {a : α} (h : m = .val a) (q : Q a) : wp m Q E := by subst h; exact q
theorem wp_get {m : Res α} (h : wp m Q (fun _ => False)) : ∃ a, m = .val a ∧ Q a := by
  cases m with
  | val a => exact ⟨a, rfl, h⟩
  | exc c => exact h.elim
  | stuck => exact h.elim
end
/-! ### environments -/
inductive MO where
  | lst (xs : List PV) | dct (kvs : List (Key × PV)) | ob (C : Str) (fs : List (Str × PV))
inductive Slot where
  | un | fz (p : PV) | ow (m : MO) | rf (k : Nat) (m : MO)
abbrev Ro := List Slot
def frz (H : Hp) (A : List Addr) : Hp := fun a => if a ∈ A then none else H a
theorem frz_some {H : Hp} {A : List Addr} {a : Addr} {o : HO} : frz H A a = some o ↔ a ∉ A ∧ H a = some o := by
  unfold frz
  by_cases h : a ∈ A
  · rw [if_pos h]
    exact ⟨(fun z => nomatch z), fun z => absurd h z.1⟩
  · rw [if_neg h]
    exact ⟨fun z => ⟨h, z⟩, fun z => z.2⟩
theorem frz_sub {H : Hp} {A : List Addr} : Sub (frz H A) H := fun _ _ h => (frz_some.mp h).2
theorem frz_in {H : Hp} {A : List Addr} {a : Addr} (h : a ∈ A) : frz H A a = none := by unfold frz; rw [if_pos h]
/-- all but A is kept; what is in A' is of A or new -/
def Gr (A : List Addr) (H : Hp) (A' : List Addr) (H' : Hp) : Prop := (∀ x o, x ∉ A → H x = some o → H' x = some o) ∧ ∀ x, x ∈ A' → x ∈ A ∨ H x = none
theorem Gr.refl {A : List Addr} {H : Hp} : Gr A H A H := ⟨fun _ _ _ h => h, fun _ h => .inl h⟩
theorem Gr.trans {A B C : List Addr} {H H1 H2 : Hp} (a : Gr A H B H1) (b : Gr B H1 C H2) : Gr A H C H2 := by
  refine ⟨fun x o n h => ?_, fun x hx => ?_⟩
  · have h1 := a.1 x o n h
    refine b.1 x o (fun z => ?_) h1
    rcases a.2 x z with c | c
    · exact n c
    · rw [c] at h; cases h
  · rcases b.2 x hx with c | c
    · exact a.2 x c
    · cases e : H x with
      | none => exact .inr rfl
      | some o =>
        by_cases m : x ∈ A
        · exact .inl m
        · rw [a.1 x o m e] at c; cases c
theorem Gr.of {A : List Addr} {H H1 : Hp} (s : Sub H H1) : Gr A H A H1 := ⟨fun x o _ h => s x o h, fun _ h => .inl h⟩
theorem Gr.sub {O A A' : List Addr} {H H' : Hp} (g : Gr A H A' H') (hO : ∀ a, a ∈ O → ∃ o, H a = some o) : Sub (frz H (O ++ A)) (frz H' (O ++ A')) := fun x o h => by
  obtain ⟨n, h⟩ := frz_some.mp h
  rw [List.mem_append] at n
  refine frz_some.mpr ⟨fun z => ?_, g.1 x o (fun z => n (.inr z)) h⟩
  rcases List.mem_append.mp z with z | z
  · exact n (.inl z)
  · rcases g.2 x z with c | c
    · exact n (.inr c)
    · rw [c] at h; cases h
def adr : Ro → St → List Addr
  | .ow _ :: ρ, some (.ref a) :: σ => a :: adr ρ σ
  | .rf _ _ :: ρ, some (.ref a) :: σ => a :: adr ρ σ
  | _ :: ρ, _ :: σ => adr ρ σ
  | _, _ => []
def owa : Ro → St → List Addr
  | .ow _ :: ρ, some (.ref a) :: σ => a :: owa ρ σ
  | _ :: ρ, _ :: σ => owa ρ σ
  | _, _ => []
section
variable (K : PySem.W.Frag) (cl : Str → Option Addr)
def MoIs (F H : Hp) (a : Addr) : MO → Prop
  | .lst ps => ∃ vs, H a = some (.lst vs) ∧ IsL K cl F vs ps
  | .dct ps => ∃ vs, H a = some (.dK vs) ∧ IsK K cl F vs ps
  | .ob C fs => ∃ c dx vs, cl C = some c ∧ H a = some (.ins c dx vs) ∧ IsF K cl F vs fs
def SlotIs (bs : List Addr) (F H : Hp) : Slot → Option V → Prop
  | .un, _ => True
  | .fz p, x => ∃ v, x = some v ∧ Is K cl F v p
  | .ow m, x => ∃ a, x = some (.ref a) ∧ MoIs K cl F H a m
  | .rf k m, x => ∃ a, x = some (.ref a) ∧ bs[k]? = some a ∧ MoIs K cl F H a m
inductive RelS (bs : List Addr) (F H : Hp) : Ro → St → Prop
  | nil : RelS bs F H [] []
  | cons {s : Slot} {x : Option V} {ρ : Ro} {σ : St} : SlotIs K cl bs F H s x → RelS bs F H ρ σ → RelS bs F H (s :: ρ) (x :: σ)
structure Rel (O bs : List Addr) (ρ : Ro) (σ : St) (H : Hp) : Prop where
  sl : RelS K cl bs (frz H (O ++ adr ρ σ)) H ρ σ
  nd : (adr ρ σ).Nodup
  al : ∀ a, a ∈ O → ∃ o, H a = some o
  ow : ∀ a, a ∈ owa ρ σ → a ∉ O
end
section
variable {K : PySem.W.Frag} {cl : Str → Option Addr} {F F' H H' : Hp} {O bs : List Addr} {ρ : Ro} {σ : St}
theorem MoIs.mono {a : Addr} {m : MO} (h : MoIs K cl F H a m) (s : Sub F F') (e : ∀ o, H a = some o → H' a = some o) : MoIs K cl F' H' a m := by
  cases m with
  | lst ps => obtain ⟨vs, h, r⟩ := h; exact ⟨vs, e _ h, r.mono s⟩
  | dct ps => obtain ⟨vs, h, r⟩ := h; exact ⟨vs, e _ h, r.mono s⟩
  | ob C fs => obtain ⟨c, dx, vs, h0, h, r⟩ := h; exact ⟨c, dx, vs, h0, e _ h, r.mono s⟩
theorem MoIs.got {a : Addr} {m : MO} (h : MoIs K cl F H a m) : ∃ o, H a = some o := by
  cases m with
  | lst ps => obtain ⟨vs, h, r⟩ := h; exact ⟨_, h⟩
  | dct ps => obtain ⟨vs, h, r⟩ := h; exact ⟨_, h⟩
  | ob C fs => obtain ⟨c, dx, vs, h0, h, r⟩ := h; exact ⟨_, h⟩
theorem SlotIs.mono {s : Slot} {x : Option V} (h : SlotIs K cl bs F H s x) (q : Sub F F') (e : ∀ a o, (x = some (.ref a) ∧ s ≠ .un ∧ (∀ p, s ≠ .fz p)) → H a = some o → H' a = some o) : SlotIs K cl bs F' H' s x := by
  cases s with
  | un => trivial
  | fz p => obtain ⟨v, rfl, h⟩ := h; exact ⟨v, rfl, h.mono q⟩
  | ow m => obtain ⟨a, rfl, h⟩ := h; exact ⟨a, rfl, h.mono q fun o => e a o ⟨rfl, (fun z => nomatch z), fun _ z => nomatch z⟩⟩
  | rf k m => obtain ⟨a, rfl, b, h⟩ := h; exact ⟨a, rfl, b, h.mono q fun o => e a o ⟨rfl, (fun z => nomatch z), fun _ z => nomatch z⟩⟩
theorem RelS.mono (h : RelS K cl bs F H ρ σ) (q : Sub F F') (e : ∀ a o, a ∈ adr ρ σ → H a = some o → H' a = some o) : RelS K cl bs F' H' ρ σ := by
  induction h with
  | nil => exact .nil
  | @cons s x ρ σ a r ih =>
    refine .cons (a.mono q fun b o z h => e b o ?_ h) (ih fun b o z h => e b o ?_ h)
    · obtain ⟨rfl, n1, n2⟩ := z
      cases s with
      | un => exact absurd rfl n1
      | fz p => exact absurd rfl (n2 p)
      | ow m => exact List.mem_cons_self
      | rf k m => exact List.mem_cons_self
    · cases s with
      | un => exact z
      | fz p => exact z
      | ow m => obtain ⟨c, rfl, _⟩ := a; exact List.mem_cons_of_mem _ z
      | rf k m => obtain ⟨c, rfl, _⟩ := a; exact List.mem_cons_of_mem _ z
theorem RelS.len (h : RelS K cl bs F H ρ σ) : ρ.length = σ.length := by
  induction h with
  | nil => rfl
  | cons _ _ ih => exact congrArg (· + 1) ih
theorem RelS.get {i : Nat} {s : Slot} (h : RelS K cl bs F H ρ σ) (e : ρ[i]? = some s) : ∃ x, σ[i]? = some x ∧ SlotIs K cl bs F H s x := by
  induction h generalizing i with
  | nil => simp at e
  | cons a r ih =>
    cases i with
    | zero => simp at e; subst e; exact ⟨_, rfl, a⟩
    | succ i =>
      obtain ⟨x, h1, h2⟩ := ih (i := i) (by simpa using e)
      exact ⟨x, by simpa using h1, h2⟩
theorem RelS.adr_got (h : RelS K cl bs F H ρ σ) {a : Addr} (ha : a ∈ adr ρ σ) : ∃ o, H a = some o := by
  induction h with
  | nil => cases ha
  | @cons s x ρ σ a r ih =>
    cases s with
    | un => exact ih ha
    | fz p => exact ih ha
    | ow m =>
      obtain ⟨c, rfl, q⟩ := a
      rcases List.mem_cons.mp ha with e | e
      · rw [e]; exact q.got
      · exact ih e
    | rf k m =>
      obtain ⟨c, rfl, _, q⟩ := a
      rcases List.mem_cons.mp ha with e | e
      · rw [e]; exact q.got
      · exact ih e
theorem Rel.same (h : Rel K cl O bs ρ σ H) (s : Sub H H') : Rel K cl O bs ρ σ H' :=
  ⟨h.sl.mono ((Gr.of s).sub h.al) fun _ _ _ e => s _ _ e, h.nd, fun a ha => let ⟨o, e⟩ := h.al a ha; ⟨o, s _ _ e⟩, h.ow⟩
theorem Rel.sub (h : Rel K cl O bs ρ σ H) (s : Sub H H') : Sub (frz H (O ++ adr ρ σ)) (frz H' (O ++ adr ρ σ)) := (Gr.of s).sub h.al
/-- all of O and of the owned stands -/
theorem Rel.got (h : Rel K cl O bs ρ σ H) {a : Addr} (ha : a ∈ O ++ adr ρ σ) : ∃ o, H a = some o := by
  rcases List.mem_append.mp ha with c | c
  · exact h.al a c
  · exact h.sl.adr_got c
/-- what is new is frozen at once -/
theorem Rel.new_frz (h : Rel K cl O bs ρ σ H) {p : Addr} (hp : H p = none) (o : HO) : frz (upd H p o) (O ++ adr ρ σ) p = some o := by
  refine frz_some.mpr ⟨fun z => ?_, upd_same⟩
  obtain ⟨u, e⟩ := h.got z
  rw [hp] at e
  cases e
theorem sub_new {H : Hp} {p : Addr} (h : H p = none) (o : HO) : Sub H (upd H p o) := fun b u q => by rw [upd_ne (ne_of_none q h)]; exact q
end
/-! ### readings that give a described value -/
def IsV (K : PySem.W.Frag) (cl : Str → Option Addr) (F H : Hp) (v : V) : PV → Prop
  | .lst ps => ∃ a vs, v = .ref a ∧ H a = some (.lst vs) ∧ IsL K cl F vs ps
  | .dct ps => ∃ a vs, v = .ref a ∧ H a = some (.dK vs) ∧ IsK K cl F vs ps
  | p => Is K cl F v p
section
variable (K : PySem.W.Frag) (cl : Str → Option Addr) (W : WX)
def XW (σ : St) (H : Hp) (c : Str) : Prop := ∀ C H', cl c = some C → Sub H H' → W (.ref C) none σ H'
/-- strictly frozen -/
def Pur (t : TE) (ρ : Ro) (m : Res PV) : Prop := ∀ (O bs : List Addr) (σ : St) (H : Hp) (Q : VK), Rel K cl O bs ρ σ H →
  wp m (fun r => ∀ v H', Sub H H' → Is K cl (frz H' (O ++ adr ρ σ)) v r → Q v H') (XW cl W σ H) → t σ H Q
/-- a view: the container may be owned -/
def Vw (t : TE) (ρ : Ro) (m : Res PV) : Prop := ∀ (O bs : List Addr) (σ : St) (H : Hp) (Q : VK), Rel K cl O bs ρ σ H →
  wp m (fun r => ∀ v H', Sub H H' → IsV K cl (frz H' (O ++ adr ρ σ)) H' v r → Q v H') (XW cl W σ H) → t σ H Q
def PurL (t : TA) (ρ : Ro) (m : Res (List PV)) : Prop := ∀ (O bs : List Addr) (σ : St) (H : Hp) (Q : List V → Hp → Prop), Rel K cl O bs ρ σ H →
  wp m (fun r => ∀ vs H', Sub H H' → IsL K cl (frz H' (O ++ adr ρ σ)) vs r → Q vs H') (XW cl W σ H) → t σ H Q
def Tst (t : TT) (ρ : Ro) (m : Res Bool) : Prop := ∀ (O bs : List Addr) (σ : St) (H : Hp) (Q : Bool → Hp → Prop), Rel K cl O bs ρ σ H →
  wp m (fun r => ∀ H', Sub H H' → Q r H') (XW cl W σ H) → t σ H Q
/-- an operation on two values -/
def Op2 (r : R2) (f : PV → PV → Res PV) : Prop := ∀ (A : List Addr) (H : Hp) (x y : V) (p q : PV) (Q : VK) (E : Str → Prop), (∀ a, a ∈ A → ∃ o, H a = some o) → IsV K cl (frz H A) H x p → IsV K cl (frz H A) H y q →
  wp (f p q) (fun z => ∀ v H', Sub H H' → Is K cl (frz H' A) v z → Q v H') E → r x y H Q
def Op1 (r : V → Hp → VK → Prop) (f : PV → Res PV) : Prop := ∀ (A : List Addr) (H : Hp) (x : V) (p : PV) (Q : VK) (E : Str → Prop), (∀ a, a ∈ A → ∃ o, H a = some o) → IsV K cl (frz H A) H x p →
  wp (f p) (fun z => ∀ v H', Sub H H' → Is K cl (frz H' A) v z → Q v H') E → r x H Q
/-- a built-in on one view -/
def Bi1 (r : List V → Hp → VK → Prop) (f : PV → Res PV) : Prop := Op1 K cl (fun x H Q => r [x] H Q) f
def Bi2 (r : List V → Hp → VK → Prop) (f : PV → PV → Res PV) : Prop := Op2 K cl (fun x y H Q => r [x, y] H Q) f
end
section
variable {K : PySem.W.Frag} {cl : Str → Option Addr} {W : WX} {ρ : Ro} {σ : St} {H H' F : Hp} {A : List Addr} {t ta tb tc : TE} {m ma mb : Res PV} {f : PV → PV → Res PV} {r : R2}
theorem Is.view {v : V} {p : PV} (h : Is K cl F v p) (s : Sub F H) : IsV K cl F H v p := by
  cases h with
  | tup h r => exact .tup h r
  | lst h r => exact ⟨_, _, rfl, s _ _ h, r⟩
  | fls h r => exact .fls h r
  | dct h r => exact ⟨_, _, rfl, s _ _ h, r⟩
  | non => exact .non
  | bl b => exact .bl b
  | int i => exact .int i
  | str x => exact .str x
  | ty n => exact .ty n
  | ins c h r => exact .ins c h r
theorem IsV.mono {F' : Hp} {v : V} {p : PV} (h : IsV K cl F H v p) (s : Sub F F') (s2 : Sub H H') : IsV K cl F' H' v p := by
  cases p with
  | tup ps => exact Is.mono s h
  | lst ps => obtain ⟨a, vs, e, h, r⟩ := h; exact ⟨a, vs, e, s2 _ _ h, r.mono s⟩
  | fls ps => exact Is.mono s h
  | dct ps => obtain ⟨a, vs, e, h, r⟩ := h; exact ⟨a, vs, e, s2 _ _ h, r.mono s⟩
  | non => exact Is.mono s h
  | bl b => exact Is.mono s h
  | int i => exact Is.mono s h
  | str x => exact Is.mono s h
  | ty n => exact Is.mono s h
  | ins C fs => exact Is.mono s h
theorem new_frz (hA : ∀ a, a ∈ A → ∃ o, H a = some o) {p : Addr} (hp : H p = none) (o : HO) : frz (upd H p o) A p = some o := by
  refine frz_some.mpr ⟨fun z => ?_, upd_same⟩
  obtain ⟨u, e⟩ := hA _ z
  rw [hp] at e
  cases e
theorem frz_same (s : Sub H H') : Sub (frz H A) (frz H' A) := fun x o h => by
  obtain ⟨n, h⟩ := frz_some.mp h
  exact frz_some.mpr ⟨n, s _ _ h⟩
theorem new_lst (hA : ∀ a, a ∈ A → ∃ o, H a = some o) {p : Addr} (hp : H p = none) {vs : List V} {ps : List PV} (h : IsL K cl (frz H A) vs ps) : Is K cl (frz (upd H p (.lst vs)) A) (.ref p) (.lst ps) :=
  .lst (new_frz hA hp _) (h.mono (frz_same (sub_new hp _)))
theorem new_tup (hA : ∀ a, a ∈ A → ∃ o, H a = some o) {p : Addr} (hp : H p = none) {vs : List V} {ps : List PV} (h : IsL K cl (frz H A) vs ps) : Is K cl (frz (upd H p (.tup vs)) A) (.ref p) (.tup ps) :=
  .tup (.inl (.inl (new_frz hA hp _))) (h.mono (frz_same (sub_new hp _)))
theorem Pur.vw (h : Pur K cl W t ρ m) : Vw K cl W t ρ m := fun O bs σ H Q R q => h O bs σ H Q R (wp_mono q (fun r k v H' s i => k v H' s (i.view frz_sub)) fun _ z => z)
theorem XW.mono {c : Str} (h : XW cl W σ H c) (s : Sub H H') : XW cl W σ H' c := fun C H2 e s2 => h C H2 e (s.trans s2)
theorem pu_var {i : Nat} {p : PV} (h : ρ[i]? = some (.fz p)) : Pur K cl W (tVar i) ρ (.val p) := fun O bs σ H Q R q => by
  obtain ⟨x, e, v, rfl, hv⟩ := R.sl.get h
  exact ⟨v, e, q v H .refl hv⟩
theorem vw_own {i : Nat} {ps : List PV} (h : ρ[i]? = some (.ow (.lst ps))) : Vw K cl W (tVar i) ρ (.val (.lst ps)) := fun O bs σ H Q R q => by
  obtain ⟨x, e, a, rfl, vs, ha, hv⟩ := R.sl.get h
  exact ⟨_, e, q _ H .refl ⟨a, vs, rfl, ha, hv⟩⟩
theorem vw_ownd {i : Nat} {ps : List (Key × PV)} (h : ρ[i]? = some (.ow (.dct ps))) : Vw K cl W (tVar i) ρ (.val (.dct ps)) := fun O bs σ H Q R q => by
  obtain ⟨x, e, a, rfl, vs, ha, hv⟩ := R.sl.get h
  exact ⟨_, e, q _ H .refl ⟨a, vs, rfl, ha, hv⟩⟩
theorem vw_rf {i k : Nat} {ps : List PV} (h : ρ[i]? = some (.rf k (.lst ps))) : Vw K cl W (tVar i) ρ (.val (.lst ps)) := fun O bs σ H Q R q => by
  obtain ⟨x, e, a, rfl, _, vs, ha, hv⟩ := R.sl.get h
  exact ⟨_, e, q _ H .refl ⟨a, vs, rfl, ha, hv⟩⟩
theorem vw_rfd {i k : Nat} {ps : List (Key × PV)} (h : ρ[i]? = some (.rf k (.dct ps))) : Vw K cl W (tVar i) ρ (.val (.dct ps)) := fun O bs σ H Q R q => by
  obtain ⟨x, e, a, rfl, _, vs, ha, hv⟩ := R.sl.get h
  exact ⟨_, e, q _ H .refl ⟨a, vs, rfl, ha, hv⟩⟩
theorem pu_c {v : V} {p : PV} (h : ∀ F, Is K cl F v p) : Pur K cl W (tC v) ρ (.val p) := fun O bs σ H Q R q => q v H .refl (h _)
theorem pu_int {i : Int} : Pur K cl W (tC (.int i)) ρ (.val (.int i)) := pu_c fun _ => .int i
theorem pu_bl {i : Bool} : Pur K cl W (tC (.bl i)) ρ (.val (.bl i)) := pu_c fun _ => .bl i
theorem pu_str {i : Str} : Pur K cl W (tC (.str i)) ρ (.val (.str i)) := pu_c fun _ => .str i
theorem pu_non : Pur K cl W (tC .non) ρ (.val .non) := pu_c fun _ => .non
theorem pu_ty {n : String} : Pur K cl W (tC (.ty n)) ρ (.val (.ty n)) := pu_c fun _ => .ty n
theorem pu_op (ho : Op2 K cl r f) (ha : Vw K cl W ta ρ ma) (hb : Vw K cl W tb ρ mb) : Pur K cl W (tOp r ta tb) ρ (ma >>= fun x => mb >>= fun y => f x y) := fun O bs σ H Q R q => by
  refine ha O bs σ H _ R (wp_mono (wp_bind.mp q) (fun x qx v1 H1 s1 i1 => ?_) fun _ z => z)
  have R1 := R.same s1
  refine hb O bs σ H1 _ R1 (wp_mono (wp_bind.mp qx) (fun y qy v2 H2 s2 i2 => ?_) fun _ z => z.mono s1)
  have R2 := R1.same s2
  refine ho _ H2 v1 v2 x y _ _ (fun a h => R2.got h) (i1.mono (frz_same s2) s2) i2 (wp_mono qy (fun z qz v H' s iz => qz v H' ((s1.trans s2).trans s) iz) fun _ z => z)
theorem pu_un {r : V → Hp → VK → Prop} {f : PV → Res PV} (ho : Op1 K cl r f) (ha : Vw K cl W ta ρ ma) : Pur K cl W (tUn r ta) ρ (ma >>= f) := fun O bs σ H Q R q => by
  refine ha O bs σ H _ R (wp_mono (wp_bind.mp q) (fun x qx v1 H1 s1 i1 => ?_) fun _ z => z)
  exact ho _ H1 v1 x _ _ (fun a h => (R.same s1).got h) i1 (wp_mono qx (fun z qz v H' s iz => qz v H' (s1.trans s) iz) fun _ z => z)
/-- both bools known to be so -/
def asB : PV → Res Bool
  | .bl b => .val b
  | _ => .stuck
theorem isV_bl {v : V} {b : Bool} (h : IsV K cl F H v (.bl b)) : v = .bl b := by cases h; rfl
theorem isV_int {v : V} {b : Int} (h : IsV K cl F H v (.int b)) : v = .int b := by cases h; rfl
theorem wp_asB {p : PV} {Q : Bool → Prop} {E : Str → Prop} (h : wp (asB p) Q E) : ∃ b, p = .bl b ∧ Q b := by
  cases p with
  | bl b => exact ⟨b, rfl, h⟩
  | _ => exact h.elim
theorem ts_val (ha : Vw K cl W ta ρ ma) : Tst K cl W (tB ta) ρ (ma >>= asB) := fun O bs σ H Q R q => by
  refine ha O bs σ H _ R (wp_mono (wp_bind.mp q) (fun x qx v1 H1 s1 i1 => ?_) fun _ z => z)
  obtain ⟨b, rfl, qb⟩ := wp_asB qx
  exact ⟨b, isV_bl i1, qb H1 s1⟩
theorem ts_cmp (ha : Vw K cl W t ρ ma) : Tst K cl W (tTest t) ρ (ma >>= asB) := fun O bs σ H Q R q => by
  refine ha O bs σ H _ R (wp_mono (wp_bind.mp q) (fun x qx v1 H1 s1 i1 => ?_) fun _ z => z)
  obtain ⟨b, rfl, qb⟩ := wp_asB qx
  exact ⟨b, isV_bl i1, qb H1 s1⟩
variable {u w : TT} {mu mw : Res Bool}
theorem ts_and (hu : Tst K cl W u ρ mu) (hw : Tst K cl W w ρ mw) : Tst K cl W (tAnd u w) ρ (mu >>= fun b => if b = true then mw else .val false) := fun O bs σ H Q R q => by
  refine hu O bs σ H _ R (wp_mono (wp_bind.mp q) (fun b qb H1 s1 => ?_) fun _ z => z)
  cases b with
  | true => exact hw O bs σ H1 _ (R.same s1) (wp_mono qb (fun c qc H2 s2 => qc H2 (s1.trans s2)) fun _ z => z.mono s1)
  | false => exact qb H1 s1
theorem ts_or (hu : Tst K cl W u ρ mu) (hw : Tst K cl W w ρ mw) : Tst K cl W (tOr u w) ρ (mu >>= fun b => if b = true then .val true else mw) := fun O bs σ H Q R q => by
  refine hu O bs σ H _ R (wp_mono (wp_bind.mp q) (fun b qb H1 s1 => ?_) fun _ z => z)
  cases b with
  | false => exact hw O bs σ H1 _ (R.same s1) (wp_mono qb (fun c qc H2 s2 => qc H2 (s1.trans s2)) fun _ z => z.mono s1)
  | true => exact qb H1 s1
theorem ts_not (hu : Tst K cl W u ρ mu) : Tst K cl W (tNot u) ρ (mu >>= fun b => .val (!b)) := fun O bs σ H Q R q => by
  refine hu O bs σ H _ R (wp_mono (wp_bind.mp q) (fun b qb H1 s1 => qb H1 s1) fun _ z => z)
theorem pu_andV (ha : Vw K cl W ta ρ ma) (hb : Pur K cl W tb ρ mb) : Pur K cl W (tAndV ta tb) ρ (ma >>= asB >>= fun b => if b = true then mb else .val (.bl false)) := fun O bs σ H Q R q => by
  rw [wp_bind, wp_bind] at q
  refine ha O bs σ H _ R (wp_mono q (fun x qx v1 H1 s1 i1 => ?_) fun _ z => z)
  obtain ⟨b, rfl, qb⟩ := wp_asB qx
  refine ⟨b, isV_bl i1, ?_⟩
  cases b with
  | true => exact hb O bs σ H1 _ (R.same s1) (wp_mono qb (fun c qc v H2 s2 i => qc v H2 (s1.trans s2) i) fun _ z => z.mono s1)
  | false => exact qb _ H1 s1 (.bl false)
theorem pu_orV (ha : Vw K cl W ta ρ ma) (hb : Pur K cl W tb ρ mb) : Pur K cl W (tOrV ta tb) ρ (ma >>= asB >>= fun b => if b = true then .val (.bl true) else mb) := fun O bs σ H Q R q => by
  rw [wp_bind, wp_bind] at q
  refine ha O bs σ H _ R (wp_mono q (fun x qx v1 H1 s1 i1 => ?_) fun _ z => z)
  obtain ⟨b, rfl, qb⟩ := wp_asB qx
  refine ⟨b, isV_bl i1, ?_⟩
  cases b with
  | false => exact hb O bs σ H1 _ (R.same s1) (wp_mono qb (fun c qc v H2 s2 i => qc v H2 (s1.trans s2) i) fun _ z => z.mono s1)
  | true => exact qb _ H1 s1 (.bl true)
theorem pu_notV (ha : Vw K cl W ta ρ ma) : Pur K cl W (tNotV ta) ρ (ma >>= asB >>= fun b => .val (.bl (!b))) := fun O bs σ H Q R q => by
  rw [wp_bind, wp_bind] at q
  refine ha O bs σ H _ R (wp_mono q (fun x qx v1 H1 s1 i1 => ?_) fun _ z => z)
  obtain ⟨b, rfl, qb⟩ := wp_asB qx
  exact ⟨b, isV_bl i1, qb _ H1 s1 (.bl _)⟩
theorem pu_if (hu : Tst K cl W u ρ mu) (ha : Pur K cl W ta ρ ma) (hb : Pur K cl W tb ρ mb) : Pur K cl W (tIf u ta tb) ρ (mu >>= fun b => if b = true then ma else mb) := fun O bs σ H Q R q => by
  refine hu O bs σ H _ R (wp_mono (wp_bind.mp q) (fun b qb H1 s1 => ?_) fun _ z => z)
  cases b with
  | true => exact ha O bs σ H1 _ (R.same s1) (wp_mono qb (fun c qc v H2 s2 i => qc v H2 (s1.trans s2) i) fun _ z => z.mono s1)
  | false => exact hb O bs σ H1 _ (R.same s1) (wp_mono qb (fun c qc v H2 s2 i => qc v H2 (s1.trans s2) i) fun _ z => z.mono s1)
theorem pu_chain {r' : R2} {f' : PV → PV → Res PV} {mc : Res PV} (ho : Op2 K cl r f) (ho' : Op2 K cl r' f') (ha : Vw K cl W ta ρ ma) (hb : Vw K cl W tb ρ mb) (hc : Vw K cl W tc ρ mc) :
    Pur K cl W (tChain r r' ta tb tc) ρ (ma >>= fun x => mb >>= fun y => f x y >>= asB >>= fun b => if b = true then mc >>= fun z => f' y z else .val (.bl false)) := fun O bs σ H Q R q => by
  refine ha O bs σ H _ R (wp_mono (wp_bind.mp q) (fun x qx v1 H1 s1 i1 => ?_) fun _ z => z)
  have R1 := R.same s1
  refine hb O bs σ H1 _ R1 (wp_mono (wp_bind.mp qx) (fun y qy v2 H2 s2 i2 => ?_) fun _ z => z.mono s1)
  have R2 := R1.same s2
  rw [wp_bind, wp_bind] at qy
  refine ho _ H2 v1 v2 x y _ _ (fun a h => R2.got h) (i1.mono (frz_same s2) s2) i2 (wp_mono qy (fun z qz v3 H3 s3 i3 => ?_) fun _ z => z)
  obtain ⟨b, rfl, qb⟩ := wp_asB qz
  refine ⟨b, by cases i3; rfl, ?_⟩
  have s13 := (s1.trans s2).trans s3
  cases b with
  | false => exact qb _ H3 s13 (.bl false)
  | true =>
    have R3 := R2.same s3
    refine hc O bs σ H3 _ R3 (wp_mono (wp_bind.mp qb) (fun z qz v4 H4 s4 i4 => ?_) fun _ z => z.mono s13)
    exact ho' _ H4 v2 v4 y z _ _ (fun a h => (R3.same s4).got h) (i2.mono (frz_same (s3.trans s4)) (s3.trans s4)) i4 (wp_mono qz (fun z qz v H' s iz => qz v H' ((s13.trans s4).trans s) iz) fun _ z => z)
variable {tr : TA} {ml : Res (List PV)}
theorem pl_nil : PurL K cl W tNil ρ (.val []) := fun O bs σ H Q R q => q [] H .refl .nil
theorem pl_cons (ha : Pur K cl W ta ρ ma) (hl : PurL K cl W tr ρ ml) : PurL K cl W (tCons ta tr) ρ (ma >>= fun x => ml >>= fun xs => .val (x :: xs)) := fun O bs σ H Q R q => by
  refine ha O bs σ H _ R (wp_mono (wp_bind.mp q) (fun x qx v1 H1 s1 i1 => ?_) fun _ z => z)
  refine hl O bs σ H1 _ (R.same s1) (wp_mono (wp_bind.mp qx) (fun xs qs vs H2 s2 i2 => ?_) fun _ z => z.mono s1)
  exact qs _ H2 (s1.trans s2) (.cons (i1.mono (frz_same s2)) i2)
def asSq : PV → Res (List PV)
  | .tup ps => .val ps
  | .lst ps => .val ps
  | .fls ps => .val ps
  | _ => .stuck
theorem wp_asSq {p : PV} {v : V} {Q : List PV → Prop} {E : Str → Prop} (h : wp (asSq p) Q E) (i : IsV K cl F H v p) (s : Sub F H := by exact frz_sub) : ∃ a vs ps, v = .ref a ∧ (SqT K H a vs ∨ SqL K H a vs) ∧ IsL K cl F vs ps ∧ Q ps := by
  cases p with
  | tup ps => cases i with | tup h1 r => exact ⟨_, _, ps, rfl, .inl (s.sqT h1), r, h⟩
  | lst ps => obtain ⟨a, vs, e, h1, r⟩ := i; exact ⟨a, vs, ps, e, .inr (.inl (.inl h1)), r, h⟩
  | fls ps => cases i with | fls h1 r => exact ⟨_, _, ps, rfl, .inr (s.sqL h1), r, h⟩
  | _ => exact h.elim
theorem pl_star (ha : Vw K cl W ta ρ ma) (hl : PurL K cl W tr ρ ml) : PurL K cl W (StX.tStar K ta tr) ρ (ma >>= asSq >>= fun ys => ml >>= fun xs => .val (ys ++ xs)) := fun O bs σ H Q R q => by
  rw [wp_bind, wp_bind] at q
  refine ha O bs σ H _ R (wp_mono q (fun x qx v1 H1 s1 i1 => ?_) fun _ z => z)
  obtain ⟨a, vs, ps, rfl, hs, hl1, qp⟩ := wp_asSq qx i1
  refine ⟨a, vs, rfl, hs, hl O bs σ H1 _ (R.same s1) (wp_mono (wp_bind.mp qp) (fun xs qs vs H2 s2 i2 => ?_) fun _ z => z.mono s1)⟩
  exact qs _ H2 (s1.trans s2) ((hl1.mono (frz_same s2)).append i2)
def sized (n : Nat) : Res Unit := if n ≤ sizeLine then .val () else .stuck
theorem wp_sized {n : Nat} {Q : Unit → Prop} {E : Str → Prop} (h : wp (sized n) Q E) : n ≤ sizeLine ∧ Q () := by
  unfold sized at h
  by_cases c : n ≤ sizeLine
  · rw [if_pos c] at h; exact ⟨c, h⟩
  · rw [if_neg c] at h; exact h.elim
def mkT (ps : List PV) : Res PV := sized ps.length >>= fun _ => .val (.tup ps)
def mkL (ps : List PV) : Res PV := sized ps.length >>= fun _ => .val (.lst ps)
theorem pu_tup (hl : PurL K cl W tr ρ ml) : Pur K cl W (tTup tr) ρ (ml >>= mkT) := fun O bs σ H Q R q => by
  refine hl O bs σ H _ R (wp_mono (wp_bind.mp q) (fun ps qs vs H1 s1 i1 => ?_) fun _ z => z)
  obtain ⟨z, qs⟩ := wp_sized (wp_bind.mp qs)
  refine ⟨by rw [i1.len]; exact z, fun p hp => qs _ _ (s1.trans (sub_new hp _)) (new_tup (fun a h => (R.same s1).got h) hp i1)⟩
theorem pu_lst (hl : PurL K cl W tr ρ ml) : Pur K cl W (tLst tr) ρ (ml >>= mkL) := fun O bs σ H Q R q => by
  refine hl O bs σ H _ R (wp_mono (wp_bind.mp q) (fun ps qs vs H1 s1 i1 => ?_) fun _ z => z)
  obtain ⟨z, qs⟩ := wp_sized (wp_bind.mp qs)
  refine ⟨by rw [i1.len]; exact z, fun p hp => qs _ _ (s1.trans (sub_new hp _)) (new_lst (fun a h => (R.same s1).got h) hp i1)⟩
theorem pu_cb1 {r : List V → Hp → VK → Prop} {f : PV → Res PV} (ho : Bi1 K cl r f) (ha : Vw K cl W ta ρ ma) : Pur K cl W (tCB r (tCons ta tNil)) ρ (ma >>= f) := fun O bs σ H Q R q => by
  refine ha O bs σ H _ R (wp_mono (wp_bind.mp q) (fun x qx v1 H1 s1 i1 => ?_) fun _ z => z)
  exact ho _ H1 v1 x _ _ (fun a h => (R.same s1).got h) i1 (wp_mono qx (fun z qz v H' s iz => qz v H' (s1.trans s) iz) fun _ z => z)
theorem pu_cb2 {r : List V → Hp → VK → Prop} (ho : Bi2 K cl r f) (ha : Vw K cl W ta ρ ma) (hb : Vw K cl W tb ρ mb) : Pur K cl W (tCB r (tCons ta (tCons tb tNil))) ρ (ma >>= fun x => mb >>= fun y => f x y) :=
  pu_op (r := fun x y H Q => r [x, y] H Q) ho ha hb
end
/-! ### operations -/
section
variable {X : Cx} {f : Value → Value → Sem Value} {r1 r2 : R2}
def rOr (r1 r2 : R2) : R2 := fun x y H Q => r1 x y H Q ∨ r2 x y H Q
theorem OpR.or (h1 : OpR X f r1) (h2 : OpR X f r2) : OpR X f (rOr r1 r2) := fun pins s σ H x y v u Q I rx ry h => h.elim (h1 pins s σ H x y v u Q I rx ry) (h2 pins s σ H x y v u Q I rx ry)
theorem IxR.or (h1 : IxR X r1) (h2 : IxR X r2) : IxR X (rOr r1 r2) := fun va sl pins s σ H x y v u Q I rx ry h hs => h.elim (fun h => h1 va sl pins s σ H x y v u Q I rx ry h hs) (fun h => h2 va sl pins s σ H x y v u Q I rx ry h hs)
def cOr (r1 r2 : List V → Hp → VK → Prop) : List V → Hp → VK → Prop := fun xs H Q => r1 xs H Q ∨ r2 xs H Q
theorem CallR.or {f : Value} {r1 r2 : List V → Hp → VK → Prop} (h1 : CallR X f r1) (h2 : CallR X f r2) : CallR X f (cOr r1 r2) := fun pins s σ H xs us Q I r h => h.elim (h1 pins s σ H xs us Q I r) (h2 pins s σ H xs us Q I r)
def sOr (r1 r2 : V → Option Int → Option Int → Hp → VK → Prop) : V → Option Int → Option Int → Hp → VK → Prop := fun x l h H Q => r1 x l h H Q ∨ r2 x l h H Q
theorem SlR.or {r1 r2 : V → Option Int → Option Int → Hp → VK → Prop} (h1 : SlR X r1) (h2 : SlR X r2) : SlR X (sOr r1 r2) := fun pins s σ H x v vl vu lo hi sl Q I rx hs pl pu h => h.elim (h1 pins s σ H x v vl vu lo hi sl Q I rx hs pl pu) (h2 pins s σ H x v vl vu lo hi sl Q I rx hs pl pu)
end
section
variable {K : PySem.W.Frag} {cl : Str → Option Addr} {F H : Hp} {r r1 r2 : R2} {f g : PV → PV → Res PV}
def ints2 (g : Int → Int → Res PV) : PV → PV → Res PV
  | .int i, .int j => g i j
  | _, _ => .stuck
theorem o2_ints {g : Int → Int → Res PV} {r : R2} (h : ∀ (A : List Addr) (H : Hp) (i j : Int) (Q : VK) (E : Str → Prop), wp (g i j) (fun z => ∀ v H', Sub H H' → Is K cl (frz H' A) v z → Q v H') E → r (.int i) (.int j) H Q) : Op2 K cl r (ints2 g) := fun A H x y p q Q E hA ix iy w => by
  unfold ints2 at w
  split at w
  · cases isV_int ix
    cases isV_int iy
    exact h A H _ _ Q E w
  · exact w.elim
theorem o2_i0 {g : Int → Int → V} {k : Int → Int → PV} (h : ∀ i j F, Is K cl F (g i j) (k i j)) : Op2 K cl (rI0 g) (ints2 fun i j => .val (k i j)) := o2_ints fun A H i j Q E w => ⟨i, j, rfl, rfl, w _ H .refl (h i j _)⟩
theorem o2_i {C : Int → Int → Prop} [∀ i j, Decidable (C i j)] {g : Int → Int → V} {k : Int → Int → PV} (h : ∀ i j F, Is K cl F (g i j) (k i j)) : Op2 K cl (rI C g) (ints2 fun i j => if C i j then .val (k i j) else .stuck) := o2_ints fun A H i j Q E w => by
  by_cases c : C i j
  · rw [if_pos c] at w
    exact ⟨i, j, rfl, rfl, c, w _ H .refl (h i j _)⟩
  · rw [if_neg c] at w
    exact w.elim
/-- one rule or the other, by what the first mirror makes -/
def orS (f g : PV → PV → Res PV) : PV → PV → Res PV := fun x y => match f x y with
  | .stuck => g x y
  | z => z
theorem o2_or (h1 : Op2 K cl r1 f) (h2 : Op2 K cl r2 g) : Op2 K cl (rOr r1 r2) (orS f g) := fun A H x y p q Q E hA ix iy w => by
  unfold orS at w
  split at w
  · exact .inr (h2 A H x y p q Q E hA ix iy w)
  · exact .inl (h1 A H x y p q Q E hA ix iy w)
instance (i j : Int) : Decidable (CMul i j) := by unfold CMul; infer_instance
instance (i j : Int) : Decidable (CMulW i j) := by unfold CMulW; infer_instance
instance (i j : Int) : Decidable (CDivN i j) := by unfold CDivN; infer_instance
instance (i j : Int) : Decidable (CDivW i j) := by unfold CDivW; infer_instance
instance (i j : Int) : Decidable (CPow i j) := by unfold CPow; infer_instance
/-! +, -, *, //, %, **, shifts -/
def catS : PV → PV → Res PV
  | .str i, .str j => if i.length + j.length ≤ sizeLine then .val (.str (i ++ j)) else .stuck
  | _, _ => .stuck
def catL : PV → PV → Res PV
  | .lst i, .lst j => if i.length + j.length ≤ sizeLine then .val (.lst (i ++ j)) else .stuck
  | _, _ => .stuck
def catT : PV → PV → Res PV
  | .tup i, .tup j => if i.length + j.length ≤ sizeLine then .val (.tup (i ++ j)) else .stuck
  | _, _ => .stuck
theorem isV_str {v : V} {b : Str} (h : IsV K cl F H v (.str b)) : v = .str b := by cases h; rfl
theorem o2_catS : Op2 K cl (fun x y H Q => ∃ i j, x = .str i ∧ y = .str j ∧ i.length + j.length ≤ sizeLine ∧ Q (.str (i ++ j)) H) catS := fun A H x y p q Q E hA ix iy w => by
  unfold catS at w
  split at w
  · cases isV_str ix
    cases isV_str iy
    split at w
    · next c => exact ⟨_, _, rfl, rfl, c, w _ H .refl (.str _)⟩
    · exact w.elim
  · exact w.elim
theorem o2_catL : Op2 K cl rCat catL := fun A H x y p q Q E hA ix iy w => by
  unfold catL at w
  split at w
  · obtain ⟨a, vs, rfl, ha, la⟩ := ix
    obtain ⟨b, ws, rfl, hb, lb⟩ := iy
    split at w
    · next c =>
      rw [← la.len, ← lb.len] at c
      exact ⟨a, b, vs, ws, rfl, rfl, ha, hb, c, fun p hp => w _ _ (sub_new hp _) (new_lst hA hp (la.append lb))⟩
    · exact w.elim
  · exact w.elim
theorem o2_catT : Op2 K cl (rCatA K) catT := fun A H x y p q Q E hA ix iy w => by
  unfold catT at w
  split at w
  · cases ix with
    | tup h1 l1 =>
    cases iy with
    | tup h2 l2 =>
    split at w
    · next c =>
      rw [← l1.len, ← l2.len] at c
      refine ⟨_, _, _, _, rfl, rfl, frz_sub.sqT h1, frz_sub.sqT h2, c, fun e => ?_, fun _ e => ?_, fun _ _ p hp => w _ _ (sub_new hp _) (new_tup hA hp (l1.append l2))⟩
      · refine w _ H .refl (.tup h2 ?_)
        subst e
        cases l1
        exact l2
      · refine w _ H .refl (.tup h1 ?_)
        subst e
        cases l2
        rw [List.append_nil]
        exact l1
    · exact w.elim
  · exact w.elim
def addP : PV → PV → Res PV := orS (ints2 fun i j => .val (.int (i + j))) (orS catS (orS catL catT))
def rAddV (K : PySem.W.Frag) : R2 := rOr (rI0 fun i j => .int (i + j)) (rOr (fun x y H Q => ∃ i j, x = .str i ∧ y = .str j ∧ i.length + j.length ≤ sizeLine ∧ Q (.str (i ++ j)) H) (rOr rCat (rCatA K)))
theorem o2_add : Op2 K cl (rAddV K) addP := o2_or (o2_i0 fun _ _ _ => .int _) (o2_or o2_catS (o2_or o2_catL o2_catT))
theorem op_addV (K : PySem.W.Frag) {X : Cx} (e : X.K = K) : OpR X (binaryOp .Add) (rAddV K) := by
  subst e
  exact op_add.or (op_add_str.or (op_cat.or op_catA))
def subP : PV → PV → Res PV := ints2 fun i j => .val (.int (i - j))
theorem o2_sub : Op2 K cl (rI0 fun i j => .int (i - j)) subP := o2_i0 fun _ _ _ => .int _
def repL : PV → PV → Res PV
  | .lst xs, .int k => if -(2 ^ 63) ≤ k ∧ k < 2 ^ 63 ∧ xs.length * k.toNat ≤ sizeLine then .val (.lst (List.replicate k.toNat xs).flatten) else .stuck
  | _, _ => .stuck
theorem IsL.reps {vs : List V} {ps : List PV} (h : IsL K cl F vs ps) : ∀ n : Nat, IsL K cl F (List.replicate n vs).flatten (List.replicate n ps).flatten
  | 0 => .nil
  | n + 1 => by
    rw [List.replicate_succ, List.replicate_succ, List.flatten_cons, List.flatten_cons]
    exact h.append (h.reps n)
theorem o2_repL : Op2 K cl rRep repL := fun A H x y p q Q E hA ix iy w => by
  unfold repL at w
  split at w
  · obtain ⟨a, vs, rfl, ha, la⟩ := ix
    cases isV_int iy
    split at w
    · next c =>
      rw [← la.len] at c
      exact ⟨a, _, vs, rfl, rfl, ha, c.1, c.2.1, c.2.2, fun p hp => w _ _ (sub_new hp _) (new_lst hA hp (la.reps _))⟩
    · exact w.elim
  · exact w.elim
def mulI : PV → PV → Res PV := orS (ints2 fun i j => if CMul i j then .val (.int (i * j)) else .stuck) (ints2 fun i j => if CMulW i j then .val (.int (i * j)) else .stuck)
def mulP : PV → PV → Res PV := orS mulI repL
def rMulV : R2 := rOr (rOr (rI CMul fun i j => .int (i * j)) (rI CMulW fun i j => .int (i * j))) rRep
theorem o2_mul : Op2 K cl rMulV mulP := o2_or (o2_or (o2_i fun _ _ _ => .int _) (o2_i fun _ _ _ => .int _)) o2_repL
theorem op_mulV {X : Cx} : OpR X (binaryOp .Mult) rMulV := (op_mul.or op_mulW).or op_rep
def fdivP : PV → PV → Res PV := orS (ints2 fun i j => if CDivN i j then .val (.int (i.fdiv j)) else .stuck) (ints2 fun i j => if CDivW i j then .val (.int (i / j)) else .stuck)
def rFdivV : R2 := rOr (rI CDivN fun i j => .int (i.fdiv j)) (rI CDivW fun i j => .int (i / j))
theorem o2_fdiv : Op2 K cl rFdivV fdivP := o2_or (o2_i fun _ _ _ => .int _) (o2_i fun _ _ _ => .int _)
theorem op_fdivV {X : Cx} : OpR X (binaryOp .FloorDiv) rFdivV := op_fdivN.or op_fdivW
def modP : PV → PV → Res PV := ints2 fun i j => if j ≠ 0 then .val (.int (i.fmod j)) else .stuck
theorem o2_mod : Op2 K cl (rI (fun _ j => j ≠ 0) fun i j => .int (i.fmod j)) modP := o2_i (C := fun _ j => j ≠ 0) fun _ _ _ => .int _
def powP : PV → PV → Res PV := ints2 fun i j => if CPow i j then .val (.int (i ^ j.toNat)) else .stuck
theorem o2_pow : Op2 K cl (rI CPow fun i j => .int (i ^ j.toNat)) powP := o2_i fun _ _ _ => .int _
def shlP : PV → PV → Res PV := ints2 fun i j => if CPow i j then .val (.int (i * 2 ^ j.toNat)) else .stuck
theorem o2_shl : Op2 K cl (rI CPow fun i j => .int (i * 2 ^ j.toNat)) shlP := o2_i fun _ _ _ => .int _
def shrP : PV → PV → Res PV := ints2 fun i j => if 0 ≤ j then .val (.int (i / 2 ^ j.toNat)) else .stuck
theorem o2_shr : Op2 K cl (rI (fun _ j => 0 ≤ j) fun i j => .int (i / 2 ^ j.toNat)) shrP := o2_i (C := fun _ j => 0 ≤ j) fun _ _ _ => .int _
def negP : PV → Res PV
  | .int i => .val (.int (-i))
  | _ => .stuck
theorem o1_neg : Op1 K cl (rU fun i => .int (-i)) negP := fun A H x p Q E hA ix w => by
  unfold negP at w
  split at w
  · cases isV_int ix
    exact ⟨_, rfl, w _ H .refl (.int _)⟩
  · exact w.elim
/-! comparisons -/
def ltP : PV → PV → Res PV := ints2 fun i j => .val (.bl (decide (i < j)))
def leP : PV → PV → Res PV := ints2 fun i j => .val (.bl (decide (i ≤ j)))
def gtP : PV → PV → Res PV := ints2 fun i j => .val (.bl (decide (j < i)))
def geP : PV → PV → Res PV := ints2 fun i j => .val (.bl (decide (j ≤ i)))
theorem o2_lt : Op2 K cl (rI0 fun i j => .bl (decide (i < j))) ltP := o2_i0 fun _ _ _ => .bl _
theorem o2_le : Op2 K cl (rI0 fun i j => .bl (decide (i ≤ j))) leP := o2_i0 fun _ _ _ => .bl _
theorem o2_gt : Op2 K cl (rI0 fun i j => .bl (decide (j < i))) gtP := o2_i0 fun _ _ _ => .bl _
theorem o2_ge : Op2 K cl (rI0 fun i j => .bl (decide (j ≤ i))) geP := o2_i0 fun _ _ _ => .bl _
mutual
def toD : PV → Option PyData
  | .non => some .none
  | .bl b => some (.bool b)
  | .int i => some (.int i)
  | .str x => some (.str x)
  | .lst xs => (toDs xs).map .list
  | .tup xs => (toDs xs).map .tuple
  | .fls xs => (toDs xs).map .list
  | .ins _ _ => none
  | .dct _ => none
  | .ty _ => none
def toDs : List PV → Option (List PyData)
  | [] => some []
  | x :: xs => (toD x).bind fun d => (toDs xs).map fun ds => d :: ds
end
mutual
theorem Is.dp : ∀ {v : V} {p : PV} {d : PyData}, Is K cl F v p → toD p = some d → Dp K F v d
  | _, _, _, .non, e => by cases e; exact .non
  | _, _, _, .bl b, e => by cases e; exact .bl b
  | _, _, _, .int b, e => by cases e; exact .int b
  | _, _, _, .str b, e => by cases e; exact .str b
  | _, _, _, .ty n, e => by cases e
  | _, _, _, .ins _ _ _, e => by cases e
  | _, _, _, .dct _ _, e => by cases e
  | _, _, _, .tup h r, e => by
    unfold toD at e
    obtain ⟨ds, e1, rfl⟩ := Option.map_eq_some_iff.mp e
    exact .tup h (IsL.dp r e1)
  | _, _, _, .lst h r, e => by
    unfold toD at e
    obtain ⟨ds, e1, rfl⟩ := Option.map_eq_some_iff.mp e
    exact .lst (.inl (.inl h)) (IsL.dp r e1)
  | _, _, _, .fls h r, e => by
    unfold toD at e
    obtain ⟨ds, e1, rfl⟩ := Option.map_eq_some_iff.mp e
    exact .lst h (IsL.dp r e1)
theorem IsL.dp : ∀ {vs : List V} {ps : List PV} {ds : List PyData}, IsL K cl F vs ps → toDs ps = some ds → DpAll K F vs ds
  | _, _, _, .nil, e => by cases e; exact .nil
  | _, _, _, .cons a r, e => by
    unfold toDs at e
    obtain ⟨d, e1, e2⟩ := Option.bind_eq_some_iff.mp e
    obtain ⟨ds, e3, rfl⟩ := Option.map_eq_some_iff.mp e2
    exact .cons (Is.dp a e1) (IsL.dp r e3)
end
mutual
theorem dp_sub {F F' : Hp} (s : Sub F F') : ∀ {v : V} {d : PyData}, Dp K F v d → Dp K F' v d
  | _, _, .non => .non
  | _, _, .bl b => .bl b
  | _, _, .int b => .int b
  | _, _, .str b => .str b
  | _, _, .lst h r => .lst (s.sqL h) (dpall_sub s r)
  | _, _, .tup h r => .tup (s.sqT h) (dpall_sub s r)
theorem dpall_sub {F F' : Hp} (s : Sub F F') : ∀ {v : List V} {d : List PyData}, DpAll K F v d → DpAll K F' v d
  | _, _, .nil => .nil
  | _, _, .cons a r => .cons (dp_sub s a) (dpall_sub s r)
end
theorem IsV.dp {v : V} {p : PV} {d : PyData} (h : IsV K cl F H v p) (s : Sub F H) (e : toD p = some d) : Dp K H v d := by
  cases p with
  | lst ps =>
    obtain ⟨a, vs, rfl, h, r⟩ := h
    unfold toD at e
    obtain ⟨ds, e1, rfl⟩ := Option.map_eq_some_iff.mp e
    exact .lst (.inl (.inl h)) (dpall_sub s (r.dp e1))
  | dct ps => cases e
  | tup ps => exact dp_sub s (Is.dp (K := K) (cl := cl) (F := F) h e)
  | fls ps => exact dp_sub s (Is.dp (K := K) (cl := cl) (F := F) h e)
  | non => exact dp_sub s (Is.dp (K := K) (cl := cl) (F := F) h e)
  | bl b => exact dp_sub s (Is.dp (K := K) (cl := cl) (F := F) h e)
  | int i => exact dp_sub s (Is.dp (K := K) (cl := cl) (F := F) h e)
  | str x => exact dp_sub s (Is.dp (K := K) (cl := cl) (F := F) h e)
  | ty n => exact dp_sub s (Is.dp (K := K) (cl := cl) (F := F) h e)
  | ins C fs => exact dp_sub s (Is.dp (K := K) (cl := cl) (F := F) h e)
def eqB (p q : PV) : Option Bool := (toD p).bind fun d => (toD q).bind fun e => if SeqAt.shaped d = true ∧ SeqAt.shaped e = true then some (PyData.eqv d e) else none
def eqP (p q : PV) : Res PV := match eqB p q with
  | some b => .val (.bl b)
  | none => .stuck
def neP (p q : PV) : Res PV := match eqB p q with
  | some b => .val (.bl (!b))
  | none => .stuck
theorem eqB_some {p q : PV} {b : Bool} (h : eqB p q = some b) : ∃ d e, toD p = some d ∧ toD q = some e ∧ SeqAt.shaped d = true ∧ SeqAt.shaped e = true ∧ b = PyData.eqv d e := by
  unfold eqB at h
  obtain ⟨d, e1, h⟩ := Option.bind_eq_some_iff.mp h
  obtain ⟨e, e2, h⟩ := Option.bind_eq_some_iff.mp h
  split at h
  · next c => exact ⟨d, e, e1, e2, c.1, c.2, (Option.some.inj h).symm⟩
  · cases h
theorem o2_eq : Op2 K cl (rEqD K) eqP := fun A H x y p q Q E hA ix iy w => by
  unfold eqP at w
  split at w
  · next b h =>
    obtain ⟨d, e, e1, e2, s1, s2, rfl⟩ := eqB_some h
    exact ⟨d, e, ix.dp frz_sub e1, iy.dp frz_sub e2, s1, s2, w _ H .refl (.bl _)⟩
  · exact w.elim
theorem o2_ne : Op2 K cl (rNeD K) neP := fun A H x y p q Q E hA ix iy w => by
  unfold neP at w
  split at w
  · next b h =>
    obtain ⟨d, e, e1, e2, s1, s2, rfl⟩ := eqB_some h
    exact ⟨d, e, ix.dp frz_sub e1, iy.dp frz_sub e2, s1, s2, w _ H .refl (.bl _)⟩
  · exact w.elim
def isNo : PV → Bool
  | .non => true
  | _ => false
theorem is_non {v : V} {p : PV} (h : Is K cl F v p) : decide (v = .non) = isNo p := by cases h <;> rfl
theorem isV_non {v : V} {p : PV} (h : IsV K cl F H v p) : decide (v = .non) = isNo p := by
  cases p with
  | lst ps => obtain ⟨a, vs, rfl, _⟩ := h; rfl
  | dct ps => obtain ⟨a, vs, rfl, _⟩ := h; rfl
  | _ => exact is_non (K := K) (cl := cl) (F := F) h
def isP : PV → PV → Res PV
  | p, .non => .val (.bl (isNo p))
  | _, _ => .stuck
def isnP : PV → PV → Res PV
  | p, .non => .val (.bl (!isNo p))
  | _, _ => .stuck
theorem o2_is : Op2 K cl (fun x y H Q => y = .non ∧ Q (.bl (decide (x = .non))) H) isP := fun A H x y p q Q E hA ix iy w => by
  unfold isP at w
  split at w
  · cases iy
    exact ⟨rfl, w _ H .refl (by rw [isV_non ix]; exact .bl _)⟩
  · exact w.elim
theorem o2_isn : Op2 K cl (fun x y H Q => y = .non ∧ Q (.bl (!decide (x = .non))) H) isnP := fun A H x y p q Q E hA ix iy w => by
  unfold isnP at w
  split at w
  · cases iy
    exact ⟨rfl, w _ H .refl (by rw [isV_non ix]; exact .bl _)⟩
  · exact w.elim
/-! items -/
def ixP : PV → PV → Res PV
  | .lst xs, .int i => match atI xs i with | some p => .val p | none => .stuck
  | .tup xs, .int i => match atI xs i with | some p => .val p | none => .stuck
  | .fls xs, .int i => match atI xs i with | some p => .val p | none => .stuck
  | _, _ => .stuck
def rIxV (K : PySem.W.Frag) : R2 := rOr (rIxL K) (rIxT K)
theorem ix_V {X : Cx} : IxR X (rIxV X.K) := ix_list.or ix_tup
theorem ix_VK (K : PySem.W.Frag) {X : Cx} (e : X.K = K) : IxR X (rIxV K) := by subst e; exact ix_V
theorem IsL.atI {vs : List V} {ps : List PV} {i : Int} {p : PV} (h : IsL K cl F vs ps) (e : atI ps i = some p) : ∃ v, atI vs i = some v ∧ Is K cl F v p := by
  unfold L2.atI at e ⊢
  rw [h.len]
  cases c : ixN ps.length i with
  | none => rw [c] at e; cases e
  | some j =>
    rw [c] at e
    exact h.get e
theorem o2_ix : Op2 K cl (rIxV K) ixP := fun A H x y p q Q E hA ix iy w => by
  unfold ixP at w
  split at w
  · obtain ⟨a, vs, rfl, ha, la⟩ := ix
    cases isV_int iy
    split at w
    · next c =>
      obtain ⟨v, e, i⟩ := la.atI c
      exact .inl ⟨a, vs, _, v, rfl, rfl, .inl (.inl ha), e, w v H .refl i⟩
    · exact w.elim
  · cases ix with
    | tup ha la =>
    cases isV_int iy
    split at w
    · next c =>
      obtain ⟨v, e, i⟩ := la.atI c
      exact .inr ⟨_, _, _, v, rfl, rfl, frz_sub.sqT ha, e, w v H .refl i⟩
    · exact w.elim
  · cases ix with
    | fls ha la =>
    cases isV_int iy
    split at w
    · next c =>
      obtain ⟨v, e, i⟩ := la.atI c
      exact .inl ⟨_, _, _, v, rfl, rfl, frz_sub.sqL ha, e, w v H .refl i⟩
    · exact w.elim
  · exact w.elim
/-! x in xs: flat things only -/
def flatP : PV → Option V
  | .non => some .non
  | .bl b => some (.bl b)
  | .int i => some (.int i)
  | .str x => some (.str x)
  | _ => none
def flatsP : List PV → Option (List V)
  | [] => some []
  | x :: xs => (flatP x).bind fun v => (flatsP xs).map fun vs => v :: vs
theorem flatP_is {v w : V} {p : PV} (h : Is K cl F v p) (e : flatP p = some w) : v = w ∧ flatV v = true := by
  cases h <;> cases e <;> exact ⟨rfl, rfl⟩
theorem isV_flat {v w : V} {p : PV} (h : IsV K cl F H v p) (e : flatP p = some w) : v = w ∧ flatV v = true := by
  cases p with
  | non => exact flatP_is (K := K) (cl := cl) (F := F) h e
  | bl b => exact flatP_is (K := K) (cl := cl) (F := F) h e
  | int i => exact flatP_is (K := K) (cl := cl) (F := F) h e
  | str x => exact flatP_is (K := K) (cl := cl) (F := F) h e
  | tup ps => cases e
  | lst ps => cases e
  | fls ps => cases e
  | dct ps => cases e
  | ty n => cases e
  | ins C fs => cases e
theorem flatsP_is : ∀ {vs : List V} {ps : List PV} {ws : List V}, IsL K cl F vs ps → flatsP ps = some ws → vs = ws ∧ vs.all flatV = true
  | _, _, _, .nil, e => by cases e; exact ⟨rfl, rfl⟩
  | _, _, _, .cons a r, e => by
    unfold flatsP at e
    obtain ⟨d, e1, e2⟩ := Option.bind_eq_some_iff.mp e
    obtain ⟨ds, e3, rfl⟩ := Option.map_eq_some_iff.mp e2
    obtain ⟨rfl, c1⟩ := flatP_is a e1
    obtain ⟨rfl, c2⟩ := flatsP_is r e3
    exact ⟨rfl, by rw [List.all_cons, c1, c2]; rfl⟩
def inP (neg : Bool) (p q : PV) : Res PV := asSq q >>= fun qs => match flatP p, flatsP qs with
  | some v, some vs => .val (.bl (if neg then !inV v vs else inV v vs))
  | _, _ => .stuck
theorem o2_in {neg : Bool} : Op2 K cl (rIn K neg) (inP neg) := fun A H x y p q Q E hA ix iy w => by
  unfold inP at w
  obtain ⟨a, vs, ps, rfl, hs, hl, w⟩ := wp_asSq (wp_bind.mp w) iy
  split at w
  · next v ws e1 e2 =>
    obtain ⟨rfl, c1⟩ := isV_flat ix e1
    obtain ⟨rfl, c2⟩ := flatsP_is hl e2
    exact ⟨a, vs, rfl, hs.symm, c1, c2, w _ H .refl (.bl _)⟩
  · exact w.elim
/-! built-ins -/
def lenP (p : PV) : Res PV := match p with
  | .str z => if z.length ≤ sizeLine then .val (.int z.length) else .stuck
  | .dct kvs => .val (.int kvs.length)
  | p => asSq p >>= fun ps => .val (.int ps.length)
def rLenS (K : PySem.W.Frag) : List V → Hp → VK → Prop := fun xs H Q => ∃ p ys, xs = [.ref p] ∧ (SqL K H p ys ∨ SqT K H p ys) ∧ Q (.int ys.length) H
def rLenV (K : PySem.W.Frag) : List V → Hp → VK → Prop := cOr (rLenS K) (cOr (fun xs H Q => ∃ z, xs = [.str z] ∧ z.length ≤ sizeLine ∧ Q (.int z.length) H) (fun xs H Q => ∃ a kvs, xs = [V.ref a] ∧ H a = some (.dK kvs) ∧ Q (.int kvs.length) H))
theorem call_lenV {X : Cx} : CallR X (.builtin "len") (rLenV X.K) := call_len_seq.or (call_len_str.or call_lenD)
theorem call_lenVK (K : PySem.W.Frag) {X : Cx} (e : X.K = K) : CallR X (.builtin "len") (rLenV K) := by subst e; exact call_lenV
theorem b1_len : Bi1 K cl (rLenV K) lenP := fun A H x p Q E hA ix w => by
  unfold lenP at w
  split at w
  · cases isV_str ix
    split at w
    · next c => exact .inr (.inl ⟨_, rfl, c, w _ H .refl (.int _)⟩)
    · exact w.elim
  · obtain ⟨a, vs, rfl, ha, la⟩ := ix
    exact .inr (.inr ⟨a, vs, rfl, ha, by rw [la.len]; exact w _ H .refl (.int _)⟩)
  · obtain ⟨a, vs, ps, rfl, hs, hl, w⟩ := wp_asSq (wp_bind.mp w) ix
    exact .inl ⟨a, vs, rfl, hs.symm, by rw [hl.len]; exact w _ H .refl (.int _)⟩
def listP (p : PV) : Res PV := asSq p >>= fun ps => .val (.lst ps)
def rListV (K : PySem.W.Frag) : List V → Hp → VK → Prop := fun xs H Q => ∃ p ys, xs = [.ref p] ∧ (SqL K H p ys ∨ SqT K H p ys) ∧ ∀ l, H l = none → Q (.ref l) (upd H l (.lst ys))
theorem call_listV (K : PySem.W.Frag) {X : Cx} (e : X.K = K) : CallR X (.type "list") (rListV K) := by subst e; exact call_list_of
theorem b1_list : Bi1 K cl (rListV K) listP := fun A H x p Q E hA ix w => by
  obtain ⟨a, vs, ps, rfl, hs, hl, w⟩ := wp_asSq (wp_bind.mp w) ix
  exact ⟨a, vs, rfl, hs.symm, fun l hl' => w _ _ (sub_new hl' _) (new_lst hA hl' hl)⟩
def tupleP (p : PV) : Res PV := asSq p >>= fun ps => .val (.tup ps)
def rTupleV (K : PySem.W.Frag) : List V → Hp → VK → Prop := fun xs H Q => ∃ p ys, xs = [.ref p] ∧ ((SqL K H p ys ∧ ∀ l, H l = none → Q (.ref l) (upd H l (.tup ys))) ∨ (SqT K H p ys ∧ Q (.ref p) H))
theorem call_tupleV (K : PySem.W.Frag) {X : Cx} (e : X.K = K) : CallR X (.type "tuple") (rTupleV K) := by subst e; exact call_tuple_of
theorem b1_tuple : Bi1 K cl (rTupleV K) tupleP := fun A H x p Q E hA ix w => by
  cases p with
  | tup ps =>
    cases ix with
    | tup h r => exact ⟨_, _, rfl, .inr ⟨frz_sub.sqT h, w _ H .refl (.tup h r)⟩⟩
  | lst ps =>
    obtain ⟨a, vs, rfl, h, r⟩ := ix
    exact ⟨a, vs, rfl, .inl ⟨.inl (.inl h), fun l hl => w _ _ (sub_new hl _) (new_tup hA hl r)⟩⟩
  | fls ps =>
    cases ix with
    | fls h r => exact ⟨_, _, rfl, .inl ⟨frz_sub.sqL h, fun l hl => w _ _ (sub_new hl _) (new_tup hA hl r)⟩⟩
  | _ => exact w.elim
/-! int, bool, abs, sum, all, any, isinstance -/
def intP : PV → Res PV
  | .int i => .val (.int i)
  | .bl b => .val (.int (if b then 1 else 0))
  | _ => .stuck
def rIntV : List V → Hp → VK → Prop := fun xs H Q => (∃ i, xs = [.int i] ∧ Q (.int i) H) ∨ ∃ k, xs = [.bl k] ∧ Q (.int (if k then 1 else 0)) H
theorem b1_int : Bi1 K cl rIntV intP := fun A H x p Q E hA ix w => by
  unfold intP at w
  split at w
  · cases isV_int ix; exact .inl ⟨_, rfl, w _ H .refl (.int _)⟩
  · cases isV_bl ix; exact .inr ⟨_, rfl, w _ H .refl (.int _)⟩
  · exact w.elim
def boolP : PV → Res PV
  | .int i => .val (.bl (i != 0))
  | .bl b => .val (.bl b)
  | _ => .stuck
def rBoolV : List V → Hp → VK → Prop := fun xs H Q => (∃ i, xs = [.int i] ∧ Q (.bl (i != 0)) H) ∨ ∃ k, xs = [.bl k] ∧ Q (.bl k) H
theorem b1_bool : Bi1 K cl rBoolV boolP := fun A H x p Q E hA ix w => by
  unfold boolP at w
  split at w
  · cases isV_int ix; exact .inl ⟨_, rfl, w _ H .refl (.bl _)⟩
  · cases isV_bl ix; exact .inr ⟨_, rfl, w _ H .refl (.bl _)⟩
  · exact w.elim
def absP : PV → Res PV
  | .int i => .val (.int (if i < 0 then -i else i))
  | _ => .stuck
theorem b1_abs : Bi1 K cl (fun xs H Q => ∃ i, xs = [.int i] ∧ Q (.int (if i < 0 then -i else i)) H) absP := fun A H x p Q E hA ix w => by
  unfold absP at w
  split at w
  · cases isV_int ix; exact ⟨_, rfl, w _ H .refl (.int _)⟩
  · exact w.elim
def maxP : PV → PV → Res PV := ints2 fun i j => .val (.int (if j > i then j else i))
theorem b2_max : Bi2 K cl (fun xs H Q => ∃ i j, xs = [.int i, .int j] ∧ Q (.int (if j > i then j else i)) H) maxP := o2_ints fun A H i j Q E w => ⟨i, j, rfl, w _ H .refl (.int _)⟩
def minP : PV → PV → Res PV := ints2 fun i j => .val (.int (if j < i then j else i))
theorem b2_min : Bi2 K cl (fun xs H Q => ∃ i j, xs = [.int i, .int j] ∧ Q (.int (if j < i then j else i)) H) minP := o2_ints fun A H i j Q E w => ⟨i, j, rfl, w _ H .refl (.int _)⟩
def allI : List PV → Option (List Int)
  | [] => some []
  | .int i :: r => (allI r).map fun is => i :: is
  | _ :: _ => none
theorem allI_eq : ∀ {ps : List PV} {is : List Int}, allI ps = some is → ps = is.map PV.int
  | [], _, e => by cases e; rfl
  | p :: r, is, e => by
    cases p with
    | int i =>
      obtain ⟨js, e1, rfl⟩ := Option.map_eq_some_iff.mp (show (allI r).map (fun is => i :: is) = some is from e)
      rw [allI_eq e1]
      rfl
    | _ => cases e
theorem allI_map : ∀ is : List Int, allI (is.map PV.int) = some is
  | [] => rfl
  | i :: is => by
    show (allI (is.map PV.int)).map (fun js => i :: js) = _
    rw [allI_map is]
    rfl
def allB : List PV → Option (List Bool)
  | [] => some []
  | .bl i :: r => (allB r).map fun is => i :: is
  | _ :: _ => none
theorem allB_eq : ∀ {ps : List PV} {is : List Bool}, allB ps = some is → ps = is.map PV.bl
  | [], _, e => by cases e; rfl
  | p :: r, is, e => by
    cases p with
    | bl i =>
      obtain ⟨js, e1, rfl⟩ := Option.map_eq_some_iff.mp (show (allB r).map (fun is => i :: is) = some is from e)
      rw [allB_eq e1]
      rfl
    | _ => cases e
theorem allB_map : ∀ is : List Bool, allB (is.map PV.bl) = some is
  | [] => rfl
  | i :: is => by
    show (allB (is.map PV.bl)).map (fun js => i :: js) = _
    rw [allB_map is]
    rfl
def asLi : PV → Res (List PV)
  | .lst ps => .val ps
  | .fls ps => .val ps
  | _ => .stuck
theorem wp_asLi {p : PV} {v : V} {Q : List PV → Prop} {E : Str → Prop} (h : wp (asLi p) Q E) (i : IsV K cl F H v p) (s : Sub F H := by exact frz_sub) : ∃ a vs ps, v = .ref a ∧ SqL K H a vs ∧ IsL K cl F vs ps ∧ Q ps := by
  cases p with
  | lst ps => obtain ⟨a, vs, e, h1, r⟩ := i; exact ⟨a, vs, ps, e, .inl (.inl h1), r, h⟩
  | fls ps => cases i with | fls h1 r => exact ⟨_, _, ps, rfl, s.sqL h1, r, h⟩
  | _ => exact h.elim
def sumP (p : PV) : Res PV := asLi p >>= fun ps => match allI ps with
  | some is => .val (.int is.sum)
  | none => .stuck
theorem b1_sum : Bi1 K cl (rSum K) sumP := fun A H x p Q E hA ix w => by
  obtain ⟨a, vs, ps, rfl, hs, hl, w⟩ := wp_asLi (wp_bind.mp w) ix
  split at w
  · next is e =>
    cases allI_eq e
    cases hl.ints
    exact ⟨a, is, rfl, hs, w _ H .refl (.int _)⟩
  · exact w.elim
def allP (p : PV) : Res PV := asLi p >>= fun ps => match allB ps with
  | some is => .val (.bl (is.all id))
  | none => .stuck
theorem b1_all : Bi1 K cl (rAll K) allP := fun A H x p Q E hA ix w => by
  obtain ⟨a, vs, ps, rfl, hs, hl, w⟩ := wp_asLi (wp_bind.mp w) ix
  split at w
  · next is e =>
    cases allB_eq e
    cases hl.bls
    exact ⟨a, is, rfl, hs, w _ H .refl (.bl _)⟩
  · exact w.elim
def anyP (p : PV) : Res PV := asLi p >>= fun ps => match allB ps with
  | some is => .val (.bl (is.any id))
  | none => .stuck
theorem b1_any : Bi1 K cl (rAny K) anyP := fun A H x p Q E hA ix w => by
  obtain ⟨a, vs, ps, rfl, hs, hl, w⟩ := wp_asLi (wp_bind.mp w) ix
  split at w
  · next is e =>
    cases allB_eq e
    cases hl.bls
    exact ⟨a, is, rfl, hs, w _ H .refl (.bl _)⟩
  · exact w.elim
def tyNm : PV → Option String
  | .non => some "NoneType"
  | .bl _ => some "bool"
  | .int _ => some "int"
  | .str _ => some "str"
  | .tup _ => some "tuple"
  | .lst _ => some "list"
  | .dct _ => some "dict"
  | _ => none
def isiP : PV → PV → Res PV
  | p, .ty T => match (tyNm p).bind fun n => kitB n T with
    | some b => .val (.bl b)
    | none => .stuck
  | _, _ => .stuck
theorem isV_ty {v : V} {p : PV} {n : String} (h : IsV K cl F H v p) (s : Sub F H) (e : tyNm p = some n) : TyX K H v (.type n) := by
  cases p with
  | lst ps => obtain ⟨a, vs, rfl, h, _⟩ := h; cases e; exact .base (.lst h)
  | dct ps => obtain ⟨a, vs, rfl, h, _⟩ := h; cases e; exact .base (.dK h)
  | non => cases h; cases e; exact .base .non
  | bl b => cases h; cases e; exact .base (.bl b)
  | int b => cases h; cases e; exact .base (.int b)
  | str b => cases h; cases e; exact .base (.str b)
  | tup ps =>
    cases h with
    | tup h _ =>
      cases e
      rcases s.sqT h with (h | ⟨o, h⟩) | ⟨o, its, n, h, c, _⟩
      · exact .base (.tup h)
      · exact .fTuple h
      · exact .kTuple h c
  | fls ps => cases e
  | ty m => cases e
  | ins C fs => cases e
theorem b2_isi : Bi2 K cl (rIsi K) isiP := fun A H x y p q Q E hA ix iy w => by
  unfold isiP at w
  split at w
  · next T =>
    cases iy
    split at w
    · next b e =>
      obtain ⟨n, e1, e2⟩ := Option.bind_eq_some_iff.mp e
      exact ⟨x, .ty T, .type n, .type T, b, rfl, .ty _, isV_ty ix frz_sub e1, kit_ty e2, w _ H .refl (.bl _)⟩
    · exact w.elim
  · exact w.elim
end
/-! ### statements -/
inductive Fl (S L : Type) where
  | nx (s : S) | rt (v : PV) (r : List MO) | ro (mo : MO) (r : List MO) | bk (l : L) | ct (l : L)
/-- forgetting a slot, freezing a slot -/
inductive Wk : Ro → Ro → Prop
  | nil : Wk [] []
  | keep {s : Slot} {ρ ρ' : Ro} : Wk ρ ρ' → Wk (s :: ρ) (s :: ρ')
  | drop {s : Slot} {ρ ρ' : Ro} : Wk ρ ρ' → Wk (s :: ρ) (.un :: ρ')
  | ice {ps : List PV} {ρ ρ' : Ro} : Wk ρ ρ' → Wk (.ow (.lst ps) :: ρ) (.fz (.lst ps) :: ρ')
  | iced {ps : List (Key × PV)} {ρ ρ' : Ro} : Wk ρ ρ' → Wk (.ow (.dct ps) :: ρ) (.fz (.dct ps) :: ρ')
theorem Wk.refl : ∀ ρ : Ro, Wk ρ ρ
  | [] => .nil
  | _ :: ρ => .keep (Wk.refl ρ)
theorem adr_cons {s : Slot} {x : Option V} {ρ : Ro} {σ : St} {a : Addr} (h : a ∈ adr ρ σ) : a ∈ adr (s :: ρ) (x :: σ) := by
  cases s with
  | un => exact h
  | fz p => exact h
  | ow m =>
    cases x with
    | none => exact h
    | some v => cases v <;> first | exact h | exact List.mem_cons_of_mem _ h
  | rf k m =>
    cases x with
    | none => exact h
    | some v => cases v <;> first | exact h | exact List.mem_cons_of_mem _ h
section
variable {K : PySem.W.Frag} {cl : Str → Option Addr} {W : WX} {bs O : List Addr} {F H H' : Hp} {ρ ρ' : Ro} {σ : St}
theorem Wk.adr (w : Wk ρ ρ') : ∀ {σ : St}, (adr ρ' σ).Sublist (adr ρ σ) ∧ (owa ρ' σ).Sublist (owa ρ σ) := by
  induction w with
  | nil => intro σ; exact ⟨by cases σ <;> exact .slnil, by cases σ <;> exact .slnil⟩
  | @keep s ρ ρ' w ih =>
    intro σ
    cases σ with
    | nil => cases s <;> exact ⟨.slnil, .slnil⟩
    | cons x σ =>
      cases s with
      | un => exact ih
      | fz p => exact ih
      | ow m =>
        cases x with
        | none => exact ih
        | some v => cases v <;> first | exact ih | exact ⟨.cons_cons _ ih.1, .cons_cons _ ih.2⟩
      | rf k m =>
        cases x with
        | none => exact ih
        | some v => cases v <;> first | exact ih | exact ⟨.cons_cons _ ih.1, ih.2⟩
  | @drop s ρ ρ' w ih =>
    intro σ
    cases σ with
    | nil => cases s <;> exact ⟨.slnil, .slnil⟩
    | cons x σ =>
      cases s with
      | un => exact ih
      | fz p => exact ih
      | ow m =>
        cases x with
        | none => exact ih
        | some v => cases v <;> first | exact ih | exact ⟨.cons _ ih.1, .cons _ ih.2⟩
      | rf k m =>
        cases x with
        | none => exact ih
        | some v => cases v <;> first | exact ih | exact ⟨.cons _ ih.1, ih.2⟩
  | ice w ih =>
    intro σ
    cases σ with
    | nil => exact ⟨.slnil, .slnil⟩
    | cons x σ =>
      cases x with
      | none => exact ih
      | some v => cases v <;> first | exact ih | exact ⟨.cons _ ih.1, .cons _ ih.2⟩
  | iced w ih =>
    intro σ
    cases σ with
    | nil => exact ⟨.slnil, .slnil⟩
    | cons x σ =>
      cases x with
      | none => exact ih
      | some v => cases v <;> first | exact ih | exact ⟨.cons _ ih.1, .cons _ ih.2⟩
theorem frz_less {H : Hp} {A A' : List Addr} (h : ∀ a, a ∈ A' → a ∈ A) : Sub (frz H A) (frz H A') := fun x o e => by
  obtain ⟨n, e⟩ := frz_some.mp e
  exact frz_some.mpr ⟨fun z => n (h _ z), e⟩
theorem owa_sub : ∀ {ρ : Ro} {σ : St} {a : Addr}, a ∈ owa ρ σ → a ∈ adr ρ σ
  | [], σ, a, h => by cases σ <;> cases h
  | s :: ρ, [], a, h => by cases s <;> cases h
  | s :: ρ, x :: σ, a, h => by
    cases s with
    | un => exact owa_sub (ρ := ρ) h
    | fz p => exact owa_sub (ρ := ρ) h
    | rf k m => exact adr_cons (owa_sub (ρ := ρ) (by cases x with | none => exact h | some v => cases v <;> exact h))
    | ow m =>
      cases x with
      | none => exact owa_sub (ρ := ρ) h
      | some v =>
        cases v with
        | ref b =>
          rcases List.mem_cons.mp h with e | e
          · rw [e]; exact List.mem_cons_self
          · exact List.mem_cons_of_mem _ (owa_sub e)
        | _ => exact owa_sub (ρ := ρ) h
theorem RelS.wk (w : Wk ρ ρ') : ∀ {σ : St} {F F' : Hp}, Sub F F' → (adr ρ σ).Nodup → (∀ a, a ∈ owa ρ σ → a ∉ adr ρ' σ → ∀ o, H a = some o → F' a = some o) → RelS K cl bs F H ρ σ → RelS K cl bs F' H ρ' σ := by
  induction w with
  | nil => intro σ F F' s nd g r; cases r; exact .nil
  | @keep s ρ ρ' w ih =>
    intro σ F F' sF nd g r
    cases r with
    | @cons _ x _ σ a r =>
      refine .cons (a.mono sF fun _ _ _ h => h) ?_
      cases s with
      | un => exact ih sF nd g r
      | fz p => exact ih sF nd g r
      | ow m =>
        obtain ⟨b, rfl, _⟩ := a
        obtain ⟨n1, nd⟩ := List.nodup_cons.mp nd
        refine ih sF nd (fun a ha na => g a (List.mem_cons_of_mem _ ha) fun z => ?_) r
        rcases List.mem_cons.mp z with e | e
        · exact n1 (e ▸ owa_sub ha)
        · exact na e
      | rf k m =>
        obtain ⟨b, rfl, _⟩ := a
        obtain ⟨n1, nd⟩ := List.nodup_cons.mp nd
        refine ih sF nd (fun a ha na => g a ha fun z => ?_) r
        rcases List.mem_cons.mp z with e | e
        · exact n1 (e ▸ owa_sub ha)
        · exact na e
  | @drop s ρ ρ' w ih =>
    intro σ F F' sF nd g r
    cases r with
    | @cons _ x _ σ a r =>
      refine .cons trivial ?_
      cases s with
      | un => exact ih sF nd g r
      | fz p => exact ih sF nd g r
      | ow m =>
        obtain ⟨b, rfl, _⟩ := a
        exact ih sF (List.nodup_cons.mp nd).2 (fun a ha na => g a (List.mem_cons_of_mem _ ha) na) r
      | rf k m =>
        obtain ⟨b, rfl, _⟩ := a
        exact ih sF (List.nodup_cons.mp nd).2 (fun a ha na => g a ha na) r
  | @ice ps ρ ρ' w ih =>
    intro σ F F' sF nd g r
    cases r with
    | @cons _ x _ σ a r =>
      obtain ⟨b, rfl, vs, hb, hl⟩ := a
      obtain ⟨n1, nd⟩ := List.nodup_cons.mp nd
      refine .cons ⟨_, rfl, .lst (g b List.mem_cons_self (fun z => n1 (w.adr.1.subset z)) _ hb) (hl.mono sF)⟩ ?_
      exact ih sF nd (fun a ha na => g a (List.mem_cons_of_mem _ ha) na) r
  | @iced ps ρ ρ' w ih =>
    intro σ F F' sF nd g r
    cases r with
    | @cons _ x _ σ a r =>
      obtain ⟨b, rfl, vs, hb, hl⟩ := a
      obtain ⟨n1, nd⟩ := List.nodup_cons.mp nd
      refine .cons ⟨_, rfl, .dct (g b List.mem_cons_self (fun z => n1 (w.adr.1.subset z)) _ hb) (hl.mono sF)⟩ ?_
      exact ih sF nd (fun a ha na => g a (List.mem_cons_of_mem _ ha) na) r
theorem Rel.wk (R : Rel K cl O bs ρ σ H) (w : Wk ρ ρ') : Rel K cl O bs ρ' σ H := by
  obtain ⟨sl, nd, al, ow⟩ := R
  have s1 := (w.adr (σ := σ)).1
  refine ⟨sl.wk w (frz_less fun a ha => ?_) nd (fun a ha na o e => frz_some.mpr ⟨fun z => ?_, e⟩), nd.sublist s1, al, fun a ha => ow a ((w.adr (σ := σ)).2.subset ha)⟩
  · rcases List.mem_append.mp ha with c | c
    · exact List.mem_append_left _ c
    · exact List.mem_append_right _ (s1.subset c)
  · rcases List.mem_append.mp z with c | c
    · exact ow a ha c
    · exact na c
end
/-! ### statements: the judgement -/
def nad : Ro → Nat → Bool
  | [], _ => false
  | .un :: _, 0 => true
  | .fz _ :: _, 0 => true
  | _ :: _, 0 => false
  | _ :: ρ, i + 1 => nad ρ i
def brs : Ro → List MO
  | [] => []
  | .rf _ m :: ρ => m :: brs ρ
  | _ :: ρ => brs ρ
def rfB : Nat → Ro → Bool
  | _, [] => true
  | n, .rf k _ :: ρ => (k == n) && rfB (n + 1) ρ
  | n, _ :: ρ => rfB n ρ
def uns (n : Nat) : Ro := List.replicate n .un
theorem wk_uns : ∀ {ρ : Ro} {n : Nat}, ρ.length = n → Wk ρ (uns n)
  | [], _, rfl => .nil
  | _ :: ρ, _, rfl => .drop (wk_uns (ρ := ρ) rfl)
section
variable (K : PySem.W.Frag) (cl : Str → Option Addr) (W : WX)
def FlOk {S L : Type} (O bs : List Addr) (ρn : S → Ro) (ρl : L → Ro) (D : Ends) (A : List Addr) (H : Hp) : Fl S L → Prop
  | .nx s => ∀ σ' H', Gr A H (adr (ρn s) σ') H' → Rel K cl O bs (ρn s) σ' H' → D.nx σ' H'
  | .bk s => ∀ σ' H', Gr A H (adr (ρl s) σ') H' → Rel K cl O bs (ρl s) σ' H' → D.bk σ' H'
  | .ct s => ∀ σ' H', Gr A H (adr (ρl s) σ') H' → Rel K cl O bs (ρl s) σ' H' → D.ct σ' H'
  | .rt v r => ∀ (w : V) (H' : Hp), Gr A H [] H' → Is K cl (frz H' O) w v → (∀ (k : Nat) (b : Addr) (m : MO), bs[k]? = some b → r[k]? = some m → MoIs K cl (frz H' O) H' b m) → D.rt w H'
  | .ro mo r => ∀ (p : Addr) (H' : Hp), Gr A H [p] H' → p ∉ O → MoIs K cl (frz H' (p :: O)) H' p mo → (∀ (k : Nat) (b : Addr) (m : MO), bs[k]? = some b → r[k]? = some m → MoIs K cl (frz H' (p :: O)) H' b m) → D.rt (.ref p) H'
def ExOk (O bs : List Addr) (ρx : Ro) (A : List Addr) (H : Hp) (c : Str) : Prop := ∀ C σ' H', cl c = some C → Gr A H (adr ρx σ') H' → Rel K cl O bs ρx σ' H' → W (.ref C) none σ' H'
def Runs {S L : Type} (t : TS) (ρ : Ro) (m : Res (Fl S L)) (ρn : S → Ro) (ρl : L → Ro) (ρx : Ro) : Prop := ∀ (O bs : List Addr) (σ : St) (H : Hp) (D : Ends), Rel K cl O bs ρ σ H → (∀ b, b ∈ bs → b ∈ O) →
  wp m (FlOk K cl O bs ρn ρl D (adr ρ σ) H) (ExOk K cl W O bs ρx (adr ρ σ) H) → t D σ H
end
section
variable {K : PySem.W.Frag} {cl : Str → Option Addr} {W : WX} {bs O A A1 : List Addr} {F H H' H1 : Hp} {ρ ρ' ρx : Ro} {σ : St} {S S1 L : Type} {ρn : S → Ro} {ρj : S1 → Ro} {ρl : L → Ro} {D : Ends} {t u v : TS} {te : TE} {m : Res PV}
theorem FlOk.step {f : Fl S L} (h : FlOk K cl O bs ρn ρl D A H f) (g : Gr A H A1 H1) : FlOk K cl O bs ρn ρl D A1 H1 f := by
  cases f with
  | nx s => exact fun σ' H' g' R => h σ' H' (g.trans g') R
  | bk s => exact fun σ' H' g' R => h σ' H' (g.trans g') R
  | ct s => exact fun σ' H' g' R => h σ' H' (g.trans g') R
  | rt v r => exact fun w H' g' i b => h w H' (g.trans g') i b
  | ro mo r => exact fun p H' g' n i b => h p H' (g.trans g') n i b
theorem ExOk.step {c : Str} (h : ExOk K cl W O bs ρx A H c) (g : Gr A H A1 H1) : ExOk K cl W O bs ρx A1 H1 c := fun C σ' H' e g' R => h C σ' H' e (g.trans g') R
theorem Gr.wk (w : Wk ρ ρ') : Gr (adr ρ σ) H (adr ρ' σ) H := ⟨fun _ _ _ h => h, fun _ h => .inl (w.adr.1.subset h)⟩
theorem ExOk.xw {c : Str} (h : ExOk K cl W O bs ρx (adr ρ σ) H c) (R : Rel K cl O bs ρ σ H) (w : Wk ρ ρx) : XW cl W σ H c := fun C H' e s => h C σ H' e ((Gr.of s).trans (Gr.wk w)) ((R.same s).wk w)
theorem run_one {M : Res (Fl S L)} (h : Runs K cl W (tSeq t tNext) ρ M ρn ρl ρx) : Runs K cl W t ρ M ρn ρl ρx := h
theorem run_assoc {M : Res (Fl S L)} (h : Runs K cl W (tSeq t (tSeq u v)) ρ M ρn ρl ρx) : Runs K cl W (tSeq (tSeq t u) v) ρ M ρn ρl ρx := h
theorem run_skip {M : Res (Fl S L)} (h : Runs K cl W u ρ M ρn ρl ρx) : Runs K cl W (tSeq tNext u) ρ M ρn ρl ρx := h
theorem run_next {s : S} (w : Wk ρ (ρn s)) : Runs K cl W tNext ρ (.val (.nx s)) ρn ρl ρx := fun O bs σ H D R hb q => q σ H (Gr.wk w) (R.wk w)
theorem run_break {s : L} (w : Wk ρ (ρl s)) : Runs (S := S) K cl W (tSeq tBreak u) ρ (.val (.bk s)) ρn ρl ρx := fun O bs σ H D R hb q => q σ H (Gr.wk w) (R.wk w)
theorem run_cont {s : L} (w : Wk ρ (ρl s)) : Runs (S := S) K cl W (tSeq tCont u) ρ (.val (.ct s)) ρn ρl ρx := fun O bs σ H D R hb q => q σ H (Gr.wk w) (R.wk w)
theorem run_wk {M : Res (Fl S L)} (w : Wk ρ ρ') (h : Runs K cl W t ρ' M ρn ρl ρx) : Runs K cl W t ρ M ρn ρl ρx := fun O bs σ H D R hb q =>
  h O bs σ H D (R.wk w) hb (wp_mono q (fun _ z => z.step (Gr.wk w)) fun _ z => z.step (Gr.wk w))
/-! setting a slot -/
theorem adr_setn : ∀ {ρ : Ro} {σ : St} {i : Nat} {p : PV} {x : Option V}, nad ρ i = true → adr (ρ.set i (.fz p)) (σ.set i x) = adr ρ σ
  | [], σ, i, p, x, h => by cases h
  | s :: ρ, [], i, p, x, h => by
    cases i with
    | zero => cases s <;> first | rfl | cases h
    | succ i => cases s <;> rfl
  | s :: ρ, y :: σ, 0, p, x, h => by cases s <;> first | rfl | cases h
  | s :: ρ, y :: σ, i + 1, p, x, h => by
    have ih := adr_setn (ρ := ρ) (σ := σ) (i := i) (p := p) (x := x) (by cases s <;> exact h)
    show adr (s :: ρ.set i (.fz p)) (y :: σ.set i x) = adr (s :: ρ) (y :: σ)
    cases s with
    | un => exact ih
    | fz q => exact ih
    | ow m => cases y with
      | none => exact ih
      | some v => cases v <;> first | exact ih | exact congrArg (_ :: ·) ih
    | rf k m => cases y with
      | none => exact ih
      | some v => cases v <;> first | exact ih | exact congrArg (_ :: ·) ih
theorem owa_setn : ∀ {ρ : Ro} {σ : St} {i : Nat} {p : PV} {x : Option V}, nad ρ i = true → owa (ρ.set i (.fz p)) (σ.set i x) = owa ρ σ
  | [], σ, i, p, x, h => by cases h
  | s :: ρ, [], i, p, x, h => by
    cases i with
    | zero => cases s <;> first | rfl | cases h
    | succ i => cases s <;> rfl
  | s :: ρ, y :: σ, 0, p, x, h => by cases s <;> first | rfl | cases h
  | s :: ρ, y :: σ, i + 1, p, x, h => by
    have ih := owa_setn (ρ := ρ) (σ := σ) (i := i) (p := p) (x := x) (by cases s <;> exact h)
    show owa (s :: ρ.set i (.fz p)) (y :: σ.set i x) = owa (s :: ρ) (y :: σ)
    cases s with
    | un => exact ih
    | fz q => exact ih
    | ow m => cases y with
      | none => exact ih
      | some v => cases v <;> first | exact ih | exact congrArg (_ :: ·) ih
    | rf k m => cases y with
      | none => exact ih
      | some v => cases v <;> first | exact ih
theorem RelS.set {F : Hp} (r : RelS K cl bs F H ρ σ) {i : Nat} {s : Slot} {x : Option V} (h : SlotIs K cl bs F H s x) : RelS K cl bs F H (ρ.set i s) (σ.set i x) := by
  induction r generalizing i with
  | nil => exact .nil
  | cons a r ih =>
    cases i with
    | zero => exact .cons h r
    | succ i => exact .cons a ih
theorem Rel.setfz (R : Rel K cl O bs ρ σ H) {i : Nat} {p : PV} {v : V} (hn : nad ρ i = true) (h : Is K cl (frz H (O ++ adr ρ σ)) v p) : Rel K cl O bs (ρ.set i (.fz p)) (σ.set i (some v)) H := by
  have e := adr_setn (σ := σ) (p := p) (x := some v) hn
  refine ⟨?_, by rw [e]; exact R.nd, R.al, by rw [owa_setn hn]; exact R.ow⟩
  rw [e]
  exact R.sl.set ⟨v, rfl, h⟩
theorem adr_seto : ∀ {ρ : Ro} {σ : St} {i : Nat} {m : MO} {p : Addr}, ρ.length = σ.length → nad ρ i = true → (adr (ρ.set i (.ow m)) (σ.set i (some (.ref p)))).Perm (p :: adr ρ σ) ∧ (owa (ρ.set i (.ow m)) (σ.set i (some (.ref p)))).Perm (p :: owa ρ σ)
  | [], σ, i, m, p, _, h => by cases h
  | s :: ρ, [], i, m, p, e, h => by cases e
  | s :: ρ, y :: σ, 0, m, p, _, h => by cases s <;> first | exact ⟨.refl _, .refl _⟩ | cases h
  | s :: ρ, y :: σ, i + 1, m, p, e, h => by
    have ih := adr_seto (ρ := ρ) (σ := σ) (i := i) (m := m) (p := p) (Nat.succ.inj e) (by cases s <;> exact h)
    show (adr (s :: ρ.set i (.ow m)) (y :: σ.set i (some (.ref p)))).Perm (p :: adr (s :: ρ) (y :: σ)) ∧ (owa (s :: ρ.set i (.ow m)) (y :: σ.set i (some (.ref p)))).Perm (p :: owa (s :: ρ) (y :: σ))
    cases s with
    | un => exact ih
    | fz q => exact ih
    | ow m => cases y with
      | none => exact ih
      | some v => cases v <;> first | exact ih | exact ⟨(ih.1.cons _).trans (.swap _ _ _), (ih.2.cons _).trans (.swap _ _ _)⟩
    | rf k m => cases y with
      | none => exact ih
      | some v => cases v <;> first | exact ih | exact ⟨(ih.1.cons _).trans (.swap _ _ _), ih.2⟩
/-- a new object becomes owned -/
theorem Rel.setow (R : Rel K cl O bs ρ σ H) {i : Nat} {mo : MO} {p : Addr} (s : Sub H H') (hn : nad ρ i = true) (hp : H p = none) (h : MoIs K cl (frz H' (p :: (O ++ adr ρ σ))) H' p mo) :
    Rel K cl O bs (ρ.set i (.ow mo)) (σ.set i (some (.ref p))) H' ∧ Gr (adr ρ σ) H (adr (ρ.set i (.ow mo)) (σ.set i (some (.ref p)))) H' := by
  obtain ⟨e1, e2⟩ := adr_seto (ρ := ρ) (σ := σ) (i := i) (m := mo) (p := p) R.sl.len hn
  have np : p ∉ O ++ adr ρ σ := fun z => by
    obtain ⟨o, e⟩ := R.got z
    rw [hp] at e; cases e
  have memA : ∀ a, a ∈ adr (ρ.set i (.ow mo)) (σ.set i (some (.ref p))) → a = p ∨ a ∈ adr ρ σ := fun a ha => List.mem_cons.mp (e1.mem_iff.mp ha)
  refine ⟨⟨?_, e1.nodup_iff.mpr (List.nodup_cons.mpr ⟨fun z => np (List.mem_append_right _ z), R.nd⟩), fun a ha => let ⟨o, e⟩ := R.al a ha; ⟨o, s _ _ e⟩, fun a ha => ?_⟩, ⟨fun x o _ h => s _ _ h, fun x hx => ?_⟩⟩
  · have s1 : Sub (frz H (O ++ adr ρ σ)) (frz H' (O ++ adr (ρ.set i (.ow mo)) (σ.set i (some (.ref p))))) := fun x o e => by
      obtain ⟨n, e⟩ := frz_some.mp e
      refine frz_some.mpr ⟨fun z => ?_, s _ _ e⟩
      rcases List.mem_append.mp z with c | c
      · exact n (List.mem_append_left _ c)
      · rcases memA x c with c | c
        · rw [c, hp] at e; cases e
        · exact n (List.mem_append_right _ c)
    have s2 : Sub (frz H' (p :: (O ++ adr ρ σ))) (frz H' (O ++ adr (ρ.set i (.ow mo)) (σ.set i (some (.ref p))))) := frz_less fun a ha => by
      rcases List.mem_append.mp ha with c | c
      · exact List.mem_cons_of_mem _ (List.mem_append_left _ c)
      · rcases memA a c with c | c
        · rw [c]; exact List.mem_cons_self
        · exact List.mem_cons_of_mem _ (List.mem_append_right _ c)
    exact (R.sl.mono s1 fun a o _ e => s _ _ e).set ⟨p, rfl, h.mono s2 fun _ e => e⟩
  · rcases List.mem_cons.mp (e2.mem_iff.mp ha) with c | c
    · rw [c]; exact fun z => np (List.mem_append_left _ z)
    · exact R.ow a c
  · rcases memA x hx with c | c
    · rw [c]; exact .inr hp
    · exact .inl c
theorem run_set {i : Nat} {n : PV → Res (Fl S L)} (he : Pur K cl W te ρ m) (hn : nad ρ i = true) (w : Wk ρ ρx) (h : ∀ x, Runs K cl W u (ρ.set i (.fz x)) (n x) ρn ρl ρx) : Runs K cl W (tSeq (tAsg te (gName i)) u) ρ (m >>= n) ρn ρl ρx := fun O bs σ H D R hb q => by
  refine he O bs σ H _ R (wp_mono (wp_bind.mp q) (fun x qx v H' s ix => ?_) fun _ z => z.xw R w)
  have g : Gr (adr ρ σ) H (adr (ρ.set i (.fz x)) (σ.set i (some v))) H' := by rw [adr_setn hn]; exact Gr.of s
  exact h x O bs _ H' D ((R.same s).setfz hn ix) hb (wp_mono qx (fun _ z => z.step g) fun _ z => z.step g)
/-! new lists -/
end
section
variable (K : PySem.W.Frag) (cl : Str → Option Addr) (W : WX)
def New (t : TE) (ρ : Ro) (m : Res (List PV)) : Prop := ∀ (O bs : List Addr) (σ : St) (H : Hp) (Q : VK), Rel K cl O bs ρ σ H →
  wp m (fun ps => ∀ p vs H', Sub H H' → H p = none → H' p = some (.lst vs) → IsL K cl (frz H' (p :: (O ++ adr ρ σ))) vs ps → Q (.ref p) H') (XW cl W σ H) → t σ H Q
def NewD (t : TE) (ρ : Ro) (m : Res (List (Key × PV))) : Prop := ∀ (O bs : List Addr) (σ : St) (H : Hp) (Q : VK), Rel K cl O bs ρ σ H →
  wp m (fun ps => ∀ p vs H', Sub H H' → H p = none → H' p = some (.dK vs) → IsK K cl (frz H' (p :: (O ++ adr ρ σ))) vs ps → Q (.ref p) H') (XW cl W σ H) → t σ H Q
end
section
variable {K : PySem.W.Frag} {cl : Str → Option Addr} {W : WX} {bs O A A1 : List Addr} {F H H' H1 : Hp} {ρ ρ' ρx : Ro} {σ : St} {S S1 L : Type} {ρn : S → Ro} {ρj : S1 → Ro} {ρl : L → Ro} {D : Ends} {t u v : TS} {te ta tb : TE} {m ma mb : Res PV} {tr : TA} {ml : Res (List PV)} {md : Res (List (Key × PV))}
theorem New.pur (h : New K cl W te ρ ml) : Pur K cl W te ρ (ml >>= fun ps => .val (.lst ps)) := fun O bs σ H Q R q => by
  refine h O bs σ H Q R (wp_mono (wp_bind.mp q) (fun ps qs p vs H' s hp hv hl => qs _ H' s (.lst (frz_some.mpr ⟨fun z => ?_, hv⟩) (hl.mono (frz_less fun a ha => List.mem_cons_of_mem _ ha)))) fun _ z => z)
  obtain ⟨o, e⟩ := R.got z
  rw [hp] at e; cases e
theorem NewD.pur (h : NewD K cl W te ρ md) : Pur K cl W te ρ (md >>= fun ps => .val (.dct ps)) := fun O bs σ H Q R q => by
  refine h O bs σ H Q R (wp_mono (wp_bind.mp q) (fun ps qs p vs H' s hp hv hl => qs _ H' s (.dct (frz_some.mpr ⟨fun z => ?_, hv⟩) (hl.mono (frz_less fun a ha => List.mem_cons_of_mem _ ha)))) fun _ z => z)
  obtain ⟨o, e⟩ := R.got z
  rw [hp] at e; cases e
theorem frz_new {p : Addr} (hp : H1 p = none) {A : List Addr} (o : HO) : Sub (frz H1 A) (frz (upd H1 p o) (p :: A)) := fun x u e => by
  obtain ⟨n, e⟩ := frz_some.mp e
  have ne : x ≠ p := ne_of_none e hp
  refine frz_some.mpr ⟨fun z => ?_, by rw [upd_ne ne]; exact e⟩
  rcases List.mem_cons.mp z with c | c
  · exact ne c
  · exact n c
theorem none_back (s : Sub H H1) {p : Addr} (h : H1 p = none) : H p = none := by
  cases e : H p with
  | none => rfl
  | some o => rw [s _ _ e] at h; cases h
def mkN (ps : List PV) : Res (List PV) := sized ps.length >>= fun _ => .val ps
theorem nw_lst (hl : PurL K cl W tr ρ ml) : New K cl W (tLst tr) ρ (ml >>= mkN) := fun O bs σ H Q R q => by
  refine hl O bs σ H _ R (wp_mono (wp_bind.mp q) (fun ps qs vs H1 s1 i1 => ?_) fun _ z => z)
  obtain ⟨z, qs⟩ := wp_sized (wp_bind.mp qs)
  exact ⟨by rw [i1.len]; exact z, fun p hp => qs p vs _ (s1.trans (sub_new hp _)) (none_back s1 hp) upd_same (i1.mono (frz_new hp _))⟩
theorem nw_list (ha : Vw K cl W ta ρ ma) : New K cl W (tCB (rListV K) (tCons ta tNil)) ρ (ma >>= asSq) := fun O bs σ H Q R q => by
  refine ha O bs σ H _ R (wp_mono (wp_bind.mp q) (fun x qx v1 H1 s1 i1 => ?_) fun _ z => z)
  obtain ⟨a, vs, ps, rfl, hs, hl, w⟩ := wp_asSq qx i1
  exact ⟨a, vs, rfl, hs.symm, fun l hl' => w l vs _ (s1.trans (sub_new hl' _)) (none_back s1 hl') upd_same (hl.mono (frz_new hl' _))⟩
theorem nw_rep (ha : Vw K cl W ta ρ ma) (hb : Vw K cl W tb ρ mb) : New K cl W (tOp rMulV ta tb) ρ (ma >>= fun x => mb >>= fun y => repL x y >>= asSq) := fun O bs σ H Q R q => by
  refine ha O bs σ H _ R (wp_mono (wp_bind.mp q) (fun x qx v1 H1 s1 i1 => ?_) fun _ z => z)
  have R1 := R.same s1
  refine hb O bs σ H1 _ R1 (wp_mono (wp_bind.mp qx) (fun y qy v2 H2 s2 i2 => ?_) fun _ z => z.mono s1)
  have i1' := i1.mono (frz_same (A := O ++ adr ρ σ) s2) s2
  have w := wp_bind.mp qy
  unfold repL at w
  split at w
  · obtain ⟨a, vs, rfl, ha, la⟩ := i1'
    cases isV_int i2
    split at w
    · next c =>
      rw [← la.len] at c
      have s12 := s1.trans s2
      exact .inr ⟨a, _, vs, rfl, rfl, ha, c.1, c.2.1, c.2.2, fun p hp => w p _ _ (s12.trans (sub_new hp _)) (none_back s12 hp) upd_same ((la.reps _).mono (frz_new hp _))⟩
    · exact w.elim
  · exact w.elim
theorem nd_new : NewD K cl W tDNewK ρ (.val []) := fun O bs σ H Q R q p hp => q p [] _ (sub_new hp _) hp upd_same .nil
theorem run_setow {i : Nat} {n : List PV → Res (Fl S L)} (he : New K cl W te ρ ml) (hn : nad ρ i = true) (w : Wk ρ ρx) (h : ∀ x, Runs K cl W u (ρ.set i (.ow (.lst x))) (n x) ρn ρl ρx) : Runs K cl W (tSeq (tAsg te (gName i)) u) ρ (ml >>= n) ρn ρl ρx := fun O bs σ H D R hb q => by
  refine he O bs σ H _ R (wp_mono (wp_bind.mp q) (fun x qx p vs H' s hp hv hl => ?_) fun _ z => z.xw R w)
  obtain ⟨R', g⟩ := R.setow (mo := .lst x) s hn hp ⟨vs, hv, hl⟩
  exact h x O bs _ H' D R' hb (wp_mono qx (fun _ z => z.step g) fun _ z => z.step g)
theorem run_setowd {i : Nat} {n : List (Key × PV) → Res (Fl S L)} (he : NewD K cl W te ρ md) (hn : nad ρ i = true) (w : Wk ρ ρx) (h : ∀ x, Runs K cl W u (ρ.set i (.ow (.dct x))) (n x) ρn ρl ρx) : Runs K cl W (tSeq (tAsg te (gName i)) u) ρ (md >>= n) ρn ρl ρx := fun O bs σ H D R hb q => by
  refine he O bs σ H _ R (wp_mono (wp_bind.mp q) (fun x qx p vs H' s hp hv hl => ?_) fun _ z => z.xw R w)
  obtain ⟨R', g⟩ := R.setow (mo := .dct x) s hn hp ⟨vs, hv, hl⟩
  exact h x O bs _ H' D R' hb (wp_mono qx (fun _ z => z.step g) fun _ z => z.step g)
/-! return, if, raise -/
theorem mem_adr0 : ∀ {ρ : Ro} {σ : St} {i : Nat} {mo : MO} {a : Addr}, ρ[i]? = some (.ow mo) → σ[i]? = some (some (.ref a)) → a ∈ adr ρ σ ∧ a ∈ owa ρ σ
  | [], σ, i, mo, a, h, _ => by simp at h
  | s0 :: ρ, [], i, mo, a, h, e => by simp at e
  | s0 :: ρ, x :: σ, 0, mo, a, h, e => by
    simp at h e
    subst h; subst e
    exact ⟨List.mem_cons_self, List.mem_cons_self⟩
  | s0 :: ρ, x :: σ, i + 1, mo, a, h, e => by
    have ih := mem_adr0 (ρ := ρ) (σ := σ) (i := i) (by simpa using h) (by simpa using e)
    refine ⟨adr_cons ih.1, ?_⟩
    have q := ih.2
    cases s0 with
    | un => exact q
    | fz p => exact q
    | rf k m => cases x with
      | none => exact q
      | some v => cases v <;> exact q
    | ow m => cases x with
      | none => exact q
      | some v => cases v <;> first | exact q | exact List.mem_cons_of_mem _ q
theorem Rel.mem_adr (_ : Rel K cl O bs ρ σ H) {i : Nat} {mo : MO} {a : Addr} (h : ρ[i]? = some (.ow mo)) (e : σ[i]? = some (some (.ref a))) : a ∈ adr ρ σ := (mem_adr0 h e).1
theorem Rel.mem_owa (_ : Rel K cl O bs ρ σ H) {i : Nat} {mo : MO} {a : Addr} (h : ρ[i]? = some (.ow mo)) (e : σ[i]? = some (some (.ref a))) : a ∈ owa ρ σ := (mem_adr0 h e).2
theorem frz_gone (s : Sub H H') {p : Addr} (hp : H p = none) : Sub (frz H (O ++ A)) (frz H' (p :: O)) := fun x o e => by
  obtain ⟨n, e⟩ := frz_some.mp e
  refine frz_some.mpr ⟨fun z => ?_, s _ _ e⟩
  rcases List.mem_cons.mp z with c | c
  · rw [c, hp] at e; cases e
  · exact n (List.mem_append_left _ c)
theorem brs_rf : ∀ {ρ : Ro} {n : Nat}, rfB n ρ = true → ∀ {k : Nat} {mo : MO}, (brs ρ)[k]? = some mo → Slot.rf (n + k) mo ∈ ρ
  | [], n, h, k, mo, e => by simp [brs] at e
  | s :: ρ, n, h, k, mo, e => by
    cases s with
    | un => exact List.mem_cons_of_mem _ (brs_rf (ρ := ρ) h e)
    | fz p => exact List.mem_cons_of_mem _ (brs_rf (ρ := ρ) h e)
    | ow m => exact List.mem_cons_of_mem _ (brs_rf (ρ := ρ) h e)
    | rf j m =>
      have h' := Bool.and_eq_true_iff.mp (show (j == n && rfB (n + 1) ρ) = true from h)
      have hj : j = n := by simpa using h'.1
      cases k with
      | zero =>
        simp [brs] at e
        rw [hj, e]
        exact List.mem_cons_self
      | succ k =>
        have e' : (brs ρ)[k]? = some mo := by simpa [brs] using e
        have q := brs_rf (ρ := ρ) h'.2 e'
        rw [show n + (k + 1) = n + 1 + k by omega]
        exact List.mem_cons_of_mem _ q
theorem Rel.byref0 (R : Rel K cl O bs ρ σ H) (hr : rfB 0 ρ = true) {k : Nat} {b : Addr} {mo : MO} (hb : bs[k]? = some b) (e : (brs ρ)[k]? = some mo) : MoIs K cl (frz H (O ++ adr ρ σ)) H b mo := by
  have q := brs_rf hr e
  rw [Nat.zero_add] at q
  obtain ⟨i, hi, e2⟩ := List.getElem_of_mem q
  obtain ⟨x, h1, a, rfl, h3, h4⟩ := R.sl.get (List.getElem?_eq_some_iff.mpr ⟨hi, e2⟩)
  rw [hb] at h3
  cases h3
  exact h4
theorem run_retNew {r : List MO} (he : New K cl W te ρ ml) (hr : rfB 0 ρ = true) (e : brs ρ = r) (w : Wk ρ ρx) : Runs (S := S) K cl W (tSeq (tRet te) u) ρ (ml >>= fun l => .val (.ro (.lst l) r)) ρn ρl ρx := fun O bs σ H D R hb q => by
  subst e
  refine he O bs σ H _ R (wp_mono (wp_bind.mp q) (fun l ql p vs H' s hp hv hl => ?_) fun _ z => z.xw R w)
  refine ql p H' ⟨fun x o _ h => s _ _ h, fun x hx => ?_⟩ (fun z => ?_) ⟨vs, hv, hl.mono (frz_less fun b hb => ?_)⟩ fun k b m h1 h2 => (R.byref0 hr h1 h2).mono (frz_gone s hp) fun o e => s _ _ e
  · have : x = p := by simpa using hx
    rw [this]; exact .inr hp
  · obtain ⟨o, e⟩ := R.al p z
    rw [hp] at e; cases e
  · rcases List.mem_cons.mp hb with c | c
    · rw [c]; exact List.mem_cons_self
    · exact List.mem_cons_of_mem _ (List.mem_append_left _ c)
theorem Rel.byref (R : Rel K cl O bs ρ σ H) (hr : rfB 0 ρ = true) {k : Nat} {b : Addr} {mo : MO} (hb : bs[k]? = some b) (e : (brs ρ)[k]? = some mo) : MoIs K cl (frz H O) H b mo := by
  have q := brs_rf hr e
  rw [Nat.zero_add] at q
  obtain ⟨i, hi, e2⟩ := List.getElem_of_mem q
  obtain ⟨x, h1, a, rfl, h3, h4⟩ := R.sl.get (List.getElem?_eq_some_iff.mpr ⟨hi, e2⟩)
  rw [hb] at h3
  cases h3
  exact h4.mono (frz_less fun a ha => List.mem_append_left _ ha) fun _ e => e
theorem run_ret {r : List MO} (he : Pur K cl W te ρ m) (hr : rfB 0 ρ = true) (e : brs ρ = r) (w : Wk ρ ρx) : Runs (S := S) K cl W (tSeq (tRet te) u) ρ (m >>= fun x => .val (.rt x r)) ρn ρl ρx := fun O bs σ H D R hb q => by
  subst e
  refine he O bs σ H _ R (wp_mono (wp_bind.mp q) (fun x qx v H' s ix => ?_) fun _ z => z.xw R w)
  exact qx v H' ⟨fun a o _ h => s _ _ h, fun _ z => by cases z⟩ (ix.mono (frz_less fun a ha => List.mem_append_left _ ha)) fun k b mo h1 h2 => (R.same s).byref hr h1 h2
/-- an owned thing is given away -/
theorem run_retO {i : Nat} {mo : MO} {r : List MO} (h : ρ[i]? = some (.ow mo)) (hr : rfB 0 ρ = true) (e : brs ρ = r) : Runs (S := S) K cl W (tSeq (tRet (tVar i)) u) ρ (.val (.ro mo r)) ρn ρl ρx := fun O bs σ H D R hb q => by
  subst e
  obtain ⟨x, e, a, rfl, hm⟩ := R.sl.get h
  have ma : a ∈ adr ρ σ := R.mem_adr h e
  refine ⟨_, e, q a H ⟨fun _ _ _ h => h, fun x hx => ?_⟩ (R.ow a (R.mem_owa h e)) (hm.mono (frz_less fun b hb => ?_) fun _ e => e) fun k b m h1 h2 => (R.byref0 hr h1 h2).mono (frz_less fun b hb => ?_) fun _ e => e⟩
  · have : x = a := by simpa using hx
    rw [this]; exact .inl ma
  · rcases List.mem_cons.mp hb with c | c
    · rw [c]; exact List.mem_append_right _ ma
    · exact List.mem_append_left _ c
  · rcases List.mem_cons.mp hb with c | c
    · rw [c]; exact List.mem_append_right _ ma
    · exact List.mem_append_left _ c
theorem run_retN {r : List MO} (hr : rfB 0 ρ = true) (e : brs ρ = r) : Runs (S := S) K cl W (tSeq tRetN u) ρ (.val (.rt .non r)) ρn ρl ρx := fun O bs σ H D R hb q => by
  subst e
  exact q .non H ⟨fun a o _ h => h, fun _ z => by cases z⟩ .non fun k b mo h1 h2 => R.byref hr h1 h2
theorem run_if {c : TT} {mc : Res Bool} {M1 M2 : Res (Fl S L)} (hc : Tst K cl W c ρ mc) (w : Wk ρ ρx) (h1 : Runs K cl W (tSeq t u) ρ M1 ρn ρl ρx) (h2 : Runs K cl W (tSeq v u) ρ M2 ρn ρl ρx) : Runs K cl W (tSeq (tIfS c t v) u) ρ (mc >>= fun b => if b = true then M1 else M2) ρn ρl ρx := fun O bs σ H D R hb q => by
  refine hc O bs σ H _ R (wp_mono (wp_bind.mp q) (fun b qb H' s => ?_) fun _ z => z.xw R w)
  have g := Gr.of (A := adr ρ σ) s
  cases b with
  | true => exact h1 O bs σ H' D (R.same s) hb (wp_mono qb (fun _ z => z.step g) fun _ z => z.step g)
  | false => exact h2 O bs σ H' D (R.same s) hb (wp_mono qb (fun _ z => z.step g) fun _ z => z.step g)
def seqF (M : Res (Fl S1 L)) (n : S1 → Res (Fl S L)) : Res (Fl S L) := M >>= fun f => match f with
  | .nx s => n s
  | .rt v r => .val (.rt v r)
  | .ro mo r => .val (.ro mo r)
  | .bk l => .val (.bk l)
  | .ct l => .val (.ct l)
/-- one statement as it stands, then the rest -/
theorem run_seq {M : Res (Fl S1 L)} {n : S1 → Res (Fl S L)} (h1 : Runs K cl W t ρ M ρj ρl ρx) (h2 : ∀ s, Runs K cl W u (ρj s) (n s) ρn ρl ρx) : Runs K cl W (tSeq t u) ρ (seqF M n) ρn ρl ρx := fun O bs σ H D R hb q => by
  refine h1 O bs σ H { D with nx := u D } R hb (wp_mono (wp_bind.mp q) (fun f qf => ?_) fun _ z => z)
  cases f with
  | nx s => exact fun σ' H' g R' => h2 s O bs σ' H' D R' hb (wp_mono qf (fun _ z => z.step g) fun _ z => z.step g)
  | rt v r => exact qf
  | ro mo r => exact qf
  | bk l => exact qf
  | ct l => exact qf
/-! owned lists and dicts, changed -/
theorem adr_at : ∀ {ρ : Ro} {σ : St} {i : Nat} {s : Slot} {a : Addr}, ρ[i]? = some s → σ[i]? = some (some (.ref a)) → (∃ mo, s = .ow mo) ∨ (∃ k mo, s = .rf k mo) → a ∈ adr ρ σ
  | [], σ, i, s, a, h, _, _ => by simp at h
  | s0 :: ρ, [], i, s, a, h, e, _ => by simp at e
  | s0 :: ρ, x :: σ, 0, s, a, h, e, z => by
    simp at h e
    subst h; subst e
    rcases z with ⟨mo, rfl⟩ | ⟨k, mo, rfl⟩ <;> exact List.mem_cons_self
  | s0 :: ρ, x :: σ, i + 1, s, a, h, e, z => adr_cons (adr_at (ρ := ρ) (σ := σ) (i := i) (by simpa using h) (by simpa using e) z)
def reSl (s : Slot) (m' : MO) : Slot := match s with
  | .ow _ => .ow m'
  | .rf k _ => .rf k m'
  | s => s
theorem adr_re : ∀ {ρ : Ro} {σ : St} {i : Nat} {s : Slot} {m' : MO}, ρ[i]? = some s → adr (ρ.set i (reSl s m')) σ = adr ρ σ ∧ owa (ρ.set i (reSl s m')) σ = owa ρ σ
  | [], σ, i, s, m', h => by simp at h
  | s0 :: ρ, [], i, s, m', h => by
    cases i with
    | zero => simp at h; subst h; cases s0 <;> exact ⟨rfl, rfl⟩
    | succ i => cases s0 <;> exact ⟨rfl, rfl⟩
  | s0 :: ρ, x :: σ, 0, s, m', h => by
    simp at h; subst h
    cases s0 with
    | un => exact ⟨rfl, rfl⟩
    | fz p => exact ⟨rfl, rfl⟩
    | ow m => cases x with
      | none => exact ⟨rfl, rfl⟩
      | some v => cases v <;> exact ⟨rfl, rfl⟩
    | rf k m => cases x with
      | none => exact ⟨rfl, rfl⟩
      | some v => cases v <;> exact ⟨rfl, rfl⟩
  | s0 :: ρ, x :: σ, i + 1, s, m', h => by
    have ih := adr_re (ρ := ρ) (σ := σ) (i := i) (m' := m') (s := s) (by simpa using h)
    show adr (s0 :: ρ.set i (reSl s m')) (x :: σ) = adr (s0 :: ρ) (x :: σ) ∧ owa (s0 :: ρ.set i (reSl s m')) (x :: σ) = owa (s0 :: ρ) (x :: σ)
    cases s0 with
    | un => exact ih
    | fz p => exact ih
    | ow m => cases x with
      | none => exact ih
      | some v => cases v <;> first | exact ih | exact ⟨congrArg (_ :: ·) ih.1, congrArg (_ :: ·) ih.2⟩
    | rf k m => cases x with
      | none => exact ih
      | some v => cases v <;> first | exact ih | exact ⟨congrArg (_ :: ·) ih.1, ih.2⟩
theorem nodup_at : ∀ {ρ : Ro} {σ : St} {i j : Nat} {s s' : Slot} {a : Addr}, (adr ρ σ).Nodup → ρ[i]? = some s → ρ[j]? = some s' → σ[i]? = some (some (.ref a)) → σ[j]? = some (some (.ref a)) → (∃ mo, s = .ow mo) ∨ (∃ k mo, s = .rf k mo) → (∃ mo, s' = .ow mo) ∨ (∃ k mo, s' = .rf k mo) → i = j
  | [], σ, i, j, s, s', a, _, h, _, _, _, _, _ => by simp at h
  | s0 :: ρ, [], i, j, s, s', a, _, _, _, e, _, _, _ => by simp at e
  | s0 :: ρ, x :: σ, 0, 0, s, s', a, _, _, _, _, _, _, _ => rfl
  | s0 :: ρ, x :: σ, 0, j + 1, s, s', a, nd, h, h', e, e', z, z' => by
    simp at h e
    subst h; subst e
    have q := adr_at (ρ := ρ) (σ := σ) (i := j) (by simpa using h') (by simpa using e') z'
    rcases z with ⟨mo, rfl⟩ | ⟨k, mo, rfl⟩ <;> exact absurd q (List.nodup_cons.mp nd).1
  | s0 :: ρ, x :: σ, i + 1, 0, s, s', a, nd, h, h', e, e', z, z' => by
    simp at h' e'
    subst h'; subst e'
    have q := adr_at (ρ := ρ) (σ := σ) (i := i) (by simpa using h) (by simpa using e) z
    rcases z' with ⟨mo, rfl⟩ | ⟨k, mo, rfl⟩ <;> exact absurd q (List.nodup_cons.mp nd).1
  | s0 :: ρ, x :: σ, i + 1, j + 1, s, s', a, nd, h, h', e, e', z, z' => by
    refine congrArg (· + 1) (nodup_at (ρ := ρ) (σ := σ) ?_ (by simpa using h) (by simpa using h') (by simpa using e) (by simpa using e') z z')
    cases s0 with
    | un => exact nd
    | fz p => exact nd
    | ow m => cases x with
      | none => exact nd
      | some v => cases v <;> first | exact nd | exact (List.nodup_cons.mp nd).2
    | rf k m => cases x with
      | none => exact nd
      | some v => cases v <;> first | exact nd | exact (List.nodup_cons.mp nd).2
/-- the object at a slot gets another content -/
theorem Rel.putH (R : Rel K cl O bs ρ σ H) {i : Nat} {s : Slot} {mo m' : MO} {a : Addr} {H2 : Hp} (hk : ∀ x o, x ≠ a → H x = some o → H2 x = some o) (hg : ∃ o, H2 a = some o) (hi : ρ[i]? = some s) (hs : s = .ow mo ∨ ∃ k, s = .rf k mo) (ha : σ[i]? = some (some (.ref a)))
    (h : MoIs K cl (frz H2 (O ++ adr ρ σ)) H2 a m') : Rel K cl O bs (ρ.set i (reSl s m')) σ H2 ∧ Gr (adr ρ σ) H (adr (ρ.set i (reSl s m')) σ) H2 := by
  have hz : (∃ mo, s = .ow mo) ∨ (∃ k mo, s = .rf k mo) := hs.imp (fun e => ⟨_, e⟩) fun ⟨k, e⟩ => ⟨k, _, e⟩
  have ma := adr_at hi ha hz
  obtain ⟨e1, e2⟩ := adr_re (σ := σ) (m' := m') hi
  have keep : ∀ x u, x ∉ adr ρ σ → H x = some u → H2 x = some u := fun x u n e => hk x u (fun z => n (by rw [z]; exact ma)) e
  have sF : Sub (frz H (O ++ adr ρ σ)) (frz H2 (O ++ adr ρ σ)) := fun x u e => by
    obtain ⟨n, e⟩ := frz_some.mp e
    exact frz_some.mpr ⟨n, keep x u (fun z => n (List.mem_append_right _ z)) e⟩
  refine ⟨⟨?_, by rw [e1]; exact R.nd, fun b hb => ?_, by rw [e2]; exact R.ow⟩, by rw [e1]; exact ⟨keep, fun x hx => .inl hx⟩⟩
  · rw [e1]
    -- each slot: i has the new content, the others stand
    have go : ∀ (ρ0 : Ro) (σ0 : St) (i0 : Nat), RelS K cl bs (frz H (O ++ adr ρ σ)) H ρ0 σ0 → (∀ j, ρ0[j]? = ρ[i0 + j]? ∧ σ0[j]? = σ[i0 + j]?) → i0 ≤ i → RelS K cl bs (frz H2 (O ++ adr ρ σ)) H2 (ρ0.set (i - i0) (reSl s m')) σ0 := by
      intro ρ0
      induction ρ0 with
      | nil => intro σ0 i0 r _ _; cases r; exact .nil
      | cons s0 ρ0 ih =>
        intro σ0 i0 r hj hle
        cases r with
        | @cons _ x _ σ0 b r =>
          by_cases c : i0 = i
          · subst c
            rw [Nat.sub_self]
            have h0 := hj 0
            rw [Nat.add_zero, hi, ha] at h0
            simp at h0
            obtain ⟨rfl, rfl⟩ := h0
            refine .cons ?_ ?_
            · rcases hs with rfl | ⟨k, rfl⟩
              · exact ⟨a, rfl, h⟩
              · obtain ⟨a', e, hk, _⟩ := b
                cases e
                exact ⟨a, rfl, hk, h⟩
            · -- the rest of the slots have other addresses
              have far : ∀ (ρ1 : Ro) (σ1 : St) (j0 : Nat), RelS K cl bs (frz H (O ++ adr ρ σ)) H ρ1 σ1 → (∀ j, ρ1[j]? = ρ[j0 + j]? ∧ σ1[j]? = σ[j0 + j]?) → i0 < j0 → RelS K cl bs (frz H2 (O ++ adr ρ σ)) H2 ρ1 σ1 := by
                intro ρ1
                induction ρ1 with
                | nil => intro σ1 j0 r _ _; cases r; exact .nil
                | cons s1 ρ1 ih1 =>
                  intro σ1 j0 r hj1 hlt
                  cases r with
                  | @cons _ x1 _ σ1 b1 r1 =>
                    refine .cons (b1.mono sF fun a1 o1 z1 e1 => ?_) (ih1 σ1 (j0 + 1) r1 (fun j => ?_) (by omega))
                    · have h1 := hj1 0
                      rw [Nat.add_zero] at h1
                      simp at h1
                      refine hk _ _ (fun z => ?_) e1
                      · subst z
                        have hz1 : (∃ mo, s1 = .ow mo) ∨ (∃ k mo, s1 = .rf k mo) := by
                          obtain ⟨_, n1, n2⟩ := z1
                          cases s1 with
                          | un => exact absurd rfl n1
                          | fz p => exact absurd rfl (n2 p)
                          | ow m => exact .inl ⟨m, rfl⟩
                          | rf k m => exact .inr ⟨k, m, rfl⟩
                        have := nodup_at R.nd hi h1.1.symm ha (by rw [← h1.2, z1.1]) hz hz1
                        omega
                    · have := hj1 (j + 1)
                      rw [show j0 + 1 + j = j0 + (j + 1) by omega]
                      simpa using this
              refine far ρ0 σ0 (i0 + 1) r (fun j => ?_) (by omega)
              have := hj (j + 1)
              rw [show i0 + 1 + j = i0 + (j + 1) by omega]
              simpa using this
          · rw [show i - i0 = (i - (i0 + 1)) + 1 by omega]
            refine .cons (b.mono sF fun a1 o1 z1 e1 => ?_) (ih σ0 (i0 + 1) r (fun j => ?_) (by omega))
            · have h1 := hj 0
              rw [Nat.add_zero] at h1
              simp at h1
              refine hk _ _ (fun z => ?_) e1
              · subst z
                have hz1 : (∃ mo, s0 = .ow mo) ∨ (∃ k mo, s0 = .rf k mo) := by
                  obtain ⟨_, n1, n2⟩ := z1
                  cases s0 with
                  | un => exact absurd rfl n1
                  | fz p => exact absurd rfl (n2 p)
                  | ow m => exact .inl ⟨m, rfl⟩
                  | rf k m => exact .inr ⟨k, m, rfl⟩
                exact c (nodup_at R.nd hi h1.1.symm ha (by rw [← h1.2, z1.1]) hz hz1).symm
            · have := hj (j + 1)
              rw [show i0 + 1 + j = i0 + (j + 1) by omega]
              simpa using this
    have := go ρ σ 0 R.sl (fun j => by rw [Nat.zero_add]; exact ⟨rfl, rfl⟩) (Nat.zero_le _)
    rwa [Nat.sub_zero] at this
  · obtain ⟨u, e⟩ := R.al b hb
    by_cases c : b = a
    · rw [c]; exact hg
    · exact ⟨u, hk _ _ c e⟩
theorem Rel.put (R : Rel K cl O bs ρ σ H) {i : Nat} {s : Slot} {mo m' : MO} {a : Addr} {o : HO} (hi : ρ[i]? = some s) (hs : s = .ow mo ∨ ∃ k, s = .rf k mo) (ha : σ[i]? = some (some (.ref a)))
    (h : MoIs K cl (frz H (O ++ adr ρ σ)) (upd H a o) a m') : Rel K cl O bs (ρ.set i (reSl s m')) σ (upd H a o) ∧ Gr (adr ρ σ) H (adr (ρ.set i (reSl s m')) σ) (upd H a o) := by
  have ma := adr_at hi ha (hs.imp (fun e => ⟨_, e⟩) fun ⟨k, e⟩ => ⟨k, _, e⟩)
  refine R.putH (fun x u n e => by rw [upd_ne n]; exact e) ⟨o, upd_same⟩ hi hs ha (h.mono (fun x u e => ?_) fun _ e => e)
  obtain ⟨n, e⟩ := frz_some.mp e
  exact frz_some.mpr ⟨n, by rw [upd_ne fun z => n (List.mem_append_right _ (by rw [z]; exact ma))]; exact e⟩
end
/-! ### targets, loops, comprehensions -/
section
variable (K : PySem.W.Frag) (cl : Str → Option Addr)
def TgtE (g : TG) (vs : List Nat) (ρ : Ro) {α : Type} (d : PV → Res α) (ρe : α → Ro) : Prop := ∀ (x : PV) (O bs : List Addr) (σ : St) (H : Hp) (v : V) (Q : St → Hp → Prop) (E : Str → Prop), Rel K cl O bs ρ (wipe σ vs) H → Is K cl (frz H (O ++ adr ρ (wipe σ vs))) v x →
  wp (d x) (fun a => ∀ σ2, Rel K cl O bs (ρe a) σ2 H → adr (ρe a) σ2 = adr ρ (wipe σ vs) → (vs ≠ [] → wipe σ2 vs = wipe σ vs) → Q σ2 H) E → g v (wipe σ vs) H Q
/-- what an iterator yields -/
def ItOk (P : Hp → Prop) (F : Hp) (J : It) (ps : List PV) : Prop := ∀ (H : Hp) (B : List Addr), P H → Sub F (frz H B) → (∀ a, a ∈ B → ∃ o, H a = some o) → J.stop ps.length H ∧
  ∀ i p, ps[i]? = some p → J.go i H ∧ ∀ x H', J.yld i H x H' → Sub H H' ∧ Is K cl (frz H' B) x p
def Iter (W : WX) (wi : TI) (ρ : Ro) (mi : Res (List PV)) : Prop := ∀ (O bs : List Addr) (σ : St) (H : Hp) (R : It → Hp → Prop), Rel K cl O bs ρ σ H →
  wp mi (fun ps => ∀ J H', Sub H H' → ItOk K cl (fun _ => True) (frz H' (O ++ adr ρ σ)) J ps → R J H') (XW cl W σ H) → wi σ H R
def IterV (W : WX) (wi : TI) (ρ : Ro) (mi : Res (List PV)) : Prop := ∀ (O bs : List Addr) (σ : St) (H : Hp) (R : It → Hp → Prop), Rel K cl O bs ρ σ H →
  wp mi (fun ps => ∀ J H', Sub H H' → ItOk K cl (Sub H') (frz H' (O ++ adr ρ σ)) J ps → R J H') (XW cl W σ H) → wi σ H R
end
section
variable {K : PySem.W.Frag} {cl : Str → Option Addr} {W : WX} {bs O A A1 : List Addr} {F H H' H1 : Hp} {ρ ρ' ρx : Ro} {σ : St} {S S1 L : Type} {ρn : S → Ro} {ρj : S1 → Ro} {ρl : L → Ro} {D : Ends} {t u v tb : TS} {te ta tc : TE} {m ma mb : Res PV} {tr : TA} {ml : Res (List PV)} {md : Res (List (Key × PV))}
theorem wipe_get : ∀ {vs : List Nat} {σ : St} {k : Nat}, (wipe σ vs)[k]? = if k ∈ vs then σ[k]?.map (fun _ => none) else σ[k]?
  | [], σ, k => by simp [wipe]
  | v :: vs, σ, k => by
    show ((wipe σ vs).set v none)[k]? = _
    by_cases c : v = k
    · subst c
      rw [List.getElem?_set_self']
      rw [if_pos List.mem_cons_self, wipe_get]
      by_cases d : v ∈ vs
      · rw [if_pos d]
        cases σ[v]? <;> rfl
      · rw [if_neg d]
        cases σ[v]? <;> rfl
    · rw [List.getElem?_set_ne c, wipe_get]
      by_cases d : k ∈ vs
      · rw [if_pos d, if_pos (List.mem_cons_of_mem _ d)]
      · rw [if_neg d, if_neg (fun z => (List.mem_cons.mp z).elim (fun e => c e.symm) d)]
theorem wipe_set {vs : List Nat} {σ τ : St} {i : Nat} {x : Option V} (hi : i ∈ vs) (h : wipe τ vs = wipe σ vs) : wipe (τ.set i x) vs = wipe σ vs := by
  rw [← h]
  refine List.ext_getElem? fun k => ?_
  rw [wipe_get, wipe_get]
  by_cases c : k ∈ vs
  · rw [if_pos c, if_pos c]
    by_cases e : i = k
    · subst e
      rw [List.getElem?_set_self']
      cases τ[i]? <;> rfl
    · rw [List.getElem?_set_ne e]
  · rw [if_neg c, if_neg c, List.getElem?_set_ne fun z => c (by rw [← z]; exact hi)]
theorem wipe_wipe {vs : List Nat} {σ : St} : wipe (wipe σ vs) vs = wipe σ vs := by
  refine List.ext_getElem? fun k => ?_
  rw [wipe_get, wipe_get]
  by_cases c : k ∈ vs
  · rw [if_pos c, if_pos c]
    cases σ[k]? <;> rfl
  · rw [if_neg c, if_neg c]
theorem tg_name {i : Nat} {vs : List Nat} (hn : nad ρ i = true) (hv : vs = [] ∨ i ∈ vs) : TgtE K cl (gName i) vs ρ (fun x => .val x) (fun x => ρ.set i (.fz x)) := fun x O bs σ H v Q E R ix q => by
  refine q _ (R.setfz hn ix) (adr_setn hn) fun ne => ?_
  rcases hv with rfl | hv
  · exact absurd rfl ne
  · exact wipe_set hv wipe_wipe
def un2 : PV → Res (PV × PV)
  | .tup [a, b] => .val (a, b)
  | _ => .stuck
def un3 : PV → Res (PV × PV × PV)
  | .tup [a, b, c] => .val (a, b, c)
  | _ => .stuck
def un4 : PV → Res (PV × PV × PV × PV)
  | .tup [a, b, c, d] => .val (a, b, c, d)
  | _ => .stuck
theorem nad_set : ∀ {ρ : Ro} {i j : Nat} {p : PV}, nad ρ j = true → nad (ρ.set i (.fz p)) j = true
  | [], i, j, p, h => by cases h
  | s :: ρ, 0, 0, p, h => rfl
  | s :: ρ, 0, j + 1, p, h => by cases s <;> exact h
  | s :: ρ, i + 1, 0, p, h => by cases s <;> exact h
  | s :: ρ, i + 1, j + 1, p, h => by
    show nad (s :: ρ.set i (.fz p)) (j + 1) = true
    cases s <;> exact nad_set (ρ := ρ) h
theorem tg_2 {i j : Nat} {vs : List Nat} (hi : nad ρ i = true) (hj : nad ρ j = true) (hv : vs = [] ∨ (i ∈ vs ∧ j ∈ vs)) : TgtE K cl (gTup K 2 (gCons (gName i) (gCons (gName j) gNil))) vs ρ un2 (fun x => (ρ.set i (.fz x.1)).set j (.fz x.2)) := fun x O bs σ H v Q E R ix q => by
  unfold un2 at q
  split at q
  · cases ix with
    | tup h l =>
    cases l with
    | cons a l =>
    cases l with
    | cons b l =>
    cases l
    refine ⟨_, _, rfl, frz_sub.sqT h, rfl, _, _, rfl, _, _, rfl, rfl, ?_⟩
    have R1 := R.setfz hi a
    have e1 := adr_setn (σ := wipe σ vs) (p := ‹PV›) (x := some ‹V›) hi
    refine q _ (Rel.setfz (R.setfz hi a) (nad_set hj) (by rw [adr_setn hi]; exact b)) ?_ fun ne => ?_
    · rw [adr_setn (nad_set hj), adr_setn hi]
    · rcases hv with rfl | ⟨h1, h2⟩
      · exact absurd rfl ne
      · exact wipe_set h2 (wipe_set h1 wipe_wipe)
  · exact q.elim
theorem tg_3 {i j k : Nat} {vs : List Nat} (hi : nad ρ i = true) (hj : nad ρ j = true) (hk : nad ρ k = true) (hv : vs = [] ∨ (i ∈ vs ∧ j ∈ vs ∧ k ∈ vs)) : TgtE K cl (gTup K 3 (gCons (gName i) (gCons (gName j) (gCons (gName k) gNil)))) vs ρ un3 (fun x => ((ρ.set i (.fz x.1)).set j (.fz x.2.1)).set k (.fz x.2.2)) := fun x O bs σ H v Q E R ix q => by
  unfold un3 at q
  split at q
  · cases ix with
    | tup h l =>
    cases l with
    | cons a l =>
    cases l with
    | cons b l =>
    cases l with
    | cons c l =>
    cases l
    refine ⟨_, _, rfl, frz_sub.sqT h, rfl, _, _, rfl, _, _, rfl, _, _, rfl, rfl, ?_⟩
    refine q _ (Rel.setfz (Rel.setfz (R.setfz hi a) (nad_set hj) (by rw [adr_setn hi]; exact b)) (nad_set (nad_set hk)) (by rw [adr_setn (nad_set hj), adr_setn hi]; exact c)) ?_ fun ne => ?_
    · rw [adr_setn (nad_set (nad_set hk)), adr_setn (nad_set hj), adr_setn hi]
    · rcases hv with rfl | ⟨h1, h2, h3⟩
      · exact absurd rfl ne
      · exact wipe_set h3 (wipe_set h2 (wipe_set h1 wipe_wipe))
  · exact q.elim
theorem tg_4 {i j k l' : Nat} {vs : List Nat} (hi : nad ρ i = true) (hj : nad ρ j = true) (hk : nad ρ k = true) (hl : nad ρ l' = true) (hv : vs = [] ∨ (i ∈ vs ∧ j ∈ vs ∧ k ∈ vs ∧ l' ∈ vs)) : TgtE K cl (gTup K 4 (gCons (gName i) (gCons (gName j) (gCons (gName k) (gCons (gName l') gNil))))) vs ρ un4 (fun x => (((ρ.set i (.fz x.1)).set j (.fz x.2.1)).set k (.fz x.2.2.1)).set l' (.fz x.2.2.2)) := fun x O bs σ H v Q E R ix q => by
  unfold un4 at q
  split at q
  · cases ix with
    | tup h l =>
    cases l with
    | cons a l =>
    cases l with
    | cons b l =>
    cases l with
    | cons c l =>
    cases l with
    | cons d l =>
    cases l
    refine ⟨_, _, rfl, frz_sub.sqT h, rfl, _, _, rfl, _, _, rfl, _, _, rfl, _, _, rfl, rfl, ?_⟩
    refine q _ (Rel.setfz (Rel.setfz (Rel.setfz (R.setfz hi a) (nad_set hj) (by rw [adr_setn hi]; exact b)) (nad_set (nad_set hk)) (by rw [adr_setn (nad_set hj), adr_setn hi]; exact c)) (nad_set (nad_set (nad_set hl))) (by rw [adr_setn (nad_set (nad_set hk)), adr_setn (nad_set hj), adr_setn hi]; exact d)) ?_ fun ne => ?_
    · rw [adr_setn (nad_set (nad_set (nad_set hl))), adr_setn (nad_set (nad_set hk)), adr_setn (nad_set hj), adr_setn hi]
    · rcases hv with rfl | ⟨h1, h2, h3, h4⟩
      · exact absurd rfl ne
      · exact wipe_set h4 (wipe_set h3 (wipe_set h2 (wipe_set h1 wipe_wipe)))
  · exact q.elim
/-- x = e, a, b = e -/
theorem run_asg {g : TG} {α : Type} {d : PV → Res α} {ρe : α → Ro} {n : α → Res (Fl S L)} (he : Pur K cl W te ρ m) (hg : TgtE K cl g [] ρ d ρe) (w : Wk ρ ρx) (h : ∀ a, Runs K cl W u (ρe a) (n a) ρn ρl ρx) :
    Runs K cl W (tSeq (tAsg te g) u) ρ (m >>= fun x => d x >>= n) ρn ρl ρx := fun O bs σ H D R hb q => by
  refine he O bs σ H _ R (wp_mono (wp_bind.mp q) (fun x qx v H' s ix => ?_) fun _ z => z.xw R w)
  refine hg x O bs σ H' v _ _ (R.same s) ix (wp_mono (wp_bind.mp qx) (fun a qa σ2 R2 e _ => ?_) fun _ z => z)
  have gr : Gr (adr ρ σ) H (adr (ρe a) σ2) H' := by rw [e]; exact Gr.of s
  exact h a O bs σ2 H' D R2 hb (wp_mono qa (fun _ z => z.step gr) fun _ z => z.step gr)
/-! for -/
def forF {S L : Type} (body : PV → S → Res (Fl S S)) : List PV → S → Res (Fl S L)
  | [], s => .val (.nx s)
  | x :: xs, s => body x s >>= fun f => match f with
    | .nx s' => forF body xs s'
    | .ct s' => forF body xs s'
    | .bk s' => .val (.nx s')
    | .rt v r => .val (.rt v r)
    | .ro mo r => .val (.ro mo r)
theorem run_for {wi : TI} {g : TG} {mi : Res (List PV)} {α : Type} {d : PV → Res α} {ρs : S → Ro} {ρe : S → α → Ro} {s0 : S} {body : α → S → Res (Fl S S)} (hi : Iter K cl W wi ρ mi) (w0 : Wk ρ (ρs s0)) (w : Wk ρ ρx) (hg : ∀ s, TgtE K cl g [] (ρs s) d (ρe s))
    (hb : ∀ a s, Runs K cl W tb (ρe s a) (body a s) ρs ρs ρx) : Runs K cl W (tFor wi g tb) ρ (mi >>= fun ps => forF (fun x s => d x >>= fun a => body a s) ps s0) ρs ρl ρx := fun O bs σ H D R hbs q => by
  refine hi O bs σ H _ R (wp_mono (wp_bind.mp q) (fun ps qp J H1 s1 hJ => ?_) fun _ z => z.xw R w)
  have R1 := R.same s1
  have g1 : Gr (adr ρ σ) H (adr (ρs s0) σ) H1 := (Gr.of s1).trans (Gr.wk w0)
  refine ⟨fun i mm σ' H' => mm = ps.length - i ∧ i ≤ ps.length ∧ ∃ s, Rel K cl O bs (ρs s) σ' H' ∧ Gr (adr ρ σ) H (adr (ρs s) σ') H' ∧ Sub (frz H1 (O ++ adr ρ σ)) (frz H' (O ++ adr (ρs s) σ')) ∧
      wp (forF (L := L) (fun x s => d x >>= fun a => body a s) (ps.drop i) s) (FlOk K cl O bs ρs ρl D (adr ρ σ) H) (ExOk K cl W O bs ρx (adr ρ σ) H),
    ⟨_, rfl, Nat.zero_le _, s0, R1.wk w0, g1, Gr.sub (Gr.wk w0) R1.al, by rw [List.drop_zero]; exact qp⟩, ?_⟩
  rintro i mm σ' H' ⟨rfl, hle, s, R', g', sF, qw⟩
  obtain ⟨hs, hg'⟩ := hJ H' _ trivial sF (fun a ha => R'.got ha)
  by_cases c : i = ps.length
  · subst c
    rw [List.drop_length] at qw
    exact .inl ⟨hs, qw σ' H' g' R'⟩
  · have hlt : i < ps.length := by omega
    obtain ⟨hgo, hy⟩ := hg' i _ (List.getElem?_eq_getElem hlt)
    rw [List.drop_eq_getElem_cons hlt] at qw
    refine .inr ⟨hgo, fun σ2 H2 => ∃ s', Rel K cl O bs (ρs s') σ2 H2 ∧ Gr (adr ρ σ) H (adr (ρs s') σ2) H2 ∧ Sub (frz H1 (O ++ adr ρ σ)) (frz H2 (O ++ adr (ρs s') σ2)) ∧ wp (forF (L := L) (fun x s => d x >>= fun a => body a s) (ps.drop (i + 1)) s') (FlOk K cl O bs ρs ρl D (adr ρ σ) H) (ExOk K cl W O bs ρx (adr ρ σ) H),
      fun σ2 H2 ⟨s', z⟩ => ⟨_, by omega, rfl, by omega, s', z⟩, fun x H2 hyx => ?_⟩
    obtain ⟨s2, ix⟩ := hy x H2 hyx
    have R2 := R'.same s2
    have qw := wp_bind.mp (wp_bind.mp qw)
    refine hg s ps[i] O bs σ' H2 x _ _ R2 ix (wp_mono qw (fun a qa σ3 R3 e3 _ => ?_) fun _ z => z)
    have g3 : Gr (adr ρ σ) H (adr (ρe s a) σ3) H2 := by rw [e3]; exact g'.trans (Gr.of s2)
    have sF3 : Sub (frz H1 (O ++ adr ρ σ)) (frz H2 (O ++ adr (ρe s a) σ3)) := by rw [e3]; exact sF.trans (frz_same s2)
    refine hb a s O bs σ3 H2 _ R3 hbs (wp_mono qa (fun f qf => ?_) fun _ z => z.step g3)
    cases f with
    | nx s' => exact fun σ4 H4 g4 R4 => ⟨s', R4, g3.trans g4, sF3.trans (g4.sub R3.al), qf⟩
    | ct s' => exact fun σ4 H4 g4 R4 => ⟨s', R4, g3.trans g4, sF3.trans (g4.sub R3.al), qf⟩
    | bk s' => exact fun σ4 H4 g4 R4 => qf σ4 H4 (g3.trans g4) R4
    | rt v r => exact FlOk.step (f := Fl.rt v r) qf g3
    | ro mo r => exact FlOk.step (f := Fl.ro mo r) qf g3
/-! while -/
def whileF {S L : Type} (c : S → Res Bool) (body : S → Res (Fl S S)) : Nat → S → Res (Fl S L)
  | 0, _ => .stuck
  | n + 1, s => c s >>= fun b => if b = true then body s >>= fun f => match f with
      | .nx s' => whileF c body n s'
      | .ct s' => whileF c body n s'
      | .bk s' => .val (.nx s')
      | .rt v r => .val (.rt v r)
      | .ro mo r => .val (.ro mo r)
    else .val (.nx s)
theorem run_while {c : TT} {ρs : S → Ro} {s0 : S} {fuel : Nat} {mc : S → Res Bool} {body : S → Res (Fl S S)} (w0 : Wk ρ (ρs s0)) (w : ∀ s, Wk (ρs s) ρx) (hc : ∀ s, Tst K cl W c (ρs s) (mc s))
    (hb : ∀ s, Runs K cl W tb (ρs s) (body s) ρs ρs ρx) : Runs K cl W (tWhile c tb) ρ (whileF mc body fuel s0) ρs ρl ρx := fun O bs σ H D R hbs q => by
  refine ⟨fun mm σ' H' => ∃ s, Rel K cl O bs (ρs s) σ' H' ∧ Gr (adr ρ σ) H (adr (ρs s) σ') H' ∧ wp (whileF (L := L) mc body mm s) (FlOk K cl O bs ρs ρl D (adr ρ σ) H) (ExOk K cl W O bs ρx (adr ρ σ) H),
    ⟨fuel, s0, R.wk w0, Gr.wk w0, q⟩, ?_⟩
  rintro mm σ' H' ⟨s, R', g', qw⟩
  cases mm with
  | zero => exact qw.elim
  | succ mm =>
    refine hc s O bs σ' H' _ R' (wp_mono (wp_bind.mp qw) (fun b qb H2 s2 => ?_) fun _ z => (z.step g').xw R' (w s))
    have R2 := R'.same s2
    have g2 := g'.trans (Gr.of s2)
    cases b with
    | false => exact qb σ' H2 g2 R2
    | true =>
      refine ⟨fun σ2 H2 => ∃ s', Rel K cl O bs (ρs s') σ2 H2 ∧ Gr (adr ρ σ) H (adr (ρs s') σ2) H2 ∧ wp (whileF (L := L) mc body mm s') (FlOk K cl O bs ρs ρl D (adr ρ σ) H) (ExOk K cl W O bs ρx (adr ρ σ) H), fun σ2 H2 z => ⟨mm, Nat.lt_succ_self _, z⟩, ?_⟩
      refine hb s O bs σ' H2 _ R2 hbs (wp_mono (wp_bind.mp qb) (fun f qf => ?_) fun _ z => z.step g2)
      cases f with
      | nx s' => exact fun σ4 H4 g4 R4 => ⟨s', R4, g2.trans g4, qf⟩
      | ct s' => exact fun σ4 H4 g4 R4 => ⟨s', R4, g2.trans g4, qf⟩
      | bk s' => exact fun σ4 H4 g4 R4 => qf σ4 H4 (g2.trans g4) R4
      | rt v r => exact FlOk.step (f := Fl.rt v r) qf g2
      | ro mo r => exact FlOk.step (f := Fl.ro mo r) qf g2
/-! a list comprehension whose parts change nothing -/
def noX {α : Type} : Res α → Res α
  | .val a => .val a
  | _ => .stuck
theorem wp_noX {α : Type} {mm : Res α} {Q : α → Prop} {E E' : Str → Prop} (h : wp (noX mm) Q E) : wp mm Q E' := by
  cases mm with
  | val a => exact h
  | exc c => exact h.elim
  | stuck => exact h.elim
def lcF {α : Type} (d : PV → Res α) (c : α → Res Bool) (e : α → Res PV) : List PV → Res (List PV)
  | [] => .val []
  | x :: xs => noX (d x) >>= fun a => noX (c a) >>= fun b => if b = true then noX (e a) >>= fun y => lcF d c e xs >>= fun ys => .val (y :: ys) else lcF d c e xs
def nads (ρ : Ro) (vs : List Nat) : Bool := vs.all fun i => nad ρ i
theorem adr_setu : ∀ {ρ : Ro} {σ : St} {i : Nat} {x : Option V}, nad ρ i = true → adr ρ (σ.set i x) = adr ρ σ ∧ owa ρ (σ.set i x) = owa ρ σ
  | [], σ, i, x, h => by cases h
  | s :: ρ, [], i, x, h => ⟨rfl, rfl⟩
  | s :: ρ, y :: σ, 0, x, h => by cases s <;> first | exact ⟨rfl, rfl⟩ | cases h
  | s :: ρ, y :: σ, i + 1, x, h => by
    have ih := adr_setu (ρ := ρ) (σ := σ) (i := i) (x := x) (by cases s <;> exact h)
    show adr (s :: ρ) (y :: σ.set i x) = adr (s :: ρ) (y :: σ) ∧ owa (s :: ρ) (y :: σ.set i x) = owa (s :: ρ) (y :: σ)
    cases s with
    | un => exact ih
    | fz q => exact ih
    | ow m => cases y with
      | none => exact ih
      | some v => cases v <;> first | exact ih | exact ⟨congrArg (_ :: ·) ih.1, congrArg (_ :: ·) ih.2⟩
    | rf k m => cases y with
      | none => exact ih
      | some v => cases v <;> first | exact ih | exact ⟨congrArg (_ :: ·) ih.1, ih.2⟩
def wipeR (ρ : Ro) : List Nat → Ro
  | [] => ρ
  | v :: vs => (wipeR ρ vs).set v .un
theorem RelS.setun {F : Hp} (r : RelS K cl bs F H ρ σ) {i : Nat} {x : Option V} : RelS K cl bs F H (ρ.set i .un) (σ.set i x) := r.set trivial
theorem adr_wipe1 : ∀ {ρ : Ro} {σ : St} {i : Nat} {x : Option V}, nad ρ i = true → adr (ρ.set i .un) (σ.set i x) = adr ρ σ ∧ owa (ρ.set i .un) (σ.set i x) = owa ρ σ
  | [], σ, i, x, h => by cases h
  | s :: ρ, [], i, x, h => by
    cases i with
    | zero => cases s <;> exact ⟨rfl, rfl⟩
    | succ i => cases s <;> exact ⟨rfl, rfl⟩
  | s :: ρ, y :: σ, 0, x, h => by cases s <;> first | exact ⟨rfl, rfl⟩ | cases h
  | s :: ρ, y :: σ, i + 1, x, h => by
    have ih := adr_wipe1 (ρ := ρ) (σ := σ) (i := i) (x := x) (by cases s <;> exact h)
    show adr (s :: ρ.set i .un) (y :: σ.set i x) = adr (s :: ρ) (y :: σ) ∧ owa (s :: ρ.set i .un) (y :: σ.set i x) = owa (s :: ρ) (y :: σ)
    cases s with
    | un => exact ih
    | fz q => exact ih
    | ow m => cases y with
      | none => exact ih
      | some v => cases v <;> first | exact ih | exact ⟨congrArg (_ :: ·) ih.1, congrArg (_ :: ·) ih.2⟩
    | rf k m => cases y with
      | none => exact ih
      | some v => cases v <;> first | exact ih | exact ⟨congrArg (_ :: ·) ih.1, ih.2⟩
theorem nad_setu : ∀ {ρ : Ro} {i j : Nat}, nad ρ j = true → nad (ρ.set i .un) j = true
  | [], i, j, h => by cases h
  | s :: ρ, 0, 0, h => rfl
  | s :: ρ, 0, j + 1, h => by cases s <;> exact h
  | s :: ρ, i + 1, 0, h => by cases s <;> exact h
  | s :: ρ, i + 1, j + 1, h => by
    show nad (s :: ρ.set i .un) (j + 1) = true
    cases s <;> exact nad_setu (ρ := ρ) h
theorem nad_wipe {j : Nat} (h : nad ρ j = true) : ∀ vs : List Nat, nad (wipeR ρ vs) j = true
  | [] => h
  | _ :: vs => nad_setu (nad_wipe h vs)
theorem Rel.wipe (R : Rel K cl O bs ρ σ H) : ∀ {vs : List Nat}, nads ρ vs = true → Rel K cl O bs (wipeR ρ vs) (wipe σ vs) H ∧ adr (wipeR ρ vs) (wipe σ vs) = adr ρ σ
  | [], _ => ⟨R, rfl⟩
  | v :: vs, h => by
    have h' := Bool.and_eq_true_iff.mp (show (nad ρ v && nads ρ vs) = true from h)
    obtain ⟨R', e⟩ := R.wipe h'.2
    obtain ⟨e1, e2⟩ := adr_wipe1 (σ := L2.wipe σ vs) (x := none) (nad_wipe h'.1 vs)
    refine ⟨⟨?_, ?_, R'.al, ?_⟩, e1.trans e⟩
    · show RelS K cl bs (frz H (O ++ adr ((wipeR ρ vs).set v .un) ((L2.wipe σ vs).set v none))) H _ _
      rw [e1]
      exact R'.sl.setun
    · show (adr ((wipeR ρ vs).set v .un) ((L2.wipe σ vs).set v none)).Nodup
      rw [e1]; exact R'.nd
    · show ∀ a, a ∈ owa ((wipeR ρ vs).set v .un) ((L2.wipe σ vs).set v none) → a ∉ O
      rw [e2]; exact R'.ow
/-- O may grow by an object that is not owned -/
theorem Rel.wider (R : Rel K cl O bs ρ σ H) {a : Addr} {o : HO} (ha : H a = none) : Rel K cl (a :: O) bs ρ σ (upd H a o) := by
  have nA : ∀ b, b ∈ O ++ adr ρ σ → b ≠ a := fun b hb z => by
    obtain ⟨u, e⟩ := R.got hb
    rw [z, ha] at e; cases e
  refine ⟨R.sl.mono (fun x u e => ?_) fun b u hb e => by rw [upd_ne (nA b (List.mem_append_right _ hb))]; exact e, R.nd, fun b hb => ?_, fun b hb => ?_⟩
  · obtain ⟨n, e⟩ := frz_some.mp e
    have ne : x ≠ a := ne_of_none e ha
    refine frz_some.mpr ⟨fun z => ?_, by rw [upd_ne ne]; exact e⟩
    rcases List.mem_cons.mp (show x ∈ a :: (O ++ adr ρ σ) from z) with c | c
    · exact ne c
    · exact n c
  · rcases List.mem_cons.mp hb with c | c
    · rw [c]; exact ⟨o, upd_same⟩
    · obtain ⟨u, e⟩ := R.al b c
      exact ⟨u, by rw [upd_ne (nA b (List.mem_append_left _ c))]; exact e⟩
  · intro z
    rcases List.mem_cons.mp z with c | c
    · exact nA b (List.mem_append_right _ (owa_sub hb)) c
    · exact R.ow b hb c
/-- an object of O changes -/
theorem Rel.putO (R : Rel K cl O bs ρ σ H) {a : Addr} {o : HO} (ha : a ∈ O) (hn : a ∉ adr ρ σ) : Rel K cl O bs ρ σ (upd H a o) := by
  refine ⟨R.sl.mono (fun x u e => ?_) fun b u hb e => by rw [upd_ne fun z => hn (by rw [← z]; exact hb)]; exact e, R.nd, fun b hb => ?_, R.ow⟩
  · obtain ⟨n, e⟩ := frz_some.mp e
    exact frz_some.mpr ⟨n, by rw [upd_ne fun z => n (by rw [z]; exact List.mem_append_left _ ha)]; exact e⟩
  · by_cases c : b = a
    · rw [c]; exact ⟨o, upd_same⟩
    · obtain ⟨u, e⟩ := R.al b hb
      exact ⟨u, by rw [upd_ne c]; exact e⟩
theorem nw_lc {wi : TI} {g : TG} {tt : TT} {vs : List Nat} {mi : Res (List PV)} {α : Type} {d : PV → Res α} {ρe : α → Ro} {mc : α → Res Bool} {me : α → Res PV} (hi : IterV K cl W wi ρ mi) (hv : nads ρ vs = true) (hne : vs ≠ []) (hg : TgtE K cl g vs (wipeR ρ vs) d ρe)
    (ht : ∀ a, Tst K cl (fun _ _ _ _ => False) tt (ρe a) (mc a)) (he : ∀ a, Pur K cl (fun _ _ _ _ => False) te (ρe a) (me a)) : New K cl W (tLc wi g tt te vs) ρ (mi >>= fun ps => sized ps.length >>= fun _ => lcF d mc me ps) := fun O bs σ H Q R q => by
  refine hi O bs σ H _ R (wp_mono (wp_bind.mp q) (fun ps qp J H1 s1 hJ => ?_) fun _ z => z)
  obtain ⟨hz, qp⟩ := wp_sized (wp_bind.mp qp)
  intro Da hD
  have R1 := R.same s1
  have hD0 : H Da = none := none_back s1 hD
  obtain ⟨Rw, ew⟩ := R1.wipe hv
  have Rw0 := Rw.wider (o := .lst []) hD
  have nDA : Da ∉ O ++ adr ρ σ := fun z => by
    obtain ⟨u, e⟩ := R1.got z
    rw [hD] at e; cases e
  refine ⟨fun i mm H2 => mm = ps.length - i ∧ i ≤ ps.length ∧ Sub H1 H2 ∧ Rel K cl (Da :: O) bs (wipeR ρ vs) (wipe σ vs) H2 ∧ ∃ acc qs, H2 Da = some (.lst acc) ∧ acc.length ≤ i ∧ IsL K cl (frz H2 (Da :: (O ++ adr ρ σ))) acc qs ∧
      wp (lcF d mc me (ps.drop i)) (fun ys => ∀ p ws H', Sub H H' → H p = none → H' p = some (.lst ws) → IsL K cl (frz H' (p :: (O ++ adr ρ σ))) ws (qs ++ ys) → Q (.ref p) H') (XW cl W σ H),
    ⟨_, rfl, Nat.zero_le _, sub_new hD _, Rw0, [], [], upd_same, Nat.le_refl _, .nil, by rw [List.drop_zero]; exact qp⟩, ?_⟩
  rintro i mm H2 ⟨rfl, hle, s2, R2, acc, qs, ha, hal, hl, qw⟩
  have sF : Sub (frz H1 (O ++ adr ρ σ)) (frz H2 (Da :: (O ++ adr ρ σ))) := fun x u e => by
    obtain ⟨n, e⟩ := frz_some.mp e
    refine frz_some.mpr ⟨fun z => ?_, s2 _ _ e⟩
    rcases List.mem_cons.mp z with c | c
    · rw [c, hD] at e; cases e
    · exact n c
  have gotB : ∀ a, a ∈ Da :: (O ++ adr ρ σ) → ∃ o, H2 a = some o := fun a z => R2.got (by rw [ew]; exact z)
  obtain ⟨hs, hgo⟩ := hJ H2 _ s2 sF gotB
  by_cases c : i = ps.length
  · subst c
    rw [List.drop_length] at qw
    have := qw Da acc H2 (s1.trans s2) hD0 ha (by rw [List.append_nil]; exact hl)
    exact .inl ⟨hs, this⟩
  · have hlt : i < ps.length := by omega
    obtain ⟨hgi, hy⟩ := hgo i _ (List.getElem?_eq_getElem hlt)
    rw [List.drop_eq_getElem_cons hlt] at qw
    refine .inr ⟨hgi, fun H3 => Sub H1 H3 ∧ Rel K cl (Da :: O) bs (wipeR ρ vs) (wipe σ vs) H3 ∧ ∃ acc qs, H3 Da = some (.lst acc) ∧ acc.length ≤ i + 1 ∧ IsL K cl (frz H3 (Da :: (O ++ adr ρ σ))) acc qs ∧
      wp (lcF d mc me (ps.drop (i + 1))) (fun ys => ∀ p ws H', Sub H H' → H p = none → H' p = some (.lst ws) → IsL K cl (frz H' (p :: (O ++ adr ρ σ))) ws (qs ++ ys) → Q (.ref p) H') (XW cl W σ H),
      fun H3 z => ⟨_, by omega, rfl, by omega, z⟩, fun x H3 hyx => ?_⟩
    obtain ⟨s3, ix⟩ := hy x H3 hyx
    have R3 := R2.same s3
    have qw := wp_bind.mp qw
    refine hg ps[i] (Da :: O) bs σ H3 x _ _ R3 (by rw [ew]; exact ix) (wp_mono (wp_noX (E' := fun _ => False) qw) (fun a qa σ4 R4 e4 w4 => ?_) fun _ z => z)
    refine ⟨w4 hne, ht a (Da :: O) bs σ4 H3 _ R4 (wp_mono (wp_noX (E' := fun _ => False) (wp_bind.mp qa)) (fun b qb H5 s5 => ?_) fun _ z => z.elim)⟩
    have R5 := R3.same s5
    have ha5 := s5 _ _ (s3 _ _ ha)
    have s25 := s3.trans s5
    cases b with
    | false => exact ⟨s2.trans s25, R5, acc, qs, ha5, by omega, hl.mono (frz_same s25), qb⟩
    | true =>
      refine he a (Da :: O) bs σ4 H5 _ (R4.same s5) (wp_mono (wp_noX (E' := fun _ => False) (wp_bind.mp qb)) (fun y qy vy H6 s6 iy => ?_) fun _ z => z.elim)
      rw [e4, ew] at iy
      have ha6 := s6 _ _ ha5
      have keepD : ∀ x u, x ≠ Da → H6 x = some u → upd H6 Da (.lst (acc ++ [vy])) x = some u := fun x u n e => by rw [upd_ne n]; exact e
      have sD : Sub (frz H6 (Da :: (O ++ adr ρ σ))) (frz (upd H6 Da (.lst (acc ++ [vy]))) (Da :: (O ++ adr ρ σ))) := fun x u e => by
        obtain ⟨n, e⟩ := frz_some.mp e
        exact frz_some.mpr ⟨n, keepD x u (fun z => n (z ▸ List.mem_cons_self)) e⟩
      refine ⟨acc, ha6, by omega, fun x u e => keepD x u (ne_of_none e hD) (s6 _ _ (s25 _ _ (s2 _ _ e))), (R5.same s6).putO List.mem_cons_self (by rw [ew]; exact fun z => nDA (List.mem_append_right _ z)), acc ++ [vy], qs ++ [y], upd_same, by rw [List.length_append, List.length_singleton]; omega, ?_, ?_⟩
      · exact ((hl.mono (frz_same (s25.trans s6))).append (.one iy)).mono sD
      · refine wp_mono (wp_bind.mp qy) (fun ys qys p ws H' h1 h2 h3 h4 => ?_) fun _ z => z
        exact qys p ws H' h1 h2 h3 (by rw [List.append_assoc] at h4; exact h4)
theorem ts_yes : Tst K cl W tYes ρ (.val true) := fun O bs σ H Q R q => q H .refl
end
/-! ### enumerate(tuple), walked -/
section
open PySem.Spec PyProof.Rows
abbrev enO (p : Addr) : Obj := { cls := .type "enumerate", data := .fields #[.none, .bool false, .ref p, rawInt 0, .none, .none] }
set_option maxHeartbeats 1000000 in
theorem meets_enT {v : Value} {ob : Obj} {Hh : Heap → Prop} (B : Begins v ob Hh) :
    Meets (Builtin.«enumerate.__new__» ⟨[.type "enumerate", v], []⟩) (fun _ R st => Hh st.heap ∧ R (.ok (.ret (.ref (st.heap.push ob).objs.size))) { st with heap := (st.heap.push ob).push (enO st.heap.objs.size) }) :=
  .of_wp fun prog w A R st z => by
    obtain ⟨h0, gs, dr, tk, o5⟩ := st
    obtain ⟨z1, z2⟩ := z
    have sub := sub_enumerate
    have q1 : ∀ {A2 : Around} {E2 : Value → Shared → Prop} {Q2 : Value → Shared → Prop}, Q2 (.ref h0.objs.size) ⟨h0.push ob, gs, dr, tk, o5⟩ → wpAny (model prog w) A2 (pyIter v) Q2 E2 ⟨h0, gs, dr, tk, o5⟩ :=
      fun y => B.iter prog w _ _ ⟨h0, gs, dr, tk, o5⟩ _ z1 y
    wp_walk using q1
    refine wpAny_stack_any fun below => wpAny_pure ?_
    split
    · rename_i c _ _ _ _ _
      cases (c == Value.type "enumerate") <;> (wp_walk using q1; exact ⟨_, rfl, z2⟩)
    · wp_walk using q1
      exact ⟨_, rfl, z2⟩
section
variable {prog : Program} {w : World} {A : Around} {E : Value → Shared → Prop} {st : Shared}
theorem call_enT {v : Value} {ob : Obj} {Hh : Heap → Prop} {Q : Value → Shared → Prop} (B : Begins v ob Hh) (z : Hh st.heap)
    (q : ∀ g, IsEnum g (st.heap.objs.size + 1) st.heap.objs.size 0 .none → g.get? st.heap.objs.size = some ob → (∀ b o, st.heap.get? b = some o → g.get? b = some o) → Q (.ref (st.heap.objs.size + 1)) { st with heap := g }) :
    wpAny (model prog w) A (call (.type "enumerate") [v]) Q E st := by
  refine callType_new F.called_enumerate (by decide) (F.typeCall_enumerate_1 _) (F.newCall_enumerate_1 _) (fun ob2 => F.args_object_init_2 ob2 _) F.entry_enumerate_new (meets_enT B) ⟨z, ?_⟩
  have sz : (st.heap.push ob).objs.size = st.heap.objs.size + 1 := Heap.size_push ..
  show _ ∧ _
  rw [sz]
  have en : IsEnum ((st.heap.push ob).push (enO st.heap.objs.size)) (st.heap.objs.size + 1) st.heap.objs.size 0 .none := by
    have y := Heap.get?_push_size (st.heap.push ob) (o := enO st.heap.objs.size) rfl
    rw [sz] at y
    exact y
  exact ⟨⟨_, en, rfl⟩, q _ en (Heap.get?_push_of_some _ (Heap.get?_push_size _ B.free)) fun b o y => Heap.get?_push_of_some _ (Heap.get?_push_of_some _ y)⟩
end
/-- the tuple at a as it stands, each item in a new pair -/
def IteT (K : PySem.W.Frag) (a : Addr) : It :=
  ⟨fun i H => ∃ (ys : List V) (y : V), SqT K H a ys ∧ ys[i]? = some y, fun i H v H2 => ∃ T y, v = .ref T ∧ H T = none ∧ H2 = upd H T (.tup [.int (i : Nat), y]) ∧ ∀ ys, SqT K H a ys → ys[i]? = some y, fun i H => ∃ ys : List V, SqT K H a ys ∧ ys.length = i⟩
theorem turn_enT {P : Program} {w : World} {K : PySem.W.Frag} {elts : List Expr} {kk : Nat} {tpos : Pos} (a e it : Addr) :
    Turn P w K (.Tuple elts kk tpos) (IteT K a) [e, it] e (fun i g => (∃ old, IsEnum g e it ((i : Nat) : Int) old) ∧ g.IsTupleIter it a i ∧ e ≠ it ∧ a ≠ it ∧ a ≠ e) where
  mem := by simp
  obj := fun i g z b hb => by
    obtain ⟨⟨old, en⟩, ⟨o, o1, o2, o3⟩, _⟩ := z
    rcases (show b = e ∨ b = it by simpa using hb) with y | y
    · subst y
      exact ⟨_, en, fun v q => nomatch q⟩
    · subst y
      exact ⟨o, o1, fun v q => by rw [o3] at q; cases q⟩
  keep := fun i g g2 z k => let ⟨⟨old, en⟩, ti, n1, n2, n3⟩ := z; ⟨⟨old, k e (by simp) _ en⟩, ti.at fun o q => k it (by simp) o q, n1, n2, n3⟩
  item := by
    intro X eP ew eK hc i pins s σ H E I hf z hg
    subst eP ew eK
    obtain ⟨⟨old, en⟩, ti, n1, n2, n3⟩ := z
    obtain ⟨ys, y, hq, hy⟩ := hg
    obtain ⟨its, rv, p, _⟩ := I.tuple hq
    obtain ⟨u, hu, ru⟩ := rv.get hy
    have le : e < s.heap.objs.size := Heap.lt_size en
    have li : it < s.heap.objs.size := by
      obtain ⟨_, q, _⟩ := ti
      exact Heap.lt_size q
    have D := Draws.tuple (prog := X.prog) (w := X.w) (A := X.A.in1) (show X.A.in1.handled = none from I.ok.hd hc) it a n2 its.toArray
    refine wpAny_pyNext_enum_itemD D en ⟨ti, show s.heap.IsTuple a its.toArray from p⟩ (by rw [List.size_toArray]; exact (List.getElem?_eq_some_iff.mp hu).1) n1 (by simp [n1, n3.symm]) fun x g tk hx eo dt hT _ hk => ?_
    have ex : x = u := by
      have q1 : its[i]? = some x := by simpa using hx
      rw [hu] at q1
      exact (Option.some.inj q1).symm
    subst ex
    refine ⟨_, rfl, wpAny_letOwnedTupleGo_enum (s := { s with heap := g, toks := tk + 1 }) eo fun g2 en2 sb => ?_⟩
    have hT2 : g2.get? s.heap.objs.size = some { cls := .type "tuple", data := .seq #[.int i tk, x] } := (sb.2 _ (Nat.ne_of_gt le)).trans hT
    have new : ObjOk X.prog X.w (upd H s.heap.objs.size (.tup [.int (i : Nat), y])) g2 s.heap.objs.size (.tup [.int (i : Nat), y]) :=
      ⟨by show 2 ≤ sizeLine; decide, [.int i tk, x], .cons ⟨_, rfl⟩ (.cons ru .nil), ⟨_, hT2, rfl, _, rfl⟩⟩
    have I1 : Inv X pins σ (upd H s.heap.objs.size (.tup [.int (i : Nat), y])) { s with heap := g2, toks := tk + 1 } :=
      I.turnedNew (ch := [e, it]) (fun b ob nb q => (sb.2 b fun z => nb (by simp [z])).trans (hk b ob (fun z => nb (by simp [z])) (fun z => nb (by simp [z])) q)) hf (Nat.le_refl _) new
    refine ⟨.ref s.heap.objs.size, _, I1, rfl, ⟨_, y, rfl, I.hok.fresh (Nat.le_refl _), rfl, fun zs hz => by rw [I.tuple_inj hz hq]; exact hy⟩, ⟨⟨x, ?_⟩, dt.1.at fun o q => (sb.2 it (Ne.symm n1)).trans q, n1, n2, n3⟩, fun b hb => ?_⟩
    · rw [show ((i + 1 : Nat) : Int) = (i : Int) + 1 by omega]
      exact en2
    · have lb : b < s.heap.objs.size := by
        rcases (show b = e ∨ b = it by simpa using hb) with y | y
        · rw [y]; exact le
        · rw [y]; exact li
      rw [upd_ne (Nat.ne_of_lt lb)]
      exact (hf b hb).1
  done := by
    intro X eP ew eK hc i pins s σ H E I hf z hg
    subst eP ew eK
    obtain ⟨⟨old, en⟩, ti, n1, n2, n3⟩ := z
    obtain ⟨ys, hq, hy⟩ := hg
    obtain ⟨its, rv, p, _⟩ := I.tuple hq
    obtain ⟨f0, f1, f2, f3, f4, f5⟩ := hf it (by simp)
    have D := Draws.tuple (prog := X.prog) (w := X.w) (A := X.A.in1) (show X.A.in1.handled = none from I.ok.hd hc) it a n2 its.toArray
    have hn : its.toArray.size = i := by
      rw [List.size_toArray, ← rv.length]
      exact hy
    exact wpAny_pyNext_enum_endD D en ⟨by rw [hn]; exact ti, show s.heap.IsTuple a its.toArray from p⟩ fun g eb => ⟨rfl, I.turned (t' := s.toks) (fun b o nb q => eb b o nb q) f0 f1 f3 f4 f5⟩
  self := fun A i s Q E z h => let ⟨⟨_, en⟩, _⟩ := z; wpAny_pyIter_enum en h
def iEnT (K : PySem.W.Frag) (ta : TA) : TI := fun σ H R => ta σ H fun vs H1 => ∃ a ys, vs = [.ref a] ∧ SqT K H1 a ys ∧ R (IteT K a) H1
theorem pi_enT {X : Cx} {e : Expr} {ta : TA} {p pos tpos : Pos} {elts : List Expr} {kk : Nat} (hg : Gl X "enumerate") (hm : X.mg "enumerate" = none) (ha : PA X [e] ta) (hs : starEach [e] X.env = [(false, eval e X.env)] := by rfl) :
    PI X (.Tuple elts kk tpos) (.Call (.Name "enumerate" p) [e] [] pos) (iEnT X.K ta) := by
  refine ⟨fun pins s σ H R I h => ?_⟩
  refine Call_ (ld_blt I hg hm boot_enumerate (PyProof.Rows.callWith_type1 (thn (ha.run pos pins s σ H _ I h) fun us s1 ⟨vs, H1, I1, r1, a, ys, ex, hq, q⟩ => ?_) hs rfl))
  subst ex
  obtain ⟨u, eu, ru⟩ := vals1 r1
  subst eu
  cases ru
  obtain ⟨its, rv, p2, _⟩ := I1.tuple hq
  have lt : a < s1.heap.objs.size := by
    obtain ⟨o, o1, _⟩ := (show s1.heap.IsTuple a its.toArray from p2)
    exact Heap.lt_size o1
  refine call_enT (begins_tuple a its.toArray) (show s1.heap.IsTuple a its.toArray from p2) fun g en hi hk => wpAny_pyIter_enum en ?_
  have I2 : Inv X pins σ H1 { s1 with heap := g } := I1.kept (t' := s1.toks) hk
  refine ⟨s1.heap.objs.size + 1, [s1.heap.objs.size + 1, s1.heap.objs.size], _, _, H1, rfl, I2, turn_enT a (s1.heap.objs.size + 1) s1.heap.objs.size, ⟨⟨.none, en⟩, ⟨_, hi, rfl, rfl⟩, Nat.succ_ne_self _, Nat.ne_of_lt lt, Nat.ne_of_lt (Nat.lt_succ_of_lt lt)⟩, fun b hb => ?_, q⟩
  have le : s1.heap.objs.size ≤ b := by
    rcases (show b = s1.heap.objs.size + 1 ∨ b = s1.heap.objs.size by simpa using hb) with z | z
    · rw [z]
      exact Nat.le_succ _
    · rw [z]
      exact Nat.le_refl _
  exact I1.fpOk le (I1.hok.fresh le)
theorem walk_enT {K : PySem.W.Frag} {a : Addr} {ys : List V} : Walk (IteT K a) ys.length (fun H => SqT K H a ys) (YPair (fun i => some (.int (i : Nat))) (fun i => ys[i]?)) := by
  refine ⟨fun i _ hi q => ⟨ys, ys[i], q, by simp [hi]⟩, fun _ q => ⟨ys, q, rfl⟩, fun i H v H2 _ q z => ?_⟩
  obtain ⟨T, y, h1, h2, h3, h4⟩ := z
  exact ⟨T, .int (i : Nat), y, h1, h2, h3, rfl, h4 ys q⟩
end
/-! ### iterators -/
def iSeqV (K : PySem.W.Frag) (tl : TE) : TI := fun σ H R => iList K tl σ H R ∨ iTup K tl σ H R
theorem pi_or {X : Cx} {tg e : Expr} {w1 w2 : TI} (h1 : PI X tg e w1) (h2 : PI X tg e w2) : PI X tg e (fun σ H R => w1 σ H R ∨ w2 σ H R) := ⟨fun pins s σ H R I h => h.elim (h1.run pins s σ H R I) (h2.run pins s σ H R I)⟩
theorem pi_seqV (K : PySem.W.Frag) {X : Cx} {tg l : Expr} {tl : TE} (e : X.K = K) (hl : PE X l tl) : PI X tg l (iSeqV K tl) := by
  subst e
  exact pi_or (pi_list hl) (pi_tup hl)
section
variable {K : PySem.W.Frag} {cl : Str → Option Addr} {W : WX} {bs O A A1 B : List Addr} {F H H' H1 : Hp} {ρ ρ' ρx : Ro} {σ : St} {S S1 L : Type} {ρn : S → Ro} {ρj : S1 → Ro} {ρl : L → Ro} {D : Ends} {t u v tb : TS} {te ta tc : TE} {m ma mb : Res PV} {tr : TA} {ml : Res (List PV)} {md : Res (List (Key × PV))} {P : Hp → Prop}
theorem sqL_det {a : Addr} {xs ys : List V} (h : F a = some (.lst xs)) (q : SqL K F a ys) (s : ∀ o, K.lookup a = some o → False) : xs = ys := by
  rcases q with (q | ⟨o, q⟩) | ⟨o, _, _, q, _⟩
  · rw [h] at q; cases q; rfl
  · rw [h] at q; cases q
  · exact (s o q).elim
theorem Iter.view {wi : TI} {mi : Res (List PV)} (h : Iter K cl W wi ρ mi) : IterV K cl W wi ρ mi := fun O bs σ H R r q => h O bs σ H R r (wp_mono q (fun ps k J H' s i => k J H' s fun H2 B _ sF hB => i H2 B trivial sF hB) fun _ z => z)
theorem itOk_list {a : Addr} {vs : List V} {ps : List PV} (hP : ∀ H, P H → Sub F H → SqL K H a vs) (hl : IsL K cl F vs ps) : ItOk K cl (fun H => P H ∧ Sub F H) F (Itl K a) ps := fun H B hp sF hB => by
  have hs := hP H hp.1 hp.2
  refine ⟨⟨vs, hs, by rw [hl.len]; exact Nat.le_refl _⟩, fun i p hi => ?_⟩
  obtain ⟨v, hv, iv⟩ := hl.get hi
  refine ⟨⟨vs, v, hs, hv⟩, fun x H' hy => ?_⟩
  obtain ⟨rfl, hx⟩ := hy
  have := hx vs hs
  rw [hv] at this
  cases this
  exact ⟨.refl, iv.mono sF⟩
theorem itOk_tup {a : Addr} {vs : List V} {ps : List PV} (hP : ∀ H, P H → Sub F H → SqT K H a vs) (hl : IsL K cl F vs ps) : ItOk K cl (fun H => P H ∧ Sub F H) F (Itt K a) ps := fun H B hp sF hB => by
  have hs := hP H hp.1 hp.2
  refine ⟨⟨vs, hs, by rw [hl.len]; exact Nat.le_refl _⟩, fun i p hi => ?_⟩
  obtain ⟨v, hv, iv⟩ := hl.get hi
  refine ⟨⟨vs, v, hs, hv⟩, fun x H' hy => ?_⟩
  obtain ⟨rfl, hx⟩ := hy
  have := hx vs hs
  rw [hv] at this
  cases this
  exact ⟨.refl, iv.mono sF⟩
theorem ItOk.of {P' : Hp → Prop} {J : It} {ps : List PV} (h : ItOk K cl P F J ps) (g : ∀ H B, P' H → Sub F (frz H B) → P H) : ItOk K cl P' F J ps := fun H B hp sF hB => h H B (g H B hp sF) sF hB
theorem it_seq (he : Pur K cl W te ρ m) : Iter K cl W (iSeqV K te) ρ (m >>= asSq) := fun O bs σ H R r q => by
  have key : ∀ (v : V) (H' : Hp) (x : PV), Sub H H' → Is K cl (frz H' (O ++ adr ρ σ)) v x → wp (asSq x) (fun ps => ∀ J H', Sub H H' → ItOk K cl (fun _ => True) (frz H' (O ++ adr ρ σ)) J ps → R J H') (XW cl W σ H) →
      (∃ a vs, v = .ref a ∧ SqL K H' a vs ∧ R (Itl K a) H') ∨ (∃ a vs, v = .ref a ∧ SqT K H' a vs ∧ R (Itt K a) H') := fun v H' x s i w => by
    cases i with
    | tup h l => exact .inr ⟨_, _, rfl, frz_sub.sqT h, w _ H' s ((itOk_tup (P := fun _ => True) (fun H _ sF => sF.sqT h) l).of fun H B _ sF => ⟨trivial, sF.trans frz_sub⟩)⟩
    | lst h l => exact .inl ⟨_, _, rfl, .inl (.inl (frz_sub _ _ h)), w _ H' s ((itOk_list (P := fun _ => True) (fun H _ sF => .inl (.inl (sF _ _ h))) l).of fun H B _ sF => ⟨trivial, sF.trans frz_sub⟩)⟩
    | fls h l => exact .inl ⟨_, _, rfl, frz_sub.sqL h, w _ H' s ((itOk_list (P := fun _ => True) (fun H _ sF => sF.sqL h) l).of fun H B _ sF => ⟨trivial, sF.trans frz_sub⟩)⟩
    | _ => exact w.elim
  have w := wp_bind.mp q
  cases m with
  | stuck => exact w.elim
  | exc c => exact .inl (he O bs σ H _ r w)
  | val x =>
    cases x with
    | tup ps =>
      refine .inr (he O bs σ H _ r (wp_val.mpr fun v H' s i => ?_))
      rcases key v H' _ s i w with ⟨a, vs, rfl, hs, z⟩ | ⟨a, vs, rfl, hs, z⟩
      · cases i with
        | tup h l => exact ⟨a, rfl, ⟨_, frz_sub.sqT h⟩, w _ H' s ((itOk_tup (P := fun _ => True) (fun H _ sF => sF.sqT h) l).of fun H B _ sF => ⟨trivial, sF.trans frz_sub⟩)⟩
      · exact ⟨a, rfl, ⟨_, hs⟩, z⟩
    | lst ps =>
      refine .inl (he O bs σ H _ r (wp_val.mpr fun v H' s i => ?_))
      cases i with
      | lst h l => exact ⟨_, rfl, ⟨_, .inl (.inl (frz_sub _ _ h))⟩, w _ H' s ((itOk_list (P := fun _ => True) (fun H _ sF => .inl (.inl (sF _ _ h))) l).of fun H B _ sF => ⟨trivial, sF.trans frz_sub⟩)⟩
    | fls ps =>
      refine .inl (he O bs σ H _ r (wp_val.mpr fun v H' s i => ?_))
      cases i with
      | fls h l => exact ⟨_, rfl, ⟨_, frz_sub.sqL h⟩, w _ H' s ((itOk_list (P := fun _ => True) (fun H _ sF => sF.sqL h) l).of fun H B _ sF => ⟨trivial, sF.trans frz_sub⟩)⟩
    | _ => exact w.elim
/-- over an owned list, in a comprehension -/
theorem itv_seq (he : Vw K cl W te ρ m) : IterV K cl W (iList K te) ρ (m >>= asLi) := fun O bs σ H R r q => by
  refine he O bs σ H _ r (wp_mono (wp_bind.mp q) (fun x w v H' s i => ?_) fun _ z => z)
  cases x with
  | lst ps =>
    obtain ⟨a, vs, rfl, h, l⟩ := i
    exact ⟨a, rfl, ⟨_, .inl (.inl h)⟩, w _ H' s ((itOk_list (P := Sub H') (fun H2 s2 _ => .inl (.inl (s2 _ _ h))) l).of fun H2 B s2 sF => ⟨s2, sF.trans frz_sub⟩)⟩
  | fls ps => cases i with
    | fls h l => exact ⟨_, rfl, ⟨_, frz_sub.sqL h⟩, w _ H' s ((itOk_list (P := Sub H') (fun H2 s2 sF => sF.sqL h) l).of fun H2 B s2 sF => ⟨s2, sF.trans frz_sub⟩)⟩
  | _ => exact w.elim
def rngP (lo hi : Int) : List PV := (List.range (hi - lo).toNat).map fun i => .int (lo + (i : Nat))
theorem rng_get {lo hi : Int} {i : Nat} {p : PV} (h : (rngP lo hi)[i]? = some p) : i < (hi - lo).toNat ∧ p = .int (lo + (i : Nat)) := by
  unfold rngP at h
  rw [List.getElem?_map] at h
  obtain ⟨j, e, rfl⟩ := Option.map_eq_some_iff.mp h
  obtain ⟨h1, h2⟩ := List.getElem?_eq_some_iff.mp e
  rw [List.length_range] at h1
  rw [List.getElem_range] at h2
  subst h2
  exact ⟨h1, rfl⟩
theorem rng_len {lo hi : Int} : (rngP lo hi).length = (hi - lo).toNat := by
  unfold rngP
  rw [List.length_map, List.length_range]
theorem itOk_rng {lo : Int} {n : Nat} {ps : List PV} (hl : ps.length = n) (h : ∀ i p, ps[i]? = some p → i < n ∧ p = .int (lo + (i : Nat))) : ItOk K cl P F (Itr lo n) ps := fun H B _ _ hB => by
  refine ⟨by rw [hl]; exact Nat.le_refl _, fun i p hi => ?_⟩
  obtain ⟨h1, rfl⟩ := h i p hi
  refine ⟨h1, fun x H' hy => ?_⟩
  obtain ⟨rfl, rfl⟩ := hy
  exact ⟨.refl, .int _⟩
def rng1 : PV → Res (List PV)
  | .int j => if -(2 ^ 62) ≤ j ∧ j < 2 ^ 62 then .val (rngP 0 j) else .stuck
  | _ => .stuck
def rng2 : PV → PV → Res (List PV)
  | .int i, .int j => if -(2 ^ 62) ≤ i ∧ i < 2 ^ 62 ∧ -(2 ^ 62) ≤ j ∧ j < 2 ^ 62 then .val (rngP i j) else .stuck
  | _, _ => .stuck
theorem it_rng1 (he : Vw K cl W te ρ m) : Iter K cl W (iRng1 (tCons te tNil)) ρ (m >>= rng1) := fun O bs σ H R r q => by
  refine he O bs σ H _ r (wp_mono (wp_bind.mp q) (fun x w v H' s i => ?_) fun _ z => z)
  unfold rng1 at w
  split at w
  · next j =>
    cases isV_int i
    split at w
    · next c => exact ⟨j, rfl, c.1, c.2, w _ H' s (itOk_rng (by rw [rng_len, Int.sub_zero]) fun i p h => by have := rng_get h; rwa [Int.sub_zero] at this)⟩
    · exact w.elim
  · exact w.elim
theorem it_rng2 (ha : Vw K cl W ta ρ ma) (hb : Vw K cl W te ρ m) : Iter K cl W (iRng2 (tCons ta (tCons te tNil))) ρ (ma >>= fun x => m >>= fun y => rng2 x y) := fun O bs σ H R r q => by
  refine ha O bs σ H _ r (wp_mono (wp_bind.mp q) (fun x qx v1 H1 s1 i1 => ?_) fun _ z => z)
  refine hb O bs σ H1 _ (r.same s1) (wp_mono (wp_bind.mp qx) (fun y w v2 H2 s2 i2 => ?_) fun _ z => z.mono s1)
  unfold rng2 at w
  split at w
  · next i j =>
    cases isV_int i1
    cases isV_int i2
    split at w
    · next c => exact ⟨i, j, rfl, c, w _ H2 (s1.trans s2) (itOk_rng rng_len fun i p h => rng_get h)⟩
    · exact w.elim
  · exact w.elim
/-! zip and enumerate: lists or tuples -/
def zipP (ps qs : List PV) : List PV := List.zipWith (fun a b => .tup [a, b]) ps qs
theorem zip_get {ps qs : List PV} {i : Nat} {p : PV} (h : (zipP ps qs)[i]? = some p) : ∃ a b, ps[i]? = some a ∧ qs[i]? = some b ∧ p = .tup [a, b] := by
  unfold zipP at h
  rw [List.getElem?_zipWith] at h
  split at h
  · next a b h1 h2 => exact ⟨a, b, h1, h2, (Option.some.inj h).symm⟩
  · cases h
theorem two_new {H : Hp} {T : Addr} {x y : V} {p q : PV} (hT : H T = none) (hB : ∀ a, a ∈ B → ∃ o, H a = some o) (h1 : Is K cl (frz H B) x p) (h2 : Is K cl (frz H B) y q) : Is K cl (frz (upd H T (.tup [x, y])) B) (.ref T) (.tup [p, q]) :=
  new_tup hB hT (.cons h1 (.one h2))
theorem itOk_zip {J : It} {R1 R2 : Hp → List V → Prop} {vs ws : List V} {ps qs : List PV} (h1 : ∀ H, P H → Sub F H → R1 H vs) (h2 : ∀ H, P H → Sub F H → R2 H ws) (hl : IsL K cl F vs ps) (hr : IsL K cl F ws qs)
    (hgo : ∀ i H, (∃ (xs ys : List V) (x y : V), R1 H xs ∧ R2 H ys ∧ xs[i]? = some x ∧ ys[i]? = some y) → J.go i H)
    (hy : ∀ i H v H', J.yld i H v H' → ∃ T x y, v = .ref T ∧ H T = none ∧ H' = upd H T (.tup [x, y]) ∧ (∀ xs, R1 H xs → xs[i]? = some x) ∧ ∀ ys, R2 H ys → ys[i]? = some y)
    (hs : ∀ i H, (∃ xs ys : List V, R1 H xs ∧ R2 H ys ∧ i = min xs.length ys.length) → J.stop i H) : ItOk K cl (fun H => P H ∧ Sub F H) F J (zipP ps qs) := fun H B hp sF hB => by
  have a1 := h1 H hp.1 hp.2
  have a2 := h2 H hp.1 hp.2
  refine ⟨hs _ H ⟨vs, ws, a1, a2, ?_⟩, fun i p hi => ?_⟩
  · unfold zipP
    rw [List.length_zipWith, hl.len, hr.len]
  · obtain ⟨a, b, e1, e2, rfl⟩ := zip_get hi
    obtain ⟨v, e3, i3⟩ := hl.get e1
    obtain ⟨w, e4, i4⟩ := hr.get e2
    refine ⟨hgo i H ⟨vs, ws, v, w, a1, a2, e3, e4⟩, fun x H' hyx => ?_⟩
    obtain ⟨T, x1, y1, rfl, hT, rfl, q1, q2⟩ := hy i H x H' hyx
    have b1 := q1 vs a1
    have b2 := q2 ws a2
    rw [e3] at b1
    rw [e4] at b2
    cases b1
    cases b2
    exact ⟨sub_new hT _, two_new hT hB (i3.mono sF) (i4.mono sF)⟩
end
section
variable {K : PySem.W.Frag} {cl : Str → Option Addr} {W : WX} {bs O A A1 B : List Addr} {F H H' H1 : Hp} {ρ ρ' ρx : Ro} {σ : St} {S S1 L : Type} {ρn : S → Ro} {ρj : S1 → Ro} {ρl : L → Ro} {D : Ends} {t u v tb : TS} {te ta tc : TE} {m ma mb : Res PV} {tr : TA} {ml : Res (List PV)} {md : Res (List (Key × PV))} {P : Hp → Prop}
def zipV : PV → PV → Res (List PV)
  | .tup ps, .tup qs => .val (zipP ps qs)
  | .lst ps, .lst qs => .val (zipP ps qs)
  | _, _ => .stuck
theorem itOk_zL {a b : Addr} {vs ws : List V} {ps qs : List PV} (h1 : ∀ H, P H → Sub F H → SqL K H a vs) (h2 : ∀ H, P H → Sub F H → SqL K H b ws) (hl : IsL K cl F vs ps) (hr : IsL K cl F ws qs) : ItOk K cl (fun H => P H ∧ Sub F H) F (Itz K a b) (zipP ps qs) :=
  itOk_zip (R1 := fun H xs => SqL K H a xs) (R2 := fun H xs => SqL K H b xs) h1 h2 hl hr (fun _ _ h => h) (fun _ _ _ _ h => h) (fun i H ⟨xs, ys, h1, h2, e⟩ => ⟨xs, ys, h1, h2, by omega⟩)
theorem itOk_zT {a b : Addr} {vs ws : List V} {ps qs : List PV} (h1 : ∀ H, P H → Sub F H → SqT K H a vs) (h2 : ∀ H, P H → Sub F H → SqT K H b ws) (hl : IsL K cl F vs ps) (hr : IsL K cl F ws qs) : ItOk K cl (fun H => P H ∧ Sub F H) F (RZ.ItzT K a b) (zipP ps qs) :=
  itOk_zip (R1 := fun H xs => SqT K H a xs) (R2 := fun H xs => SqT K H b xs) h1 h2 hl hr (fun _ _ h => h) (fun _ _ _ _ h => h) (fun i H ⟨xs, ys, h1, h2, e⟩ => ⟨xs, ys, h1, h2, by omega⟩)
theorem it_zip (ha : Pur K cl W ta ρ ma) (hb : Pur K cl W te ρ m) : Iter K cl W (RZ.iZipA K (tCons ta (tCons te tNil))) ρ (ma >>= fun x => m >>= fun y => zipV x y) := fun O bs σ H R r q => by
  refine ha O bs σ H _ r (wp_mono (wp_bind.mp q) (fun x qx v1 H1 s1 i1 => ?_) fun _ z => z)
  refine hb O bs σ H1 _ (r.same s1) (wp_mono (wp_bind.mp qx) (fun y w v2 H2 s2 i2 => ?_) fun _ z => z.mono s1)
  have i1' := i1.mono (frz_same (A := O ++ adr ρ σ) s2)
  unfold zipV at w
  split at w
  · cases i1' with
    | tup h1 l1 =>
    cases i2 with
    | tup h2 l2 =>
    exact ⟨_, _, _, _, rfl, .inr ⟨frz_sub.sqT h1, frz_sub.sqT h2, w _ H2 (s1.trans s2) ((itOk_zT (P := fun _ => True) (fun H _ sF => sF.sqT h1) (fun H _ sF => sF.sqT h2) l1 l2).of fun H B _ sF => ⟨trivial, sF.trans frz_sub⟩)⟩⟩
  · cases i1' with
    | lst h1 l1 =>
    cases i2 with
    | lst h2 l2 =>
    exact ⟨_, _, _, _, rfl, .inl ⟨.inl (.inl (frz_sub _ _ h1)), .inl (.inl (frz_sub _ _ h2)), w _ H2 (s1.trans s2) ((itOk_zL (P := fun _ => True) (fun H _ sF => .inl (.inl (sF _ _ h1))) (fun H _ sF => .inl (.inl (sF _ _ h2))) l1 l2).of fun H B _ sF => ⟨trivial, sF.trans frz_sub⟩)⟩⟩
  · exact w.elim
theorem itv_zip (ha : Vw K cl W ta ρ ma) (hb : Vw K cl W te ρ m) : IterV K cl W (RZ.iZipA K (tCons ta (tCons te tNil))) ρ (ma >>= fun x => m >>= fun y => zipV x y) := fun O bs σ H R r q => by
  refine ha O bs σ H _ r (wp_mono (wp_bind.mp q) (fun x qx v1 H1 s1 i1 => ?_) fun _ z => z)
  refine hb O bs σ H1 _ (r.same s1) (wp_mono (wp_bind.mp qx) (fun y w v2 H2 s2 i2 => ?_) fun _ z => z.mono s1)
  have i1' := i1.mono (frz_same (A := O ++ adr ρ σ) s2) s2
  unfold zipV at w
  split at w
  · cases i1' with
    | tup h1 l1 =>
    cases i2 with
    | tup h2 l2 =>
    exact ⟨_, _, _, _, rfl, .inr ⟨frz_sub.sqT h1, frz_sub.sqT h2, w _ H2 (s1.trans s2) ((itOk_zT (P := fun _ => True) (fun H _ sF => sF.sqT h1) (fun H _ sF => sF.sqT h2) l1 l2).of fun H B _ sF => ⟨trivial, sF.trans frz_sub⟩)⟩⟩
  · obtain ⟨a, vs, rfl, h1, l1⟩ := i1'
    obtain ⟨b, ws, rfl, h2, l2⟩ := i2
    exact ⟨_, _, _, _, rfl, .inl ⟨.inl (.inl h1), .inl (.inl h2), w _ H2 (s1.trans s2) ((itOk_zL (P := Sub H2) (fun H s _ => .inl (.inl (s _ _ h1))) (fun H s _ => .inl (.inl (s _ _ h2))) l1 l2).of fun H B s sF => ⟨s, sF.trans frz_sub⟩)⟩⟩
  · exact w.elim
def enumP (ps : List PV) : List PV := (List.range ps.length).zipWith (fun (i : Nat) p => .tup [.int i, p]) ps
theorem enum_get {ps : List PV} {i : Nat} {p : PV} (h : (enumP ps)[i]? = some p) : ∃ a, ps[i]? = some a ∧ p = .tup [.int (i : Nat), a] := by
  unfold enumP at h
  rw [List.getElem?_zipWith] at h
  split at h
  · next a b h1 h2 =>
    obtain ⟨e1, e2⟩ := List.getElem?_eq_some_iff.mp h1
    rw [List.getElem_range] at e2
    subst e2
    exact ⟨b, h2, (Option.some.inj h).symm⟩
  · cases h
theorem itOk_enum {J : It} {R1 : Hp → List V → Prop} {vs : List V} {ps : List PV} (h1 : ∀ H, P H → Sub F H → R1 H vs) (hl : IsL K cl F vs ps) (hgo : ∀ i H, (∃ (xs : List V) (x : V), R1 H xs ∧ xs[i]? = some x) → J.go i H)
    (hy : ∀ i H v H', J.yld i H v H' → ∃ T x, v = .ref T ∧ H T = none ∧ H' = upd H T (.tup [.int (i : Nat), x]) ∧ (∀ xs, R1 H xs → xs[i]? = some x)) (hs : ∀ i H, (∃ xs : List V, R1 H xs ∧ i = xs.length) → J.stop i H) : ItOk K cl (fun H => P H ∧ Sub F H) F J (enumP ps) := fun H B hp sF hB => by
  have a1 := h1 H hp.1 hp.2
  refine ⟨hs _ H ⟨vs, a1, ?_⟩, fun i p hi => ?_⟩
  · unfold enumP
    rw [List.length_zipWith, List.length_range, hl.len, Nat.min_self]
  · obtain ⟨a, e1, rfl⟩ := enum_get hi
    obtain ⟨v, e3, i3⟩ := hl.get e1
    refine ⟨hgo i H ⟨vs, v, a1, e3⟩, fun x H' hyx => ?_⟩
    obtain ⟨T, x1, rfl, hT, rfl, q1⟩ := hy i H x H' hyx
    have b1 := q1 vs a1
    rw [e3] at b1
    cases b1
    exact ⟨sub_new hT _, two_new hT hB (.int _) (i3.mono sF)⟩
def asTu : PV → Res (List PV)
  | .tup ps => .val ps
  | _ => .stuck
theorem itv_enum (he : Vw K cl W te ρ m) : IterV K cl W (iEnum K (tCons te tNil)) ρ (m >>= asLi >>= fun ps => .val (enumP ps)) := fun O bs σ H R r q => by
  rw [wp_bind, wp_bind] at q
  refine he O bs σ H _ r (wp_mono q (fun x w v H' s i => ?_) fun _ z => z)
  cases x with
  | lst ps =>
    obtain ⟨a, vs, rfl, h, l⟩ := i
    exact ⟨a, vs, rfl, .inl (.inl h), w _ H' s ((itOk_enum (J := Ite K _) (P := Sub H') (R1 := fun H xs => SqL K H a xs) (fun H2 s2 _ => .inl (.inl (s2 _ _ h))) l (fun _ _ h => h) (fun _ _ _ _ h => h) (fun i H ⟨xs, h, e⟩ => ⟨xs, h, by omega⟩)).of fun H2 B s2 sF => ⟨s2, sF.trans frz_sub⟩)⟩
  | fls ps => cases i with
    | fls h l => exact ⟨_, _, rfl, frz_sub.sqL h, w _ H' s ((itOk_enum (J := Ite K _) (P := Sub H') (R1 := fun H xs => SqL K H _ xs) (fun H2 s2 sF => sF.sqL h) l (fun _ _ h => h) (fun _ _ _ _ h => h) (fun i H ⟨xs, h, e⟩ => ⟨xs, h, by omega⟩)).of fun H2 B s2 sF => ⟨s2, sF.trans frz_sub⟩)⟩
  | _ => exact w.elim
theorem it_enum (he : Pur K cl W te ρ m) : Iter K cl W (iEnum K (tCons te tNil)) ρ (m >>= asLi >>= fun ps => .val (enumP ps)) := fun O bs σ H R r q => by
  rw [wp_bind, wp_bind] at q
  refine he O bs σ H _ r (wp_mono q (fun x w v H' s i => ?_) fun _ z => z)
  cases i with
  | lst h l => exact ⟨_, _, rfl, .inl (.inl (frz_sub _ _ h)), w _ H' s ((itOk_enum (J := Ite K _) (P := fun _ => True) (R1 := fun H xs => SqL K H _ xs) (fun H2 _ sF => .inl (.inl (sF _ _ h))) l (fun _ _ h => h) (fun _ _ _ _ h => h) (fun i H ⟨xs, h, e⟩ => ⟨xs, h, by omega⟩)).of fun H2 B _ sF => ⟨trivial, sF.trans frz_sub⟩)⟩
  | fls h l => exact ⟨_, _, rfl, frz_sub.sqL h, w _ H' s ((itOk_enum (J := Ite K _) (P := fun _ => True) (R1 := fun H xs => SqL K H _ xs) (fun H2 _ sF => sF.sqL h) l (fun _ _ h => h) (fun _ _ _ _ h => h) (fun i H ⟨xs, h, e⟩ => ⟨xs, h, by omega⟩)).of fun H2 B _ sF => ⟨trivial, sF.trans frz_sub⟩)⟩
  | _ => exact w.elim
theorem it_enT (he : Pur K cl W te ρ m) : Iter K cl W (iEnT K (tCons te tNil)) ρ (m >>= asTu >>= fun ps => .val (enumP ps)) := fun O bs σ H R r q => by
  rw [wp_bind, wp_bind] at q
  refine he O bs σ H _ r (wp_mono q (fun x w v H' s i => ?_) fun _ z => z)
  cases i with
  | tup h l => exact ⟨_, _, rfl, frz_sub.sqT h, w _ H' s ((itOk_enum (J := IteT K _) (P := fun _ => True) (R1 := fun H xs => SqT K H _ xs) (fun H2 _ sF => sF.sqT h) l (fun _ _ h => h) (fun _ _ _ _ h => h) (fun i H ⟨xs, h, e⟩ => ⟨xs, h, e.symm⟩)).of fun H2 B _ sF => ⟨trivial, sF.trans frz_sub⟩)⟩
  | _ => exact w.elim
/-! lists and dicts, changed by statements -/
theorem run_append {i : Nat} {s : Slot} {ps : List PV} {n : PV → Res (Fl S L)} (hi : ρ[i]? = some s) (hs : s = .ow (.lst ps) ∨ ∃ k, s = .rf k (.lst ps)) (he : Pur K cl W te ρ m) (w : Wk ρ ρx) (h : ∀ x, Runs K cl W u (ρ.set i (reSl s (.lst (ps ++ [x])))) (n x) ρn ρl ρx) :
    Runs K cl W (tSeq (tDrop (tBM K "list" rAppend (tVar i) (tCons te tNil))) u) ρ (m >>= fun x => sized (ps.length + 1) >>= fun _ => n x) ρn ρl ρx := fun O bs σ H D R hb q => by
  have got : ∃ a vs, σ[i]? = some (some (.ref a)) ∧ H a = some (.lst vs) ∧ IsL K cl (frz H (O ++ adr ρ σ)) vs ps := by
    obtain ⟨x, e, q⟩ := R.sl.get hi
    rcases hs with rfl | ⟨k, rfl⟩
    · obtain ⟨a, rfl, vs, h1, h2⟩ := q; exact ⟨a, vs, e, h1, h2⟩
    · obtain ⟨a, rfl, _, vs, h1, h2⟩ := q; exact ⟨a, vs, e, h1, h2⟩
  obtain ⟨a, vs, ha, hv, hl⟩ := got
  refine ⟨_, ha, .inl ⟨rfl, _, .inl (.inl hv)⟩, he O bs σ H _ R (wp_mono (wp_bind.mp q) (fun x qx v H' s' ix => ?_) fun _ z => z.xw R w)⟩
  obtain ⟨hz, qx⟩ := wp_sized (wp_bind.mp qx)
  have R' := R.same s'
  have hl' := hl.mono (frz_same (A := O ++ adr ρ σ) s')
  obtain ⟨R2, g2⟩ := R'.put (m' := .lst (ps ++ [x])) (o := .lst (vs ++ [v])) hi (by rcases hs with e | ⟨k, e⟩; exact .inl e; exact .inr ⟨k, e⟩) ha ⟨_, upd_same, hl'.append (.one ix)⟩
  have g := (Gr.of (A := adr ρ σ) s').trans g2
  refine ⟨a, vs, v, rfl, rfl, s' _ _ hv, by rw [hl.len]; omega, ?_⟩
  exact h x O bs σ _ D R2 hb (wp_mono qx (fun _ z => z.step g) fun _ z => z.step g)
def setL (ps : List PV) (k x : PV) : Res (List PV) := match k with
  | .int k => match ixN ps.length k with
    | some j => .val (ps.set j x)
    | none => .stuck
  | _ => .stuck
theorem run_setitem {i : Nat} {s : Slot} {ps : List PV} {n : List PV → Res (Fl S L)} (hi : ρ[i]? = some s) (hs : s = .ow (.lst ps) ∨ ∃ k, s = .rf k (.lst ps)) (he : Pur K cl W te ρ m) (hk : Vw K cl W ta ρ ma) (w : Wk ρ ρx) (h : ∀ qs, Runs K cl W u (ρ.set i (reSl s (.lst qs))) (n qs) ρn ρl ρx) :
    Runs K cl W (tSeq (tAsg te (gSub (tVar i) ta rSetL)) u) ρ (m >>= fun x => ma >>= fun k => setL ps k x >>= n) ρn ρl ρx := fun O bs σ H D R hb q => by
  have got : ∃ a vs, σ[i]? = some (some (.ref a)) ∧ H a = some (.lst vs) ∧ IsL K cl (frz H (O ++ adr ρ σ)) vs ps := by
    obtain ⟨x, e, q⟩ := R.sl.get hi
    rcases hs with rfl | ⟨k, rfl⟩
    · obtain ⟨a, rfl, vs, h1, h2⟩ := q; exact ⟨a, vs, e, h1, h2⟩
    · obtain ⟨a, rfl, _, vs, h1, h2⟩ := q; exact ⟨a, vs, e, h1, h2⟩
  obtain ⟨a, vs, ha, hv, hl⟩ := got
  refine he O bs σ H _ R (wp_mono (wp_bind.mp q) (fun x qx v H1 s1 ix => ?_) fun _ z => z.xw R w)
  have R1 := R.same s1
  refine ⟨_, ha, hk O bs σ H1 _ R1 (wp_mono (wp_bind.mp qx) (fun k qk v2 H2 s2 ik => ?_) fun _ z => (z.step (Gr.of s1)).xw R1 w)⟩
  have R2 := R1.same s2
  have s12 := s1.trans s2
  have hl' := hl.mono (frz_same (A := O ++ adr ρ σ) s12)
  unfold setL at qk
  split at qk
  · next k =>
    cases isV_int ik
    split at qk
    · next j hj =>
      obtain ⟨R3, g3⟩ := R2.put (m' := .lst (ps.set j x)) (o := .lst (vs.set j v)) hi (by rcases hs with e | ⟨k, e⟩; exact .inl e; exact .inr ⟨k, e⟩) ha ⟨_, upd_same, IsL.set (ix.mono (frz_same s2)) j hl'⟩
      have g := (Gr.of (A := adr ρ σ) s12).trans g3
      exact ⟨a, vs, k, j, rfl, rfl, s12 _ _ hv, by rw [hl.len]; exact hj, h _ O bs σ _ D R3 hb (wp_mono qk (fun _ z => z.step g) fun _ z => z.step g)⟩
    · exact qk.elim
  · exact qk.elim
def keyP : PV → Res Key
  | .int i => .val (.inl i)
  | .str x => .val (.inr x)
  | _ => .stuck
theorem wp_key {p : PV} {v : V} {Q : Key → Prop} {E : Str → Prop} (h : wp (keyP p) Q E) (i : IsV K cl F H v p) : ∃ k, v = kV k ∧ Q k := by
  cases p with
  | int j => exact ⟨.inl j, isV_int i, h⟩
  | str x => exact ⟨.inr x, isV_str i, h⟩
  | _ => exact h.elim
theorem run_dput {i : Nat} {s : Slot} {ps : List (Key × PV)} {n : List (Key × PV) → Res (Fl S L)} (hi : ρ[i]? = some s) (hs : s = .ow (.dct ps) ∨ ∃ k, s = .rf k (.dct ps)) (he : Pur K cl W te ρ m) (hk : Vw K cl W ta ρ ma) (w : Wk ρ ρx) (h : ∀ qs, Runs K cl W u (ρ.set i (reSl s (.dct qs))) (n qs) ρn ρl ρx) :
    Runs K cl W (tSeq (sDPut (tVar i) ta te) u) ρ (m >>= fun x => ma >>= fun k => keyP k >>= fun k => sized (ps.length + 1) >>= fun _ => n (putP ps k x)) ρn ρl ρx := fun O bs σ H D R hb q => by
  have got : ∃ a vs, σ[i]? = some (some (.ref a)) ∧ H a = some (.dK vs) ∧ IsK K cl (frz H (O ++ adr ρ σ)) vs ps := by
    obtain ⟨x, e, q⟩ := R.sl.get hi
    rcases hs with rfl | ⟨k, rfl⟩
    · obtain ⟨a, rfl, vs, h1, h2⟩ := q; exact ⟨a, vs, e, h1, h2⟩
    · obtain ⟨a, rfl, _, vs, h1, h2⟩ := q; exact ⟨a, vs, e, h1, h2⟩
  obtain ⟨a, vs, ha, hv, hl⟩ := got
  refine he O bs σ H _ R (wp_mono (wp_bind.mp q) (fun x qx v H1 s1 ix => ?_) fun _ z => z.xw R w)
  have R1 := R.same s1
  refine ⟨_, ha, hk O bs σ H1 _ R1 (wp_mono (wp_bind.mp qx) (fun k qk v2 H2 s2 ik => ?_) fun _ z => (z.step (Gr.of s1)).xw R1 w)⟩
  have R2 := R1.same s2
  have s12 := s1.trans s2
  have hl' := hl.mono (frz_same (A := O ++ adr ρ σ) s12)
  obtain ⟨k, rfl, qk⟩ := wp_key (wp_bind.mp qk) ik
  obtain ⟨hz, qk⟩ := wp_sized (wp_bind.mp qk)
  obtain ⟨R3, g3⟩ := R2.put (m' := .dct (putP ps k x)) (o := .dK (putK vs k v)) hi (by rcases hs with e | ⟨k, e⟩; exact .inl e; exact .inr ⟨k, e⟩) ha ⟨_, upd_same, IsK.put (ix.mono (frz_same s2)) hl'⟩
  have g := (Gr.of (A := adr ρ σ) s12).trans g3
  exact ⟨a, _, rfl, .inl ⟨vs, k, s12 _ _ hv, rfl, by rw [hl.len]; omega, rfl⟩, h _ O bs σ _ D R3 hb (wp_mono qk (fun _ z => z.step g) fun _ z => z.step g)⟩
/-! reading a dict -/
def dgetP (d k : PV) : Res PV := match d with
  | .dct ps => keyP k >>= fun k => match valP ps k with
    | some p => .val p
    | none => .stuck
  | _ => .stuck
theorem pu_dget (hd : Vw K cl W ta ρ ma) (hk : Vw K cl W te ρ m) : Pur K cl W (tDGet ta te) ρ (ma >>= fun d => m >>= fun k => dgetP d k) := fun O bs σ H Q R q => by
  refine hd O bs σ H _ R (wp_mono (wp_bind.mp q) (fun x qx v1 H1 s1 i1 => ?_) fun _ z => z)
  refine hk O bs σ H1 _ (R.same s1) (wp_mono (wp_bind.mp qx) (fun y qy v2 H2 s2 i2 => ?_) fun _ z => z.mono s1)
  have i1' := i1.mono (frz_same (A := O ++ adr ρ σ) s2) s2
  unfold dgetP at qy
  split at qy
  · obtain ⟨a, vs, rfl, h, l⟩ := i1'
    obtain ⟨k, rfl, qy⟩ := wp_key (wp_bind.mp qy) i2
    split at qy
    · next p e =>
      obtain ⟨v, e2, iv⟩ := l.val e
      exact ⟨a, v, rfl, .inl ⟨vs, k, .inl h, rfl, e2.symm⟩, qy v H2 (s1.trans s2) iv⟩
    · exact qy.elim
  · exact qy.elim
def dinP (neg : Bool) (k d : PV) : Res PV := match d with
  | .dct ps => keyP k >>= fun k => .val (.bl (if neg then !(valP ps k).isSome else (valP ps k).isSome))
  | _ => .stuck
theorem IsK.isSome {vs : List (Key × V)} {ps : List (Key × PV)} (h : IsK K cl F vs ps) (k : Key) : (valV vs k).isSome = (valP ps k).isSome := by
  cases e : valP ps k with
  | none => rw [h.noval e]; rfl
  | some p => obtain ⟨v, e2, _⟩ := h.val e; rw [e2]; rfl
theorem pu_din (hk : Vw K cl W te ρ m) (hd : Vw K cl W ta ρ ma) : Pur K cl W (tDIn te ta) ρ (m >>= fun k => ma >>= fun d => dinP false k d) := fun O bs σ H Q R q => by
  refine hk O bs σ H _ R (wp_mono (wp_bind.mp q) (fun y qx v1 H1 s1 i1 => ?_) fun _ z => z)
  refine hd O bs σ H1 _ (R.same s1) (wp_mono (wp_bind.mp qx) (fun x qy v2 H2 s2 i2 => ?_) fun _ z => z.mono s1)
  have i1' := i1.mono (frz_same (A := O ++ adr ρ σ) s2) s2
  unfold dinP at qy
  split at qy
  · obtain ⟨a, vs, rfl, h, l⟩ := i2
    obtain ⟨k, rfl, qy⟩ := wp_key (wp_bind.mp qy) i1'
    exact ⟨a, valV vs k, rfl, .inl ⟨vs, k, .inl h, rfl, rfl⟩, by rw [l.isSome]; exact qy _ H2 (s1.trans s2) (.bl _)⟩
  · exact qy.elim
theorem pu_dnin (hk : Vw K cl W te ρ m) (hd : Vw K cl W ta ρ ma) : Pur K cl W (tDNotIn te ta) ρ (m >>= fun k => ma >>= fun d => dinP true k d) := fun O bs σ H Q R q => by
  refine hk O bs σ H _ R (wp_mono (wp_bind.mp q) (fun y qx v1 H1 s1 i1 => ?_) fun _ z => z)
  refine hd O bs σ H1 _ (R.same s1) (wp_mono (wp_bind.mp qx) (fun x qy v2 H2 s2 i2 => ?_) fun _ z => z.mono s1)
  have i1' := i1.mono (frz_same (A := O ++ adr ρ σ) s2) s2
  unfold dinP at qy
  split at qy
  · obtain ⟨a, vs, rfl, h, l⟩ := i2
    obtain ⟨k, rfl, qy⟩ := wp_key (wp_bind.mp qy) i1'
    exact ⟨a, valV vs k, rfl, .inl ⟨vs, k, .inl h, rfl, rfl⟩, by rw [l.isSome]; exact qy _ H2 (s1.trans s2) (.bl _)⟩
  · exact qy.elim
/-! x += e; a, b = e, f -/
def addI : PV → PV → Res PV := ints2 fun i j => .val (.int (i + j))
theorem wp_ints2 {g : Int → Int → Res PV} {p q : PV} {Q : PV → Prop} {E : Str → Prop} (h : wp (ints2 g p q) Q E) : ∃ i j, p = .int i ∧ q = .int j ∧ wp (g i j) Q E := by
  unfold ints2 at h
  split at h
  · exact ⟨_, _, rfl, rfl, h⟩
  · exact h.elim
theorem run_aug {i : Nat} {p : PV} {n : PV → Res (Fl S L)} {f : Int → Int → Int} (hi : ρ[i]? = some (.fz p)) (he : Vw K cl W te ρ m) (hn : nad ρ i = true) (w : Wk ρ ρx) (h : ∀ x, Runs K cl W u (ρ.set i (.fz x)) (n x) ρn ρl ρx) :
    Runs K cl W (tSeq (tAug i te (ipI f)) u) ρ (m >>= fun y => ints2 (fun i j => .val (.int (f i j))) p y >>= n) ρn ρl ρx := fun O bs σ H D R hb q => by
  obtain ⟨x, e, v, rfl, hv⟩ := R.sl.get hi
  refine ⟨v, e, he O bs σ H _ R (wp_mono (wp_bind.mp q) (fun y qy v2 H' s iy => ?_) fun _ z => z.xw R w)⟩
  obtain ⟨i1, j1, rfl, rfl, qy⟩ := wp_ints2 (wp_bind.mp qy)
  cases hv
  cases isV_int iy
  have g : Gr (adr ρ σ) H (adr (ρ.set i (.fz (.int (f i1 j1)))) (σ.set i (some (.int (f i1 j1))))) H' := by rw [adr_setn hn]; exact Gr.of s
  exact ⟨i1, j1, rfl, rfl, h _ O bs _ H' D ((R.same s).setfz hn (.int _)) hb (wp_mono qy (fun _ z => z.step g) fun _ z => z.step g)⟩
theorem run_par {i j : Nat} {n : PV → PV → Res (Fl S L)} (ha : Pur K cl W ta ρ ma) (hb' : Pur K cl W te ρ m) (hi : nad ρ i = true) (hj : nad ρ j = true) (w : Wk ρ ρx) (h : ∀ x y, Runs K cl W u ((ρ.set i (.fz x)).set j (.fz y)) (n x y) ρn ρl ρx) :
    Runs K cl W (tSeq (tPar i j (tCons ta (tCons te tNil))) u) ρ (ma >>= fun x => m >>= fun y => n x y) ρn ρl ρx := fun O bs σ H D R hb q => by
  refine ha O bs σ H _ R (wp_mono (wp_bind.mp q) (fun x qx v1 H1 s1 i1 => ?_) fun _ z => z.xw R w)
  refine hb' O bs σ H1 _ (R.same s1) (wp_mono (wp_bind.mp qx) (fun y qy v2 H2 s2 i2 => ?_) fun _ z => (z.step (Gr.of s1)).xw (R.same s1) w)
  have s12 := s1.trans s2
  have g : Gr (adr ρ σ) H (adr ((ρ.set i (.fz x)).set j (.fz y)) ((σ.set i (some v1)).set j (some v2))) H2 := by rw [adr_setn (nad_set hj), adr_setn hi]; exact Gr.of s12
  refine ⟨v1, v2, rfl, h x y O bs _ H2 D (Rel.setfz ((R.same s12).setfz hi (i1.mono (frz_same s2))) (nad_set hj) (by rw [adr_setn hi]; exact i2)) hb (wp_mono qy (fun _ z => z.step g) fun _ z => z.step g)⟩
end
/-! ### defs, calls, errors, fields -/
section
variable (K : PySem.W.Frag) (cl : Str → Option Addr)
def spP (mf : List PV → Res PV) : Sp := fun vs H Q E => ∃ O ps, (∀ a, a ∈ O → ∃ o, H a = some o) ∧ IsL K cl (frz H O) vs ps ∧
  wp (mf ps) (fun r => ∀ v H', Sub H H' → Is K cl (frz H' O) v r → Q v H') (fun c => ∀ C H', cl c = some C → Sub H H' → E (.ref C) none H')
end
def retF (M : Res (Fl Unit Empty)) : Res PV := M >>= fun f => match f with
  | .nx _ => .val .non
  | .rt v _ => .val v
  | .ro _ _ => .stuck
def ap0 (f : Res PV) : List PV → Res PV
  | [] => f
  | _ => .stuck
def ap1 (f : PV → Res PV) : List PV → Res PV
  | [a] => f a
  | _ => .stuck
def ap2 (f : PV → PV → Res PV) : List PV → Res PV
  | [a, b] => f a b
  | _ => .stuck
def ap3 (f : PV → PV → PV → Res PV) : List PV → Res PV
  | [a, b, c] => f a b c
  | _ => .stuck
def ap4 (f : PV → PV → PV → PV → Res PV) : List PV → Res PV
  | [a, b, c, d] => f a b c d
  | _ => .stuck
def ap5 (f : PV → PV → PV → PV → PV → Res PV) : List PV → Res PV
  | [a, b, c, d, e] => f a b c d e
  | _ => .stuck
def ap6 (f : PV → PV → PV → PV → PV → PV → Res PV) : List PV → Res PV
  | [a, b, c, d, e, g] => f a b c d e g
  | _ => .stuck
def ap7 (f : PV → PV → PV → PV → PV → PV → PV → Res PV) : List PV → Res PV
  | [a, b, c, d, e, g, h] => f a b c d e g h
  | _ => .stuck
/-- mf answers lists of n values alone -/
def Takn (n : Nat) (mf : List PV → Res PV) : Prop := ∀ ps, ps.length ≠ n → mf ps = .stuck
theorem takn0 {f : Res PV} : Takn 0 (ap0 f) := fun ps h => by
  unfold ap0; split
  · exact absurd rfl h
  · rfl
theorem takn1 {f : PV → Res PV} : Takn 1 (ap1 f) := fun ps h => by
  unfold ap1; split
  · exact absurd rfl h
  · rfl
theorem takn2 {f : PV → PV → Res PV} : Takn 2 (ap2 f) := fun ps h => by
  unfold ap2; split
  · exact absurd rfl h
  · rfl
theorem takn3 {f : PV → PV → PV → Res PV} : Takn 3 (ap3 f) := fun ps h => by
  unfold ap3; split
  · exact absurd rfl h
  · rfl
theorem takn4 {f : PV → PV → PV → PV → Res PV} : Takn 4 (ap4 f) := fun ps h => by
  unfold ap4; split
  · exact absurd rfl h
  · rfl
theorem takn5 {f : PV → PV → PV → PV → PV → Res PV} : Takn 5 (ap5 f) := fun ps h => by
  unfold ap5; split
  · exact absurd rfl h
  · rfl
theorem takn6 {f : PV → PV → PV → PV → PV → PV → Res PV} : Takn 6 (ap6 f) := fun ps h => by
  unfold ap6; split
  · exact absurd rfl h
  · rfl
theorem takn7 {f : PV → PV → PV → PV → PV → PV → PV → Res PV} : Takn 7 (ap7 f) := fun ps h => by
  unfold ap7; split
  · exact absurd rfl h
  · rfl
section
variable {P : Program} {w : World} {K : PySem.W.Frag} {mg : Str → Option Value} {base : Heap} {cl : Str → Option Addr}
theorem fz_adr : ∀ (qs : List PV) (n : Nat) (σ : St), adr (qs.map Slot.fz ++ uns n) σ = []
  | [], 0, [] => rfl
  | [], 0, _ :: _ => rfl
  | [], n + 1, [] => rfl
  | [], n + 1, _ :: σ => fz_adr [] n σ
  | _ :: qs, n, [] => rfl
  | _ :: qs, n, _ :: σ => fz_adr qs n σ
theorem fz_owa : ∀ (qs : List PV) (n : Nat) (σ : St), owa (qs.map Slot.fz ++ uns n) σ = []
  | [], 0, [] => rfl
  | [], 0, _ :: _ => rfl
  | [], n + 1, [] => rfl
  | [], n + 1, _ :: σ => fz_owa [] n σ
  | _ :: qs, n, [] => rfl
  | _ :: qs, n, _ :: σ => fz_owa qs n σ
theorem uns_adr (n : Nat) (σ : St) : adr (uns n) σ = [] := fz_adr [] n σ
theorem fz_rel {F H : Hp} : ∀ {vs : List V} {qs : List PV} (n : Nat), IsL K cl F vs qs → RelS K cl [] F H (qs.map Slot.fz ++ uns n) (vs.map some ++ List.replicate n none)
  | _, _, 0, .nil => .nil
  | _, _, n + 1, .nil => .cons trivial (fz_rel n .nil)
  | _, _, n, .cons a r => .cons ⟨_, rfl, a⟩ (fz_rel n r)
open PySem.Spec PyProof.Rows in
theorem fnP {x qual : Str} {st : Stmt} {f : Addr} {fd : FuncData} {N ps : List Str} {k n : Nat} {mf : List PV → Res PV} (F : Fun K x qual st f fd) (S : FnScope N ps (defScope st)) (hn : ps.length = n) (tk : Takn n mf)
    (h : ∀ (cdv : Value) (A : Around) (outer : List Env) (s : Shared) (H : Hp) (E : XK), Room k (A.deeper (envOfC qual (defScope st) s.heap.objs.size f cdv)) → ∀ qs : List PV, qs.length = n →
      ∃ t, PSs (cxOf (L2.CX P w) P w K mg base N qual (defScope st) f cdv A outer s H E) (defBody st) t ∧ ∃ M, Runs K cl (fun c d _ H' => E c d H') t (qs.map Slot.fz ++ uns (N.length - n)) M (fun _ : Unit => uns N.length) (fun l : Empty => nomatch l) (uns N.length) ∧ mf qs = retF M) :
    FnOk P w K mg base (L2.CX P w) (k + 1) f fd ps (spP K cl mf) := by
  have len : ∀ vs H Q E, spP K cl mf vs H Q E → vs.length = n := fun vs H Q E ⟨O, qs, hO, hl, hw⟩ => by
    rw [hl.len]
    refine Classical.byContradiction fun c => ?_
    rw [tk qs c] at hw
    exact hw
  refine F.okX S (fun vs H Q E h => (len vs H Q E h).trans hn.symm) (fun cdv A outer s H vs Q E hr hsp => ?_)
  have hvn := len vs H Q E hsp
  obtain ⟨O, qs, hO, hl, hw⟩ := hsp
  have hqn : qs.length = n := by rw [← hl.len]; exact hvn
  obtain ⟨t, ht, M, hM, e⟩ := h cdv A outer s H E hr qs hqn
  refine ⟨t, ht, ?_⟩
  rw [e] at hw
  have st0 : L2.start N vs = vs.map some ++ List.replicate (N.length - n) none := by unfold L2.start; rw [hvn]
  rw [st0]
  have R : Rel K cl O [] (qs.map Slot.fz ++ uns (N.length - n)) (vs.map some ++ List.replicate (N.length - n) none) H :=
    ⟨by rw [fz_adr, List.append_nil]; exact fz_rel _ hl, by rw [fz_adr]; exact List.nodup_nil, hO, by rw [fz_owa]; exact fun _ z => nomatch z⟩
  have sub : ∀ {A' : List Addr} {H' : Hp}, Gr (adr (qs.map Slot.fz ++ uns (N.length - n)) (vs.map some ++ List.replicate (N.length - n) none)) H A' H' → Sub H H' := fun {A' H'} g x o e => g.1 x o (by rw [fz_adr]; exact fun z => nomatch z) e
  refine hM O [] _ H _ R (fun _ z => nomatch z) (wp_mono (wp_bind.mp hw) (fun fl q => ?_) fun c q C σ' H' e g _ => q C H' e (sub g))
  cases fl with
  | nx s => exact fun σ' H' g R' => q .non H' (sub g) .non
  | rt v r => exact fun w' H' g i _ => q w' H' (sub g) i
  | ro mo r => exact q.elim
  | bk l => exact nomatch l
  | ct l => exact nomatch l
end
section
variable {K : PySem.W.Frag} {cl : Str → Option Addr} {W Wo : WX} {bs O A A1 B : List Addr} {F H H' H1 : Hp} {ρ ρ' ρx ρh : Ro} {σ : St} {S S1 L : Type} {ρn : S → Ro} {ρj : S1 → Ro} {ρl : L → Ro} {D : Ends} {t u v tb : TS} {te ta tc td : TE} {m ma mb mc md : Res PV} {tr : TA} {ml : Res (List PV)} {mf : List PV → Res PV}
theorem pu_call (hl : PurL K cl W tr ρ ml) : Pur K cl W (tCallS (spP K cl mf) (WE W) tr) ρ (ml >>= mf) := fun O bs σ H Q R q => by
  refine hl O bs σ H _ R (wp_mono (wp_bind.mp q) (fun ps qs vs H1 s1 i1 => ?_) fun _ z => z)
  exact ⟨O ++ adr ρ σ, ps, fun a h => (R.same s1).got h, i1, wp_mono qs (fun r qr v H' s i => qr v H' (s1.trans s) i) fun c qc C H' e s => qc C H' e (s1.trans s)⟩
theorem pu_call1 {f : PV → Res PV} (ha : Pur K cl W ta ρ ma) : Pur K cl W (tCallS (spP K cl (ap1 f)) (WE W) (tCons ta tNil)) ρ (ma >>= f) := fun O bs σ H Q R q =>
  pu_call (mf := ap1 f) (pl_cons ha pl_nil) O bs σ H Q R (by cases ma <;> exact q)
theorem pu_call2 {f : PV → PV → Res PV} (ha : Pur K cl W ta ρ ma) (hb : Pur K cl W te ρ m) : Pur K cl W (tCallS (spP K cl (ap2 f)) (WE W) (tCons ta (tCons te tNil))) ρ (ma >>= fun x => m >>= fun y => f x y) := fun O bs σ H Q R q =>
  pu_call (mf := ap2 f) (pl_cons ha (pl_cons hb pl_nil)) O bs σ H Q R (by cases ma <;> cases m <;> exact q)
theorem pu_call3 {f : PV → PV → PV → Res PV} (ha : Pur K cl W ta ρ ma) (hb : Pur K cl W te ρ m) (hc : Pur K cl W tc ρ mc) : Pur K cl W (tCallS (spP K cl (ap3 f)) (WE W) (tCons ta (tCons te (tCons tc tNil)))) ρ (ma >>= fun x => m >>= fun y => mc >>= fun z => f x y z) := fun O bs σ H Q R q =>
  pu_call (mf := ap3 f) (pl_cons ha (pl_cons hb (pl_cons hc pl_nil))) O bs σ H Q R (by cases ma <;> cases m <;> cases mc <;> exact q)
theorem pu_call4 {f : PV → PV → PV → PV → Res PV} (ha : Pur K cl W ta ρ ma) (hb : Pur K cl W te ρ m) (hc : Pur K cl W tc ρ mc) (hd : Pur K cl W td ρ md) : Pur K cl W (tCallS (spP K cl (ap4 f)) (WE W) (tCons ta (tCons te (tCons tc (tCons td tNil))))) ρ (ma >>= fun x => m >>= fun y => mc >>= fun z => md >>= fun z' => f x y z z') := fun O bs σ H Q R q =>
  pu_call (mf := ap4 f) (pl_cons ha (pl_cons hb (pl_cons hc (pl_cons hd pl_nil)))) O bs σ H Q R (by cases ma <;> cases m <;> cases mc <;> cases md <;> exact q)
theorem pu_call5 {f : PV → PV → PV → PV → PV → Res PV} {t5 : TE} {m5 : Res PV} (ha : Pur K cl W ta ρ ma) (hb : Pur K cl W te ρ m) (hc : Pur K cl W tc ρ mc) (hd : Pur K cl W td ρ md) (h5 : Pur K cl W t5 ρ m5) : Pur K cl W (tCallS (spP K cl (ap5 f)) (WE W) (tCons ta (tCons te (tCons tc (tCons td (tCons t5 tNil)))))) ρ (ma >>= fun x => m >>= fun y => mc >>= fun z => md >>= fun z' => m5 >>= fun z5 => f x y z z' z5) := fun O bs σ H Q R q =>
  pu_call (mf := ap5 f) (pl_cons ha (pl_cons hb (pl_cons hc (pl_cons hd (pl_cons h5 pl_nil))))) O bs σ H Q R (by cases ma <;> cases m <;> cases mc <;> cases md <;> cases m5 <;> exact q)
/-- calls by keywords: the wish doesn't hang on the slots -/
theorem pu_callK {E : XK} {tk : TA} {mk : Res (List PV)} {gV : List V → List V → List V} {gP : List PV → List PV → List PV} (hg : ∀ {F : Hp} {vs : List V} {ps : List PV} {ws : List V} {qs : List PV}, IsL K cl F vs ps → IsL K cl F ws qs → IsL K cl F (gV vs ws) (gP ps qs))
    (hl : PurL K cl (fun c d _ H => E c d H) tr ρ ml) (hk : PurL K cl (fun c d _ H => E c d H) tk ρ mk) : Pur K cl (fun c d _ H => E c d H) (tCallK (spP K cl mf) gV E tr tk) ρ (ml >>= fun ps => mk >>= fun qs => mf (gP ps qs)) := fun O bs σ H Q R q => by
  refine hl O bs σ H _ R (wp_mono (wp_bind.mp q) (fun ps q1 vs H1 s1 i1 => ?_) fun _ z => z)
  refine hk O bs σ H1 _ (R.same s1) (wp_mono (wp_bind.mp q1) (fun qs q2 ws H2 s2 i2 => ?_) fun _ z => z.mono s1)
  have s12 := s1.trans s2
  exact ⟨O ++ adr ρ σ, gP ps qs, fun a h => (R.same s12).got h, hg (i1.mono (frz_same s2)) i2, wp_mono q2 (fun r qr v H' s i => qr v H' (s12.trans s) i) fun c qc C H' e s => qc C H' e (s12.trans s)⟩
/-! errors -/
theorem run_raise {c : Str} {C : Addr} (hc : cl c = some C) (w : Wk ρ ρx) : Runs (S := S) (L := L) K cl W (tSeq (fun _ σ H => (fun (_ : St) (H : Hp) (Q : XK) => Q (.ref C) none H) σ H fun cls d H' => W cls d σ H') u) ρ (.exc c) ρn ρl ρx := fun O bs σ H D R hb q =>
  q C σ H hc (Gr.wk w) (R.wk w)
def tryF {α : Type} (M : Res α) (hit : Str → Option Bool) (h : Res α) : Res α := match M with
  | .exc c => match hit c with
    | some true => noX h
    | some false => .exc c
    | none => .stuck
  | x => x
theorem run_try {c : Value} {ts : Addr → Value → Option Addr → TS} {tb : WX → TS} {M Mh : Res (Fl S L)} {hit : Str → Option Bool} (hm : ∀ c' C b, cl c' = some C → hit c' = some b → PySem.W.exmOne K (.ref C) c = some b) (w : Wk ρh ρx) (hb : ∀ W', Runs K cl W' (tb W') ρ M ρn ρl ρh)
    (hh : ∀ a cls d, Runs K cl (fun _ _ _ _ => False) (ts a cls d) ρh Mh ρn ρl ρx) : Runs K cl W (fun D σ H => tb (wOnly K c ts W D) D σ H) ρ (tryF M hit Mh) ρn ρl ρx := fun O bs σ H D R hbs q => by
  refine hb _ O bs σ H D R hbs ?_
  cases M with
  | val f => exact q
  | stuck => exact q
  | exc c' =>
    intro C σ' H' e g R'
    replace q : wp (match hit c' with | some true => noX Mh | some false => Res.exc c' | none => .stuck) (FlOk K cl O bs ρn ρl D (adr ρ σ) H) (ExOk K cl W O bs ρx (adr ρ σ) H) := q
    cases hc : hit c' with
    | none => rw [hc] at q; exact q.elim
    | some b =>
      rw [hc] at q
      refine ⟨b, hm c' C b e hc, fun hy a _ => ?_, fun hn => ?_⟩
      · subst hy
        exact hh a _ _ O bs σ' H' D R' hbs (wp_mono (wp_noX (E' := fun _ => False) q) (fun f z => z.step g) fun _ z => z.elim)
      · subst hn
        have q' : ExOk K cl W O bs ρx (adr ρ σ) H c' := q
        exact q' C σ' H' e (g.trans (Gr.wk w)) (R'.wk w)
/-! fields -/
def fldP (cs : List Str) (f : Str) : PV → Res PV
  | .ins C fs => if C ∈ cs then match fs.lookup f with
    | some p => .val p
    | none => .stuck
    else .stuck
  | _ => .stuck
theorem pu_fld {cs : List Str} {f : Str} (hF : ∀ C, C ∈ cs → ∀ c, cl C = some c → Cls K c ∧ NoAttr K c f) (ha : Vw K cl W ta ρ ma) : Pur K cl W (tFld K ta f) ρ (ma >>= fldP cs f) := fun O bs σ H Q R q => by
  refine ha O bs σ H _ R (wp_mono (wp_bind.mp q) (fun x qx v1 H1 s1 i1 => ?_) fun _ z => z)
  unfold fldP at qx
  split at qx
  · next C fs =>
    split at qx
    · next hC =>
      split at qx
      · next p e =>
        cases i1 with
        | ins hc h l =>
          obtain ⟨v, e2, iv⟩ := l.look e
          obtain ⟨c1, c2⟩ := hF C hC _ hc
          exact ⟨_, _, _, _, v, rfl, frz_sub _ _ h, c1, c2, e2, qx v H1 s1 iv⟩
      · exact qx.elim
    · exact qx.elim
  · exact qx.elim
/-! slices -/
def partP : PV → Res Int
  | .int i => .val i
  | _ => .stuck
def PrtO (K : PySem.W.Frag) (cl : Str → Option Addr) (W : WX) (t : TO) (ρ : Ro) (m : Res (Option Int)) : Prop := ∀ (O bs : List Addr) (σ : St) (H : Hp) (Q : Option Int → Hp → Prop), Rel K cl O bs ρ σ H →
  wp m (fun r => ∀ H', Sub H H' → Q r H') (XW cl W σ H) → t σ H Q
theorem pr_none : PrtO K cl W tNoPart ρ (.val none) := fun O bs σ H Q R q => q H .refl
theorem pr_some (ha : Vw K cl W ta ρ ma) : PrtO K cl W (tPart ta) ρ (ma >>= partP >>= fun i => .val (some i)) := fun O bs σ H Q R q => by
  rw [wp_bind, wp_bind] at q
  refine ha O bs σ H _ R (wp_mono q (fun x qx v1 H1 s1 i1 => ?_) fun _ z => z)
  unfold partP at qx
  split at qx
  · cases isV_int i1; exact ⟨_, rfl, qx H1 s1⟩
  · exact qx.elim
def cutP (xs : List PV) (lo hi : Option Int) : List PV := (xs.drop (HT.sIx xs.length 0 lo)).take (HT.sIx xs.length xs.length hi - HT.sIx xs.length 0 lo)
theorem IsL.cut {vs : List V} {ps : List PV} (h : IsL K cl F vs ps) (lo hi : Option Int) : IsL K cl F (cutV vs lo hi) (cutP ps lo hi) := by
  unfold cutV cutP
  rw [h.len]
  exact (h.drop _).take _
def slP (p : PV) (lo hi : Option Int) : Res PV := match p with
  | .tup ps => .val (.tup (cutP ps lo hi))
  | .lst ps => .val (.lst (cutP ps lo hi))
  | .fls ps => .val (.lst (cutP ps lo hi))
  | _ => .stuck
def rSlV (K : PySem.W.Frag) : V → Option Int → Option Int → Hp → VK → Prop := sOr (rSlL K) (rSlA K)
theorem sl_V (K : PySem.W.Frag) {X : Cx} (e : X.K = K) : SlR X (rSlV K) := by subst e; exact sl_list.or sl_tupA
theorem cut_all {vs : List V} {lo hi : Option Int} (h : HT.sIx vs.length 0 lo = 0 ∧ HT.sIx vs.length vs.length hi = vs.length) : cutV vs lo hi = vs := by
  unfold cutV
  rw [h.1, h.2, Nat.sub_zero, List.drop_zero, List.take_length]
theorem pu_sl {tl th : TO} {mlo mhi : Res (Option Int)} (ha : Vw K cl W ta ρ ma) (hl : PrtO K cl W tl ρ mlo) (hh : PrtO K cl W th ρ mhi) : Pur K cl W (tSl (rSlV K) ta tl th) ρ (ma >>= fun x => mlo >>= fun l => mhi >>= fun h => slP x l h) := fun O bs σ H Q R q => by
  refine ha O bs σ H _ R (wp_mono (wp_bind.mp q) (fun x qx v1 H1 s1 i1 => ?_) fun _ z => z)
  refine hl O bs σ H1 _ (R.same s1) (wp_mono (wp_bind.mp qx) (fun l ql H2 s2 => ?_) fun _ z => z.mono s1)
  have s12 := s1.trans s2
  refine hh O bs σ H2 _ (R.same s12) (wp_mono (wp_bind.mp ql) (fun h qh H3 s3 => ?_) fun _ z => z.mono s12)
  have s13 := s12.trans s3
  have R3 := R.same s13
  have i3 := i1.mono (frz_same (A := O ++ adr ρ σ) (s2.trans s3)) (s2.trans s3)
  unfold slP at qh
  split at qh
  · cases i3 with
    | tup hs hl =>
    refine .inr ⟨_, _, rfl, frz_sub.sqT hs, fun e => ?_, fun _ p hp => qh _ _ (s13.trans (sub_new hp _)) (new_tup (fun a h => R3.got h) hp (hl.cut _ _))⟩
    refine qh _ H3 s13 (.tup hs ?_)
    have := hl.cut l h
    rwa [cut_all e] at this
  · obtain ⟨a, vs, rfl, hs, hl⟩ := i3
    exact .inl ⟨a, vs, rfl, .inl (.inl hs), fun p hp => qh _ _ (s13.trans (sub_new hp _)) (new_lst (fun a h => R3.got h) hp (hl.cut _ _))⟩
  · cases i3 with
    | fls hs hl => exact .inl ⟨_, _, rfl, frz_sub.sqL hs, fun p hp => qh _ _ (s13.trans (sub_new hp _)) (new_lst (fun a h => R3.got h) hp (hl.cut _ _))⟩
  · exact qh.elim
end
/-! ### errors of one's own, made without arguments -/
section
open PySem.Spec PyProof.Rows
variable {X : Cx}
theorem pmk_own0 {C : Addr} {bmB : List Value} {B newId initId : String} {x : Str} {p pos : Pos} (F : ExcBaseFacts B newId initId bmB) (q : PySem.W.excIn X.K C bmB newId = true) (gC : X.mg x = some (.ref C))
    (kC : PySem.W.keepIn X.K (.ref C) = true) (r : Raises X (.ref C)) (hg : Gl X x) (hdb : (x == ("__debug__" : Str)) = false := by decide) :
    PMk X (.Call (.Name x p) [] [] pos) (fun _ H Q => Q (.ref C) none H) := by
  intro pins s σ H Q I h
  refine wpAny_Call_Name_kw (ld_glob I hg gC ?_ hdb)
  refine PySem.W.callWith_K0 (first := []) I.kIn kC ?_
  show wpAny _ _ (call (.ref C) []) _ _ _
  have X0 := I.kIn
  obtain ⟨bm, N, nm, qn, bs, hdct, sn, sub, ab, col, dd, k0, k1, k2, k3, k5, mN, hC, hN, hni, T⟩ := exc_obj X0 q
  refine wpAny_call_exc_subT F T hC hN hni (fun h' e hm => ?_) (Nat.zero_le _)
  exact mk_of I hm r h (I.hok.gone hm.new)
theorem pss_given {st : List Stmt} {t : TS} {φ : Prop} (h : φ → PSs X st t) : PSs X st (fun D σ H => φ ∧ t D σ H) := ⟨fun pins s σ H D I q => (h q.1).run pins s σ H D I q.2⟩
end
theorem kit_own {K : PySem.W.Frag} {D C : Addr} {b : Bool} (i : PySem.W.isClsIn K C = true) (t : PySem.W.typeIn K (.ref C) = some (.type "type")) (s : PySem.W.subIn K (.ref D) (.ref C) = some b) (h : D = C → b = true) : PySem.W.kitOne K (.ref D) (.ref C) = some b := by
  unfold PySem.W.kitOne
  by_cases e : D = C
  · rw [if_pos (by rw [e]; exact beq_self_eq_true _), h e]
  · have ne : (Value.ref D == Value.ref C) = false := beq_eq_false_iff_ne.mpr (fun z => e (Value.ref.inj z))
    rw [if_neg (by rw [ne]; exact Bool.false_ne_true)]
    show (if ((PySem.W.clsIn K C).isSome && PySem.W.typeIn K (.ref C) == some (.type "type")) = true then PySem.W.subIn K (.ref D) (.ref C) else none) = some b
    have i' : (PySem.W.clsIn K C).isSome = true := i
    rw [i', t, if_pos (by rfl)]
    exact s
theorem kit_val {K : PySem.W.Frag} {D : Addr} {b : Bool} (s : PySem.W.subIn K (.ref D) (.type "ValueError") = some b) : PySem.W.kitOne K (.ref D) (.type "ValueError") = some b := by
  unfold PySem.W.kitOne
  have ne : (Value.ref D == Value.type "ValueError") = false := beq_eq_false_iff_ne.mpr (fun z => nomatch z)
  rw [if_neg (by rw [ne]; exact Bool.false_ne_true)]
  show (if PySem.W.kitMeta "ValueError" = true then PySem.W.subIn K (.ref D) (.type "ValueError") else none) = some b
  rw [if_pos (by decide +kernel)]
  exact s
/-! ### calls by keywords alone -/
section
open PySem.Spec PyProof.Rows
variable {X : Cx} {CX : CXT} {k : Nat} {f : Addr} {fd : FuncData} {ps ks : List Str} {sp : Sp} {E : XK} {x : Str} {p pos : Pos} {kws : List Keyword} {tk : TA} {g : List Value → List Value → List Value} {gV : List V → List V → List V}
theorem pe_callK0 (F : FnOk X.prog X.w X.K X.mg X.base CX k f fd ps sp) (hr : Room k X.A) (hg : Gl X x) (hm : X.mg x = some (.ref f)) (hk : PySem.W.keepIn X.K (.ref f) = true) (hb : KBinds X.K fd ps ks g gV) (hx : Passes CX X E)
    (hkw : PK X kws tk) (hall : (backToKw pos (keywordEach kws X.env)).all (·.1.isSome) = true := by rfl) (hks : (backToKw pos (keywordEach kws X.env)).filterMap (·.1) = ks := by rfl)
    (hdb : (x == ("__debug__" : Str)) = false := by decide)
    (hpl : ((backTo pos (starEach [] X.env)).any (·.1) || (backToKw pos (keywordEach kws X.env)).any (·.1.isNone)) = false := by rfl) :
    PE X (.Call (.Name x p) [] kws pos) (tCallK sp gV E tNil tk) := by
  refine ⟨fun pins s σ H Q I h => ?_⟩
  refine wpAny_Call_Name_kw (ld_glob I hg hm ?_ hdb)
  refine PySem.W.callWith_KW0 (h₀ := X.base) I.ok.mod.kin hk hall ?_ hpl
  refine thn (hkw.run pos pins s σ H _ I h) fun ws s2 ⟨zs, H2, I2, rz, q2⟩ => ⟨I2.kIn, ?_⟩
  rw [hks]
  exact run_fnk (us := []) (vs := []) F hr hb hx I2 .nil rz q2
end
theorem fun_kbinds {K : PySem.W.Frag} {x qual : Str} {st : Stmt} {f : Addr} {fd : FuncData} {ps ks : List Str} {g : List Value → List Value → List Value} {gV : List V → List V → List V} (F : Fun K x qual st f fd)
    (hrel : ∀ {vs : List V} {us : List Value} {zs : List V} {ws : List Value}, Vals vs us → Vals zs ws → Vals (gV vs zs) (g us ws))
    (h : ∀ (kV doc pm : Value) (an : Option Addr) (cdv ct : Value) (us ws : List Value), (g us ws).length = ps.length → bindArgs (PySem.W.fnOf x qual (defArgs st) (defBody st) (defScope st) .none kV doc pm an cdv ct) ⟨us, ks.zip ws⟩ = pure (ps.zip (g us ws))) : KBinds K fd ps ks g gV := by
  obtain ⟨oc, od, kV, doc, pm, an, cdv, ct, osl, rfl, lk, hcd⟩ := F.ex
  exact ⟨fun s us ws _ hl => .of_eq (h kV doc pm an cdv ct us ws hl), hrel⟩
/-! ### rules that name the fragment -/
section
variable {X : Cx}
theorem op_eqV (K : PySem.W.Frag) (e : X.K = K) (hu : X.A.units + 64 < cLine) : OpR X (compareOp .Eq) (rEqD K) := by subst e; exact op_eqD hu
theorem op_neV (K : PySem.W.Frag) (e : X.K = K) (hu : X.A.units + 64 < cLine) : OpR X (compareOp .NotEq) (rNeD K) := by subst e; exact op_neD hu
theorem op_inV (K : PySem.W.Frag) (e : X.K = K) : OpR X (compareOp .In) (rIn K false) := by subst e; exact op_in_seq
theorem op_notInV (K : PySem.W.Frag) (e : X.K = K) : OpR X (compareOp .NotIn) (rIn K true) := by subst e; exact op_notIn_seq
theorem call_isiV (K : PySem.W.Frag) (e : X.K = K) : CallR X (.builtin "isinstance") (rIsi K) := by subst e; exact call_isi
theorem cr_sumV (K : PySem.W.Frag) (e : X.K = K) (hc : X.calm = true) : CallR X (.builtin "sum") (rSum K) := by subst e; exact cr_sum hc
theorem cr_allV (K : PySem.W.Frag) (e : X.K = K) (hc : X.calm = true) : CallR X (.builtin "all") (rAll K) := by subst e; exact cr_all hc
theorem cr_anyV (K : PySem.W.Frag) (e : X.K = K) (hc : X.calm = true) : CallR X (.builtin "any") (rAny K) := by subst e; exact cr_any hc
theorem call_intV : CallR X (.type "int") rIntV := call_int1
theorem call_boolV : CallR X (.type "bool") rBoolV := call_bool1
theorem pi_listV (K : PySem.W.Frag) {tg l : Expr} {tl : TE} (e : X.K = K) (hl : PE X l tl) : PI X tg l (iList K tl) := by subst e; exact pi_list hl
theorem pi_zipV (K : PySem.W.Frag) (ek : X.K = K) {e e2 : Expr} {ta : TA} {p pos tpos : Pos} {elts : List Expr} {kk : Nat} (hg : Gl X "zip") (hm : X.mg "zip" = none) (ha : PA X [e, e2] ta)
    (hs : starEach [e, e2] X.env = (false, eval e X.env) :: starEach [e2] X.env := by rfl) (hpl : (backTo pos (starEach [e2] X.env)).any (·.1) = false := by rfl) :
    PI X (.Tuple elts kk tpos) (.Call (.Name "zip" p) [e, e2] [] pos) (RZ.iZipA K ta) := by subst ek; exact RZ.pi_zipA hg hm ha hs hpl
theorem pi_enumV (K : PySem.W.Frag) (ek : X.K = K) {e : Expr} {ta : TA} {p pos tpos : Pos} {elts : List Expr} {kk : Nat} (hg : Gl X "enumerate") (hm : X.mg "enumerate" = none) (ha : PA X [e] ta) (hs : starEach [e] X.env = [(false, eval e X.env)] := by rfl) :
    PI X (.Tuple elts kk tpos) (.Call (.Name "enumerate" p) [e] [] pos) (iEnum K ta) := by subst ek; exact pi_enum hg hm ha hs
theorem pe_fldV (K : PySem.W.Frag) (ek : X.K = K) {e : Expr} {ta : TE} {f : Str} {pos : Pos} (he : PE X e ta) (hb : attributeBase e f X.env (eval e X.env) = eval e X.env) : PE X (.Attribute e f pos) (tFld K ta f) := by subst ek; exact pe_fld he hb
theorem pe_gint {x : Str} {n : Int} {pos : Pos} (hg : Gl X x) (h : ∃ t, X.mg x = some (.int n t)) (hd : (x == ("__debug__" : Str)) = false := by decide) : PE X (.Name x pos) (tC (.int n)) := by
  obtain ⟨t, h⟩ := h
  exact pe_glob hg h ⟨t, rfl⟩ hd
end
/-- as many turns as a while may take -/
def FUEL : Nat := 1000000
open PySem.Spec PyProof.Rows in
theorem fn_stuck {P : Program} {w : World} {K : PySem.W.Frag} {mg : Str → Option Value} {base : Heap} {CX : CXT} {cl : Str → Option Addr} {k : Nat} {f : Addr} {fd : FuncData} {ps : List Str} {mf : List PV → Res PV} (h : ∀ qs, mf qs = .stuck) : FnOk P w K mg base CX k f fd ps (spP K cl mf) := by
  refine ⟨fun vs H Q E ⟨O, qs, _, _, hw⟩ => ?_, fun A outer s H args us vs Q E _ _ _ _ ⟨O, qs, _, _, hw⟩ => ?_⟩
  · rw [h] at hw; exact hw.elim
  · rw [h] at hw; exact hw.elim
theorem stuck1 : ∀ qs, ap1 (fun _ => (.stuck : Res PV)) qs = .stuck := fun qs => by unfold ap1; split <;> rfl
theorem stuck2 : ∀ qs, ap2 (fun _ _ => (.stuck : Res PV)) qs = .stuck := fun qs => by unfold ap2; split <;> rfl
theorem stuck3 : ∀ qs, ap3 (fun _ _ _ => (.stuck : Res PV)) qs = .stuck := fun qs => by unfold ap3; split <;> rfl
theorem stuck4 : ∀ qs, ap4 (fun _ _ _ _ => (.stuck : Res PV)) qs = .stuck := fun qs => by unfold ap4; split <;> rfl
theorem stuck5 : ∀ qs, ap5 (fun _ _ _ _ _ => (.stuck : Res PV)) qs = .stuck := fun qs => by unfold ap5; split <;> rfl
theorem stuck6 : ∀ qs, ap6 (fun _ _ _ _ _ _ => (.stuck : Res PV)) qs = .stuck := fun qs => by unfold ap6; split <;> rfl
theorem stuck7 : ∀ qs, ap7 (fun _ _ _ _ _ _ _ => (.stuck : Res PV)) qs = .stuck := fun qs => by unfold ap7; split <;> rfl
/-! ### expressions that change what is owned or lent: a state of contents is threaded -/
section
variable (K : PySem.W.Frag) (cl : Str → Option Addr)
def Eff {S : Type} (t : TE) (ρs : S → Ro) (m : S → Res (PV × S)) : Prop := ∀ (s : S) (O bs : List Addr) (σ : St) (H : Hp) (Q : VK), Rel K cl O bs (ρs s) σ H → (∀ b, b ∈ bs → b ∈ O) →
  wp (m s) (fun r => ∀ v H', Gr (adr (ρs s) σ) H (adr (ρs s) σ) H' → Rel K cl O bs (ρs r.2) σ H' → adr (ρs r.2) σ = adr (ρs s) σ → Is K cl (frz H' (O ++ adr (ρs s) σ)) v r.1 → Q v H') (fun _ => False) → t σ H Q
def EffL {S : Type} (t : TA) (ρs : S → Ro) (m : S → Res (List PV × S)) : Prop := ∀ (s : S) (O bs : List Addr) (σ : St) (H : Hp) (Q : List V → Hp → Prop), Rel K cl O bs (ρs s) σ H → (∀ b, b ∈ bs → b ∈ O) →
  wp (m s) (fun r => ∀ vs H', Gr (adr (ρs s) σ) H (adr (ρs s) σ) H' → Rel K cl O bs (ρs r.2) σ H' → adr (ρs r.2) σ = adr (ρs s) σ → IsL K cl (frz H' (O ++ adr (ρs s) σ)) vs r.1 → Q vs H') (fun _ => False) → t σ H Q
def EffT {S : Type} (t : TT) (ρs : S → Ro) (m : S → Res (Bool × S)) : Prop := ∀ (s : S) (O bs : List Addr) (σ : St) (H : Hp) (Q : Bool → Hp → Prop), Rel K cl O bs (ρs s) σ H → (∀ b, b ∈ bs → b ∈ O) →
  wp (m s) (fun r => ∀ H', Gr (adr (ρs s) σ) H (adr (ρs s) σ) H' → Rel K cl O bs (ρs r.2) σ H' → adr (ρs r.2) σ = adr (ρs s) σ → Q r.1 H') (fun _ => False) → t σ H Q
def EffI {S : Type} (wi : TI) (ρs : S → Ro) (m : S → Res (List PV × S)) : Prop := ∀ (s : S) (O bs : List Addr) (σ : St) (H : Hp) (R : It → Hp → Prop), Rel K cl O bs (ρs s) σ H → (∀ b, b ∈ bs → b ∈ O) →
  wp (m s) (fun r => ∀ J H', Gr (adr (ρs s) σ) H (adr (ρs s) σ) H' → Rel K cl O bs (ρs r.2) σ H' → adr (ρs r.2) σ = adr (ρs s) σ → ItOk K cl (fun _ => True) (frz H' (O ++ adr (ρs s) σ)) J r.1 → R J H') (fun _ => False) → wi σ H R
/-- a def that is lent one list or dict, its first argument -/
def spR (mf : MO → List PV → Res (PV × MO)) : Sp := fun vs H Q _ => ∃ O b mo us ps, vs = .ref b :: us ∧ b ∈ O ∧ (∀ a, a ∈ O → ∃ o, H a = some o) ∧ MoIs K cl (frz H O) H b mo ∧ IsL K cl (frz H O) us ps ∧
  wp (mf mo ps) (fun r => ∀ v H', (∀ x o, x ≠ b → H x = some o → H' x = some o) → MoIs K cl (frz H' O) H' b r.2 → Is K cl (frz H' O) v r.1 → Q v H') (fun _ => False)
/-- a def that gives a new list or dict -/
def spN (mf : List PV → Res MO) : Sp := fun vs H Q _ => ∃ O ps, (∀ a, a ∈ O → ∃ o, H a = some o) ∧ IsL K cl (frz H O) vs ps ∧
  wp (mf ps) (fun mo => ∀ p H', Sub H H' → H p = none → MoIs K cl (frz H' (p :: O)) H' p mo → Q (.ref p) H') (fun _ => False)
end
section
variable {K : PySem.W.Frag} {cl : Str → Option Addr} {W : WX} {bs O A A1 B : List Addr} {F H H' H1 : Hp} {ρ ρ' ρx ρh : Ro} {σ : St} {S S1 S2 L : Type} {ρs : S → Ro} {ρn : S1 → Ro} {ρj : S2 → Ro} {ρl : L → Ro} {D : Ends} {t u v tb : TS} {te ta tc td : TE} {m : S → Res PV} {ma mb mc md : S → Res (PV × S)} {tr : TA} {ml mk : S → Res (List PV × S)}
theorem Gr.eq {A A' : List Addr} (g : Gr A H A H1) (e : A' = A) : Gr A H A' H1 := by rw [e]; exact g
theorem ef_pure (h : ∀ s, Pur K cl W te (ρs s) (m s)) : Eff K cl te ρs (fun s => noX (m s) >>= fun v => .val (v, s)) := fun s O bs σ H Q R hb q => by
  refine h s O bs σ H Q R (wp_mono (wp_noX (E' := fun _ => False) (wp_bind.mp q)) (fun r qr v H' s' i => ?_) fun _ z => z.elim)
  exact qr v H' (Gr.of s') (R.same s') rfl i
theorem ef_op {r : R2} {f : PV → PV → Res PV} (ho : Op2 K cl r f) (ha : Eff K cl ta ρs ma) (hb' : Eff K cl tc ρs mb) : Eff K cl (tOp r ta tc) ρs (fun s => ma s >>= fun x => mb x.2 >>= fun y => noX (f x.1 y.1) >>= fun z => .val (z, y.2)) := fun s O bs σ H Q R hb q => by
  refine ha s O bs σ H _ R hb (wp_mono (wp_bind.mp q) (fun x qx v1 H1 g1 R1 e1 i1 => ?_) fun _ z => z)
  refine hb' x.2 O bs σ H1 _ R1 hb (wp_mono (wp_bind.mp qx) (fun y qy v2 H2 g2 R2 e2 i2 => ?_) fun _ z => z)
  rw [e1] at g2 i2
  have i1' := i1.mono (g2.sub R1.al)
  have hA : ∀ a, a ∈ O ++ adr (ρs s) σ → ∃ o, H2 a = some o := fun a h => R2.got (by rw [e2, e1]; exact h)
  refine ho _ H2 v1 v2 x.1 y.1 _ (fun _ => False) hA (i1'.view frz_sub) (i2.view frz_sub) (wp_mono (wp_noX (E' := fun _ => False) (wp_bind.mp qy)) (fun z qz v H' s iz => ?_) fun _ z => z)
  exact qz v H' ((g1.trans g2).trans (Gr.of s)) (R2.same s) (e2.trans e1) iz
theorem ef_un {r : V → Hp → VK → Prop} {f : PV → Res PV} (ho : Op1 K cl r f) (ha : Eff K cl ta ρs ma) : Eff K cl (tUn r ta) ρs (fun s => ma s >>= fun x => noX (f x.1) >>= fun z => .val (z, x.2)) := fun s O bs σ H Q R hb q => by
  refine ha s O bs σ H _ R hb (wp_mono (wp_bind.mp q) (fun x qx v1 H1 g1 R1 e1 i1 => ?_) fun _ z => z)
  have hA : ∀ a, a ∈ O ++ adr (ρs s) σ → ∃ o, H1 a = some o := fun a h => R1.got (by rw [e1]; exact h)
  exact ho _ H1 v1 x.1 _ (fun _ => False) hA (i1.view frz_sub) (wp_mono (wp_noX (E' := fun _ => False) (wp_bind.mp qx)) (fun z qz v H' s iz => qz v H' (g1.trans (Gr.of s)) (R1.same s) e1 iz) fun _ z => z)
theorem ef_cb1 {r : List V → Hp → VK → Prop} {f : PV → Res PV} (ho : Bi1 K cl r f) (ha : Eff K cl ta ρs ma) : Eff K cl (tCB r (tCons ta tNil)) ρs (fun s => ma s >>= fun x => noX (f x.1) >>= fun z => .val (z, x.2)) := ef_un (r := fun x H Q => r [x] H Q) ho ha
theorem ef_cb2 {r : List V → Hp → VK → Prop} {f : PV → PV → Res PV} (ho : Bi2 K cl r f) (ha : Eff K cl ta ρs ma) (hb' : Eff K cl tc ρs mb) : Eff K cl (tCB r (tCons ta (tCons tc tNil))) ρs (fun s => ma s >>= fun x => mb x.2 >>= fun y => noX (f x.1 y.1) >>= fun z => .val (z, y.2)) :=
  ef_op (r := fun x y H Q => r [x, y] H Q) ho ha hb'
theorem el_nil : EffL K cl tNil ρs (fun s => .val ([], s)) := fun s O bs σ H Q R hb q => q [] H .refl R rfl .nil
theorem el_cons (ha : Eff K cl ta ρs ma) (hl : EffL K cl tr ρs ml) : EffL K cl (tCons ta tr) ρs (fun s => ma s >>= fun x => ml x.2 >>= fun xs => .val (x.1 :: xs.1, xs.2)) := fun s O bs σ H Q R hb q => by
  refine ha s O bs σ H _ R hb (wp_mono (wp_bind.mp q) (fun x qx v1 H1 g1 R1 e1 i1 => ?_) fun _ z => z)
  refine hl x.2 O bs σ H1 _ R1 hb (wp_mono (wp_bind.mp qx) (fun xs qs vs H2 g2 R2 e2 i2 => ?_) fun _ z => z)
  rw [e1] at g2 i2
  exact qs _ H2 (g1.trans g2) R2 (e2.trans e1) (.cons (i1.mono (g2.sub R1.al)) i2)
theorem ef_tup (hl : EffL K cl tr ρs ml) : Eff K cl (tTup tr) ρs (fun s => ml s >>= fun xs => mkT xs.1 >>= fun z => .val (z, xs.2)) := fun s O bs σ H Q R hb q => by
  refine hl s O bs σ H _ R hb (wp_mono (wp_bind.mp q) (fun ps qs vs H1 g1 R1 e1 i1 => ?_) fun _ z => z)
  obtain ⟨z, qs⟩ := wp_sized (wp_bind.mp (wp_bind.mp qs))
  have hA : ∀ a, a ∈ O ++ adr (ρs s) σ → ∃ o, H1 a = some o := fun a h => R1.got (by rw [e1]; exact h)
  refine ⟨by rw [i1.len]; exact z, fun p hp => qs _ _ (g1.trans (Gr.of (sub_new hp _))) (R1.same (sub_new hp _)) e1 (new_tup hA hp i1)⟩
theorem ef_lst (hl : EffL K cl tr ρs ml) : Eff K cl (tLst tr) ρs (fun s => ml s >>= fun xs => mkL xs.1 >>= fun z => .val (z, xs.2)) := fun s O bs σ H Q R hb q => by
  refine hl s O bs σ H _ R hb (wp_mono (wp_bind.mp q) (fun ps qs vs H1 g1 R1 e1 i1 => ?_) fun _ z => z)
  obtain ⟨z, qs⟩ := wp_sized (wp_bind.mp (wp_bind.mp qs))
  have hA : ∀ a, a ∈ O ++ adr (ρs s) σ → ∃ o, H1 a = some o := fun a h => R1.got (by rw [e1]; exact h)
  refine ⟨by rw [i1.len]; exact z, fun p hp => qs _ _ (g1.trans (Gr.of (sub_new hp _))) (R1.same (sub_new hp _)) e1 (new_lst hA hp i1)⟩
theorem et_pure {mt : S → Res Bool} {c : TT} (h : ∀ s, Tst K cl W c (ρs s) (mt s)) : EffT K cl c ρs (fun s => noX (mt s) >>= fun b => .val (b, s)) := fun s O bs σ H Q R hb q =>
  h s O bs σ H Q R (wp_mono (wp_noX (E' := fun _ => False) (wp_bind.mp q)) (fun r qr H' s' => qr H' (Gr.of s') (R.same s') rfl) fun _ z => z.elim)
theorem et_val (ha : Eff K cl ta ρs ma) : EffT K cl (tB ta) ρs (fun s => ma s >>= fun x => asB x.1 >>= fun b => .val (b, x.2)) := fun s O bs σ H Q R hb q => by
  refine ha s O bs σ H _ R hb (wp_mono (wp_bind.mp q) (fun x qx v1 H1 g1 R1 e1 i1 => ?_) fun _ z => z)
  obtain ⟨b, e, qb⟩ := wp_asB (wp_bind.mp qx)
  rw [e] at i1
  cases i1
  exact ⟨b, rfl, qb H1 g1 R1 e1⟩
theorem et_cmp (ha : Eff K cl ta ρs ma) : EffT K cl (tTest ta) ρs (fun s => ma s >>= fun x => asB x.1 >>= fun b => .val (b, x.2)) := fun s O bs σ H Q R hb q => by
  refine ha s O bs σ H _ R hb (wp_mono (wp_bind.mp q) (fun x qx v1 H1 g1 R1 e1 i1 => ?_) fun _ z => z)
  obtain ⟨b, e, qb⟩ := wp_asB (wp_bind.mp qx)
  rw [e] at i1
  cases i1
  exact ⟨b, rfl, qb H1 g1 R1 e1⟩
variable {c1 c2 : TT} {n1 n2 : S → Res (Bool × S)}
theorem et_and (h1 : EffT K cl c1 ρs n1) (h2 : EffT K cl c2 ρs n2) : EffT K cl (tAnd c1 c2) ρs (fun s => n1 s >>= fun b => if b.1 = true then n2 b.2 else .val (false, b.2)) := fun s O bs σ H Q R hb q => by
  refine h1 s O bs σ H _ R hb (wp_mono (wp_bind.mp q) (fun b qb H1 g1 R1 e1 => ?_) fun _ z => z)
  obtain ⟨b, s1⟩ := b
  cases b with
  | true => exact h2 s1 O bs σ H1 _ R1 hb (wp_mono qb (fun c qc H2 g2 R2 e2 => qc H2 (g1.trans (by rw [e1] at g2; exact g2)) R2 (e2.trans e1)) fun _ z => z)
  | false => exact qb H1 g1 R1 e1
theorem et_or (h1 : EffT K cl c1 ρs n1) (h2 : EffT K cl c2 ρs n2) : EffT K cl (tOr c1 c2) ρs (fun s => n1 s >>= fun b => if b.1 = true then .val (true, b.2) else n2 b.2) := fun s O bs σ H Q R hb q => by
  refine h1 s O bs σ H _ R hb (wp_mono (wp_bind.mp q) (fun b qb H1 g1 R1 e1 => ?_) fun _ z => z)
  obtain ⟨b, s1⟩ := b
  cases b with
  | false => exact h2 s1 O bs σ H1 _ R1 hb (wp_mono qb (fun c qc H2 g2 R2 e2 => qc H2 (g1.trans (by rw [e1] at g2; exact g2)) R2 (e2.trans e1)) fun _ z => z)
  | true => exact qb H1 g1 R1 e1
theorem et_not (h1 : EffT K cl c1 ρs n1) : EffT K cl (tNot c1) ρs (fun s => n1 s >>= fun b => .val (!b.1, b.2)) := fun s O bs σ H Q R hb q =>
  h1 s O bs σ H _ R hb (wp_mono (wp_bind.mp q) (fun _ qb H1 g1 R1 e1 => qb H1 g1 R1 e1) fun _ z => z)
theorem ef_if (h1 : EffT K cl c1 ρs n1) (ha : Eff K cl ta ρs ma) (hb' : Eff K cl tc ρs mb) : Eff K cl (tIf c1 ta tc) ρs (fun s => n1 s >>= fun b => if b.1 = true then ma b.2 else mb b.2) := fun s O bs σ H Q R hb q => by
  refine h1 s O bs σ H _ R hb (wp_mono (wp_bind.mp q) (fun b qb H1 g1 R1 e1 => ?_) fun _ z => z)
  obtain ⟨b, s1⟩ := b
  cases b with
  | true => exact ha s1 O bs σ H1 _ R1 hb (wp_mono qb (fun c qc v H2 g2 R2 e2 i => qc v H2 (g1.trans (by rw [e1] at g2; exact g2)) R2 (e2.trans e1) (by rw [e1] at i; exact i)) fun _ z => z)
  | false => exact hb' s1 O bs σ H1 _ R1 hb (wp_mono qb (fun c qc v H2 g2 R2 e2 i => qc v H2 (g1.trans (by rw [e1] at g2; exact g2)) R2 (e2.trans e1) (by rw [e1] at i; exact i)) fun _ z => z)
/-- a pure def, its arguments with effects -/
theorem ef_call {mf : List PV → Res PV} (hl : EffL K cl tr ρs ml) : Eff K cl (tCallS (spP K cl mf) (WE W) tr) ρs (fun s => ml s >>= fun xs => noX (mf xs.1) >>= fun z => .val (z, xs.2)) := fun s O bs σ H Q R hb q => by
  refine hl s O bs σ H _ R hb (wp_mono (wp_bind.mp q) (fun ps qs vs H1 g1 R1 e1 i1 => ?_) fun _ z => z)
  have hA : ∀ a, a ∈ O ++ adr (ρs s) σ → ∃ o, H1 a = some o := fun a h => R1.got (by rw [e1]; exact h)
  refine ⟨O ++ adr (ρs s) σ, ps.1, hA, i1, wp_mono (wp_noX (E' := fun _ => False) (wp_bind.mp qs)) (fun r qr v H' s i => qr v H' (g1.trans (Gr.of s)) (R1.same s) e1 i) fun _ z => z.elim⟩
/-- a def that is lent the list or dict at slot i -/
theorem ef_callR {mf : MO → List PV → Res (PV × MO)} {i : Nat} {sl : S → Slot} {get : S → MO} {put : S → MO → Res S} (hi : ∀ s, (ρs s)[i]? = some (sl s)) (hs : ∀ s, sl s = .ow (get s) ∨ ∃ k, sl s = .rf k (get s)) (hp : ∀ s mo s', put s mo = .val s' → (ρs s).set i (reSl (sl s) mo) = ρs s') (hl : EffL K cl tr ρs ml) :
    Eff K cl (tCallS (spR K cl mf) (WE W) (tCons (tVar i) tr)) ρs (fun s => ml s >>= fun xs => mf (get xs.2) xs.1 >>= fun r => put xs.2 r.2 >>= fun s' => .val (r.1, s')) := fun s O bs σ H Q R hb q => by
  have ha : ∃ a, σ[i]? = some (some (.ref a)) := by
    obtain ⟨x, e, q⟩ := R.sl.get (hi s)
    rcases hs s with h | ⟨k, h⟩
    · rw [h] at q; obtain ⟨a, rfl, _⟩ := q; exact ⟨a, e⟩
    · rw [h] at q; obtain ⟨a, rfl, _⟩ := q; exact ⟨a, e⟩
  obtain ⟨a, ha⟩ := ha
  refine ⟨_, ha, hl s O bs σ H _ R hb (wp_mono (wp_bind.mp q) (fun ps qs vs H1 g1 R1 e1 i1 => ?_) fun _ z => z)⟩
  have hm : MoIs K cl (frz H1 (O ++ adr (ρs ps.2) σ)) H1 a (get ps.2) := by
    obtain ⟨x, e, q⟩ := R1.sl.get (hi ps.2)
    rw [ha] at e
    cases e
    rcases hs ps.2 with h | ⟨k, h⟩
    · rw [h] at q; obtain ⟨b, e, q⟩ := q; cases e; exact q
    · rw [h] at q; obtain ⟨b, e, _, q⟩ := q; cases e; exact q
  have ma : a ∈ adr (ρs ps.2) σ := adr_at (hi ps.2) ha ((hs ps.2).imp (fun h => ⟨_, h⟩) fun ⟨k, h⟩ => ⟨k, _, h⟩)
  rw [e1] at hm ma
  have hA : ∀ a, a ∈ O ++ adr (ρs s) σ → ∃ o, H1 a = some o := fun a h => R1.got (by rw [e1]; exact h)
  refine ⟨O ++ adr (ρs s) σ, a, get ps.2, vs, ps.1, rfl, List.mem_append_right _ ma, hA, hm, i1, wp_mono (wp_bind.mp qs) (fun r qr v H' hk hmo iv => ?_) fun _ z => z⟩
  obtain ⟨R2, g2⟩ := R1.putH (H2 := H') (m' := r.2) hk (MoIs.got hmo) (hi ps.2) (hs ps.2) ha (by rw [e1]; exact hmo)
  have e2 : adr ((ρs ps.2).set i (reSl (sl ps.2) r.2)) σ = adr (ρs ps.2) σ := (adr_re (hi ps.2)).1
  rw [e2, e1] at g2
  cases hpu : put ps.2 r.2 with
  | val s' =>
    rw [hp _ _ _ hpu] at R2 e2
    have qr := wp_bind.mp qr
    rw [hpu] at qr
    have qr' : ∀ v H', Gr (adr (ρs s) σ) H (adr (ρs s) σ) H' → Rel K cl O bs (ρs s') σ H' → adr (ρs s') σ = adr (ρs s) σ → Is K cl (frz H' (O ++ adr (ρs s) σ)) v r.1 → Q v H' := qr
    exact qr' v H' (g1.trans g2) R2 (e2.trans e1) iv
  | exc c =>
    have qr := wp_bind.mp qr
    rw [hpu] at qr
    exact qr.elim
  | stuck =>
    have qr := wp_bind.mp qr
    rw [hpu] at qr
    exact qr.elim
/-! iterators with effects -/
theorem ei_rng1 (ha : Eff K cl ta ρs ma) : EffI K cl (iRng1 (tCons ta tNil)) ρs (fun s => ma s >>= fun x => rng1 x.1 >>= fun z => .val (z, x.2)) := fun s O bs σ H Rr R hb q => by
  refine ha s O bs σ H _ R hb (wp_mono (wp_bind.mp q) (fun x w v H' g1 R1 e1 i => ?_) fun _ z => z)
  have w := wp_bind.mp w
  unfold rng1 at w
  split at w
  · next j e =>
    rw [e] at i
    cases i
    split at w
    · next c => exact ⟨j, rfl, c.1, c.2, w _ H' g1 R1 e1 (itOk_rng (by rw [rng_len, Int.sub_zero]) fun i p h => by have := rng_get h; rwa [Int.sub_zero] at this)⟩
    · exact w.elim
  · exact w.elim
theorem ei_pure {wi : TI} {mi : S → Res (List PV)} (h : ∀ s, Iter K cl W wi (ρs s) (mi s)) : EffI K cl wi ρs (fun s => noX (mi s) >>= fun z => .val (z, s)) := fun s O bs σ H Rr R hb q =>
  h s O bs σ H Rr R (wp_mono (wp_noX (E' := fun _ => False) (wp_bind.mp q)) (fun r qr J H' s' i => qr J H' (Gr.of s') (R.same s') rfl i) fun _ z => z.elim)
theorem ei_seq (ha : Eff K cl te ρs ma) : EffI K cl (iSeqV K te) ρs (fun s => ma s >>= fun x => asSq x.1 >>= fun z => .val (z, x.2)) := fun s O bs σ H Rr R hb q => by
  have w := wp_bind.mp q
  cases hm : ma s with
  | stuck => rw [hm] at w; exact w.elim
  | exc c => rw [hm] at w; exact w.elim
  | val x =>
    rw [hm] at w
    have w := wp_bind.mp (show wp (asSq x.1 >>= fun z => .val (z, x.2)) _ _ from w)
    obtain ⟨p, s1⟩ := x
    cases p with
    | tup ps =>
      refine .inr (ha s O bs σ H _ R hb ?_)
      rw [hm]
      refine wp_val.mpr fun v H' g1 R1 e1 i => ?_
      cases (show Is K cl (frz H' (O ++ adr (ρs s) σ)) v (.tup ps) from i) with
      | tup h l => exact ⟨_, rfl, ⟨_, frz_sub.sqT h⟩, w _ H' g1 R1 e1 ((itOk_tup (P := fun _ => True) (fun H _ sF => sF.sqT h) l).of fun H B _ sF => ⟨trivial, sF.trans frz_sub⟩)⟩
    | lst ps =>
      refine .inl (ha s O bs σ H _ R hb ?_)
      rw [hm]
      refine wp_val.mpr fun v H' g1 R1 e1 i => ?_
      cases (show Is K cl (frz H' (O ++ adr (ρs s) σ)) v (.lst ps) from i) with
      | lst h l => exact ⟨_, rfl, ⟨_, .inl (.inl (frz_sub _ _ h))⟩, w _ H' g1 R1 e1 ((itOk_list (P := fun _ => True) (fun H _ sF => .inl (.inl (sF _ _ h))) l).of fun H B _ sF => ⟨trivial, sF.trans frz_sub⟩)⟩
    | fls ps =>
      refine .inl (ha s O bs σ H _ R hb ?_)
      rw [hm]
      refine wp_val.mpr fun v H' g1 R1 e1 i => ?_
      cases (show Is K cl (frz H' (O ++ adr (ρs s) σ)) v (.fls ps) from i) with
      | fls h l => exact ⟨_, rfl, ⟨_, frz_sub.sqL h⟩, w _ H' g1 R1 e1 ((itOk_list (P := fun _ => True) (fun H _ sF => sF.sqL h) l).of fun H B _ sF => ⟨trivial, sF.trans frz_sub⟩)⟩
    | _ => exact w.elim
/-! statements with effects -/
variable {s0 : S}
theorem Wk.of_eq {ρ ρ' : Ro} (e : ρ = ρ') : Wk ρ ρ' := by rw [e]; exact Wk.refl _
theorem run_setE {i : Nat} {n : PV → S → Res (Fl S1 L)} (he : Eff K cl te ρs ma) (e0 : ρs s0 = ρ) (hn : ∀ s, nad (ρs s) i = true) (h : ∀ x s, Runs K cl W u ((ρs s).set i (.fz x)) (n x s) ρn ρl ρx) :
    Runs K cl W (tSeq (tAsg te (gName i)) u) ρ (noX (ma s0) >>= fun r => n r.1 r.2) ρn ρl ρx := fun O bs σ H D R hb q => by
  subst e0
  refine he s0 O bs σ H _ R hb (wp_mono (wp_noX (E' := fun _ => False) (wp_bind.mp q)) (fun x qx v H' g1 R1 e1 i1 => ?_) fun _ z => z)
  have g : Gr (adr (ρs s0) σ) H (adr ((ρs x.2).set i (.fz x.1)) (σ.set i (some v))) H' := by rw [adr_setn (hn _), e1]; exact g1
  exact h x.1 x.2 O bs _ H' D (R1.setfz (hn _) (by rw [e1]; exact i1)) hb (wp_mono qx (fun _ z => z.step g) fun _ z => z.step g)
theorem run_asgE {g : TG} {α : Type} {d : PV → Res α} {ρe : S → α → Ro} {n : α → S → Res (Fl S1 L)} (he : Eff K cl te ρs ma) (e0 : ρs s0 = ρ) (hg : ∀ s, TgtE K cl g [] (ρs s) d (ρe s)) (h : ∀ a s, Runs K cl W u (ρe s a) (n a s) ρn ρl ρx) :
    Runs K cl W (tSeq (tAsg te g) u) ρ (noX (ma s0) >>= fun r => d r.1 >>= fun a => n a r.2) ρn ρl ρx := fun O bs σ H D R hb q => by
  subst e0
  refine he s0 O bs σ H _ R hb (wp_mono (wp_noX (E' := fun _ => False) (wp_bind.mp q)) (fun x qx v H' g1 R1 e1 i1 => ?_) fun _ z => z)
  have g1' : Gr (adr (ρs s0) σ) H (adr (ρs x.2) σ) H' := by rw [e1]; exact g1
  refine hg x.2 x.1 O bs σ H' v _ (fun c => ExOk K cl W O bs ρx (adr (ρs s0) σ) H c) R1 (by show Is K cl (frz H' (O ++ adr (ρs x.2) σ)) v x.1; rw [e1]; exact i1) (wp_mono (wp_bind.mp qx) (fun a qa σ2 R2 e2 _ => ?_) fun _ z => z)
  have gr : Gr (adr (ρs s0) σ) H (adr (ρe x.2 a) σ2) H' := by
    have e2' : adr (ρe x.2 a) σ2 = adr (ρs x.2) σ := e2
    rw [e2']; exact g1'
  exact h a x.2 O bs σ2 H' D R2 hb (wp_mono qa (fun _ z => z.step gr) fun _ z => z.step gr)
theorem run_retE {r : S → List MO} (he : Eff K cl te ρs ma) (e0 : ρs s0 = ρ) (hr : ∀ s, rfB 0 (ρs s) = true) (e : ∀ s, brs (ρs s) = r s) : Runs (S := S1) K cl W (tSeq (tRet te) u) ρ (noX (ma s0) >>= fun x => .val (.rt x.1 (r x.2))) ρn ρl ρx := fun O bs σ H D R hb q => by
  subst e0
  refine he s0 O bs σ H _ R hb (wp_mono (wp_noX (E' := fun _ => False) (wp_bind.mp q)) (fun x qx v H' g1 R1 e1 i1 => ?_) fun _ z => z)
  exact qx v H' ⟨g1.1, fun _ z => by cases z⟩ (i1.mono (frz_less fun a ha => List.mem_append_left _ ha)) fun k b mo h1 h2 => R1.byref (hr _) h1 (by rw [e]; exact h2)
theorem run_ifE {c : TT} {mt : S → Res (Bool × S)} {M1 M2 : S → Res (Fl S1 L)} (hc : EffT K cl c ρs mt) (e0 : ρs s0 = ρ) (h1 : ∀ s, Runs K cl W (tSeq t u) (ρs s) (M1 s) ρn ρl ρx) (h2 : ∀ s, Runs K cl W (tSeq v u) (ρs s) (M2 s) ρn ρl ρx) :
    Runs K cl W (tSeq (tIfS c t v) u) ρ (noX (mt s0) >>= fun b => if b.1 = true then M1 b.2 else M2 b.2) ρn ρl ρx := fun O bs σ H D R hb q => by
  subst e0
  refine hc s0 O bs σ H _ R hb (wp_mono (wp_noX (E' := fun _ => False) (wp_bind.mp q)) (fun x qx H' g1 R1 e1 => ?_) fun _ z => z)
  have g : Gr (adr (ρs s0) σ) H (adr (ρs x.2) σ) H' := by rw [e1]; exact g1
  obtain ⟨b, s1⟩ := x
  cases b with
  | true => exact h1 s1 O bs σ H' D R1 hb (wp_mono qx (fun _ z => z.step g) fun _ z => z.step g)
  | false => exact h2 s1 O bs σ H' D R1 hb (wp_mono qx (fun _ z => z.step g) fun _ z => z.step g)
/-- a call as a statement -/
theorem run_exprE {n : S → Res (Fl S1 L)} (he : Eff K cl te ρs ma) (e0 : ρs s0 = ρ) (h : ∀ s, Runs K cl W u (ρs s) (n s) ρn ρl ρx) : Runs K cl W (tSeq (tDrop te) u) ρ (noX (ma s0) >>= fun r => n r.2) ρn ρl ρx := fun O bs σ H D R hb q => by
  subst e0
  refine he s0 O bs σ H _ R hb (wp_mono (wp_noX (E' := fun _ => False) (wp_bind.mp q)) (fun x qx v H' g1 R1 e1 i1 => ?_) fun _ z => z)
  have g : Gr (adr (ρs s0) σ) H (adr (ρs x.2) σ) H' := by rw [e1]; exact g1
  exact h x.2 O bs σ H' D R1 hb (wp_mono qx (fun _ z => z.step g) fun _ z => z.step g)
theorem run_expr {m0 : Res PV} {n : Res (Fl S1 L)} (he : Pur K cl W te ρ m0) (w : Wk ρ ρx) (h : Runs K cl W u ρ n ρn ρl ρx) : Runs K cl W (tSeq (tDrop te) u) ρ (m0 >>= fun _ => n) ρn ρl ρx := fun O bs σ H D R hb q => by
  refine he O bs σ H _ R (wp_mono (wp_bind.mp q) (fun x qx v H' s ix => ?_) fun _ z => z.xw R w)
  exact h O bs σ H' D (R.same s) hb (wp_mono qx (fun _ z => z.step (Gr.of s)) fun _ z => z.step (Gr.of s))
theorem run_appendE {i : Nat} {sl : S → Slot} {get : S → List PV} {n : S → PV → Res (Fl S1 L)} (hi : ∀ s, (ρs s)[i]? = some (sl s)) (hs : ∀ s, sl s = .ow (.lst (get s)) ∨ ∃ k, sl s = .rf k (.lst (get s))) (he : Eff K cl te ρs ma) (e0 : ρs s0 = ρ) (h : ∀ s x, Runs K cl W u ((ρs s).set i (reSl (sl s) (.lst (get s ++ [x])))) (n s x) ρn ρl ρx) :
    Runs K cl W (tSeq (tDrop (tBM K "list" rAppend (tVar i) (tCons te tNil))) u) ρ (noX (ma s0) >>= fun r => sized ((get r.2).length + 1) >>= fun _ => n r.2 r.1) ρn ρl ρx := fun O bs σ H D R hb q => by
  subst e0
  have got : ∀ s' H', Rel K cl O bs (ρs s') σ H' → ∃ a vs, σ[i]? = some (some (.ref a)) ∧ H' a = some (.lst vs) ∧ IsL K cl (frz H' (O ++ adr (ρs s') σ)) vs (get s') := fun s' H' R => by
    obtain ⟨x, e, q⟩ := R.sl.get (hi s')
    rcases hs s' with h | ⟨k, h⟩
    · rw [h] at q; obtain ⟨a, rfl, vs, h1, h2⟩ := q; exact ⟨a, vs, e, h1, h2⟩
    · rw [h] at q; obtain ⟨a, rfl, _, vs, h1, h2⟩ := q; exact ⟨a, vs, e, h1, h2⟩
  obtain ⟨a, vs, ha, hv, hl⟩ := got _ _ R
  refine ⟨_, ha, .inl ⟨rfl, _, .inl (.inl hv)⟩, he s0 O bs σ H _ R hb (wp_mono (wp_noX (E' := fun _ => False) (wp_bind.mp q)) (fun x qx v H' g1 R1 e1 i1 => ?_) fun _ z => z)⟩
  obtain ⟨hz, qx⟩ := wp_sized (wp_bind.mp qx)
  obtain ⟨a', vs', ha', hv', hl'⟩ := got _ _ R1
  rw [ha] at ha'
  cases ha'
  obtain ⟨R2, g2⟩ := R1.put (m' := .lst (get x.2 ++ [x.1])) (o := .lst (vs' ++ [v])) (hi x.2) (hs x.2) ha ⟨_, upd_same, hl'.append (.one (by rw [e1]; exact i1))⟩
  have g : Gr (adr (ρs s0) σ) H _ _ := (show Gr (adr (ρs s0) σ) H (adr (ρs x.2) σ) H' by rw [e1]; exact g1).trans g2
  refine ⟨a, vs', v, rfl, rfl, hv', by rw [hl'.len]; omega, ?_⟩
  exact h x.2 x.1 O bs σ _ D R2 hb (wp_mono qx (fun _ z => z.step g) fun _ z => z.step g)
theorem run_setitemE {i : Nat} {sl : S → Slot} {get : S → List PV} {n : S → List PV → Res (Fl S1 L)} (hi : ∀ s, (ρs s)[i]? = some (sl s)) (hs : ∀ s, sl s = .ow (.lst (get s)) ∨ ∃ k, sl s = .rf k (.lst (get s))) (he : Eff K cl te ρs ma) (hk : Eff K cl ta ρs mb) (e0 : ρs s0 = ρ) (h : ∀ s qs, Runs K cl W u ((ρs s).set i (reSl (sl s) (.lst qs))) (n s qs) ρn ρl ρx) :
    Runs K cl W (tSeq (tAsg te (gSub (tVar i) ta rSetL)) u) ρ (noX (ma s0) >>= fun r => noX (mb r.2) >>= fun k => setL (get k.2) k.1 r.1 >>= n k.2) ρn ρl ρx := fun O bs σ H D R hb q => by
  subst e0
  have got : ∀ s' H', Rel K cl O bs (ρs s') σ H' → ∃ a vs, σ[i]? = some (some (.ref a)) ∧ H' a = some (.lst vs) ∧ IsL K cl (frz H' (O ++ adr (ρs s') σ)) vs (get s') := fun s' H' R => by
    obtain ⟨x, e, q⟩ := R.sl.get (hi s')
    rcases hs s' with h | ⟨k, h⟩
    · rw [h] at q; obtain ⟨a, rfl, vs, h1, h2⟩ := q; exact ⟨a, vs, e, h1, h2⟩
    · rw [h] at q; obtain ⟨a, rfl, _, vs, h1, h2⟩ := q; exact ⟨a, vs, e, h1, h2⟩
  obtain ⟨a, _, ha, _⟩ := got _ _ R
  refine he s0 O bs σ H _ R hb (wp_mono (wp_noX (E' := fun _ => False) (wp_bind.mp q)) (fun x qx v H1 g1 R1 e1 i1 => ?_) fun _ z => z)
  refine ⟨_, ha, hk x.2 O bs σ H1 _ R1 hb (wp_mono (wp_noX (E' := fun _ => False) (wp_bind.mp qx)) (fun k qk v2 H2 g2 R2 e2 i2 => ?_) fun _ z => z)⟩
  obtain ⟨a', vs, ha', hv, hl⟩ := got _ _ R2
  rw [ha] at ha'
  cases ha'
  have g1' : Gr (adr (ρs s0) σ) H (adr (ρs x.2) σ) H1 := by rw [e1]; exact g1
  have g2' : Gr (adr (ρs x.2) σ) H1 (adr (ρs k.2) σ) H2 := by rw [e2]; exact g2
  have ix : Is K cl (frz H2 (O ++ adr (ρs k.2) σ)) v x.1 := by
    rw [e2, e1]
    rw [e1] at g2
    exact i1.mono (g2.sub R1.al)
  have qk := wp_bind.mp qk
  unfold setL at qk
  split at qk
  · next k0 hk0 =>
    rw [hk0] at i2
    cases i2
    split at qk
    · next j hj =>
      obtain ⟨R3, g3⟩ := R2.put (m' := .lst ((get k.2).set j x.1)) (o := .lst (vs.set j v)) (hi k.2) (hs k.2) ha ⟨_, upd_same, IsL.set ix j hl⟩
      have g := (g1'.trans g2').trans g3
      exact ⟨a, vs, _, j, rfl, rfl, hv, by rw [hl.len]; exact hj, h k.2 _ O bs σ _ D R3 hb (wp_mono qk (fun _ z => z.step g) fun _ z => z.step g)⟩
    · exact qk.elim
  · exact qk.elim
theorem run_forE {wi : TI} {g : TG} {mi : S → Res (List PV × S)} {α : Type} {d : PV → Res α} {ρs' : S1 → Ro} {ρe : S1 → α → Ro} {st : S → S1} {body : α → S1 → Res (Fl S1 S1)} (hi : EffI K cl wi ρs mi) (e0 : ρs s0 = ρ) (w0 : ∀ s, Wk (ρs s) (ρs' (st s))) (hg : ∀ s, TgtE K cl g [] (ρs' s) d (ρe s))
    (hb : ∀ a s, Runs K cl W tb (ρe s a) (body a s) ρs' ρs' ρx) : Runs K cl W (tFor wi g tb) ρ (noX (mi s0) >>= fun r => forF (fun x s => d x >>= fun a => body a s) r.1 (st r.2)) ρs' ρl ρx := fun O bs σ H D R hbs q => by
  subst e0
  refine hi s0 O bs σ H _ R hbs (wp_mono (wp_noX (E' := fun _ => False) (wp_bind.mp q)) (fun r qp J H1 g0 R1 e1 hJ => ?_) fun _ z => z)
  obtain ⟨ps, s1⟩ := r
  have g1 : Gr (adr (ρs s0) σ) H (adr (ρs' (st s1)) σ) H1 := (show Gr (adr (ρs s0) σ) H (adr (ρs s1) σ) H1 by rw [e1]; exact g0).trans (Gr.wk (w0 s1))
  have hJ' : ItOk K cl (fun _ => True) (frz H1 (O ++ adr (ρs s1) σ)) J ps := by rw [e1]; exact hJ
  have sF0 : Sub (frz H1 (O ++ adr (ρs s1) σ)) (frz H1 (O ++ adr (ρs' (st s1)) σ)) := Gr.sub (Gr.wk (w0 s1)) R1.al
  refine ⟨fun i mm σ' H' => mm = ps.length - i ∧ i ≤ ps.length ∧ ∃ s, Rel K cl O bs (ρs' s) σ' H' ∧ Gr (adr (ρs s0) σ) H (adr (ρs' s) σ') H' ∧ Sub (frz H1 (O ++ adr (ρs s1) σ)) (frz H' (O ++ adr (ρs' s) σ')) ∧
      wp (forF (L := L) (fun x s => d x >>= fun a => body a s) (ps.drop i) s) (FlOk K cl O bs ρs' ρl D (adr (ρs s0) σ) H) (ExOk K cl W O bs ρx (adr (ρs s0) σ) H),
    ⟨_, rfl, Nat.zero_le _, st s1, R1.wk (w0 s1), g1, sF0, by rw [List.drop_zero]; exact qp⟩, ?_⟩
  rintro i mm σ' H' ⟨rfl, hle, s, R', g', sF, qw⟩
  obtain ⟨hs, hg'⟩ := hJ' H' _ trivial sF (fun a ha => R'.got ha)
  by_cases c : i = ps.length
  · subst c
    rw [List.drop_length] at qw
    exact .inl ⟨hs, qw σ' H' g' R'⟩
  · have hlt : i < ps.length := by omega
    obtain ⟨hgo, hy⟩ := hg' i _ (List.getElem?_eq_getElem hlt)
    rw [List.drop_eq_getElem_cons hlt] at qw
    refine .inr ⟨hgo, fun σ2 H2 => ∃ s', Rel K cl O bs (ρs' s') σ2 H2 ∧ Gr (adr (ρs s0) σ) H (adr (ρs' s') σ2) H2 ∧ Sub (frz H1 (O ++ adr (ρs s1) σ)) (frz H2 (O ++ adr (ρs' s') σ2)) ∧ wp (forF (L := L) (fun x s => d x >>= fun a => body a s) (ps.drop (i + 1)) s') (FlOk K cl O bs ρs' ρl D (adr (ρs s0) σ) H) (ExOk K cl W O bs ρx (adr (ρs s0) σ) H),
      fun σ2 H2 ⟨s', z⟩ => ⟨_, by omega, rfl, by omega, s', z⟩, fun x H2 hyx => ?_⟩
    obtain ⟨s2, ix⟩ := hy x H2 hyx
    have R2 := R'.same s2
    have qw := wp_bind.mp (wp_bind.mp qw)
    refine hg s ps[i] O bs σ' H2 x _ _ R2 ix (wp_mono qw (fun a qa σ3 R3 e3 _ => ?_) fun _ z => z)
    have g3 : Gr (adr (ρs s0) σ) H (adr (ρe s a) σ3) H2 := by rw [e3]; exact g'.trans (Gr.of s2)
    have sF3 : Sub (frz H1 (O ++ adr (ρs s1) σ)) (frz H2 (O ++ adr (ρe s a) σ3)) := by rw [e3]; exact sF.trans (frz_same s2)
    refine hb a s O bs σ3 H2 _ R3 hbs (wp_mono qa (fun f qf => ?_) fun _ z => z.step g3)
    cases f with
    | nx s' => exact fun σ4 H4 g4 R4 => ⟨s', R4, g3.trans g4, sF3.trans (g4.sub R3.al), qf⟩
    | ct s' => exact fun σ4 H4 g4 R4 => ⟨s', R4, g3.trans g4, sF3.trans (g4.sub R3.al), qf⟩
    | bk s' => exact fun σ4 H4 g4 R4 => qf σ4 H4 (g3.trans g4) R4
    | rt v r => exact FlOk.step (f := Fl.rt v r) qf g3
    | ro mo r => exact FlOk.step (f := Fl.ro mo r) qf g3
/-! a comprehension whose parts have effects -/
def lcE {S α : Type} (d : PV → Res α) (c : α → S → Res (Bool × S)) (e : α → S → Res (PV × S)) : List PV → S → Res (List PV × S)
  | [], s => .val ([], s)
  | x :: xs, s => noX (d x) >>= fun a => c a s >>= fun b => if b.1 = true then e a b.2 >>= fun y => lcE d c e xs y.2 >>= fun ys => .val (y.1 :: ys.1, ys.2) else lcE d c e xs b.2
theorem et_yes : EffT K cl tYes ρs (fun s => .val (true, s)) := fun s O bs σ H Q R hb q => q H .refl R rfl
def unB : Ro → Nat → Bool
  | [], _ => true
  | .un :: _, 0 => true
  | _ :: _, 0 => false
  | _ :: ρ, i + 1 => unB ρ i
def unsB (ρ : Ro) (vs : List Nat) : Bool := vs.all fun i => unB ρ i
theorem adr_un : ∀ {ρ : Ro} {σ : St} {i : Nat} {x : Option V}, unB ρ i = true → adr ρ (σ.set i x) = adr ρ σ ∧ owa ρ (σ.set i x) = owa ρ σ
  | [], σ, i, x, _ => by
    cases σ with
    | nil => exact ⟨rfl, rfl⟩
    | cons y σ => cases i <;> exact ⟨rfl, rfl⟩
  | s :: ρ, [], i, x, h => ⟨rfl, rfl⟩
  | s :: ρ, y :: σ, 0, x, h => by cases s <;> first | exact ⟨rfl, rfl⟩ | cases h
  | s :: ρ, y :: σ, i + 1, x, h => by
    have ih := adr_un (ρ := ρ) (σ := σ) (i := i) (x := x) (by cases s <;> exact h)
    show adr (s :: ρ) (y :: σ.set i x) = adr (s :: ρ) (y :: σ) ∧ owa (s :: ρ) (y :: σ.set i x) = owa (s :: ρ) (y :: σ)
    cases s with
    | un => exact ih
    | fz q => exact ih
    | ow m => cases y with
      | none => exact ih
      | some v => cases v <;> first | exact ih | exact ⟨congrArg (_ :: ·) ih.1, congrArg (_ :: ·) ih.2⟩
    | rf k m => cases y with
      | none => exact ih
      | some v => cases v <;> first | exact ih | exact ⟨congrArg (_ :: ·) ih.1, ih.2⟩
theorem rels_un : ∀ {ρ : Ro} {σ : St} {i : Nat} {x : Option V} {F H : Hp}, unB ρ i = true → (RelS K cl bs F H ρ (σ.set i x) ↔ RelS K cl bs F H ρ σ)
  | [], σ, i, x, F, H, _ => by
    cases σ with
    | nil => exact Iff.rfl
    | cons y σ => cases i <;> exact ⟨(fun h => nomatch h), (fun h => nomatch h)⟩
  | s :: ρ, [], i, x, F, H, h => Iff.rfl
  | s :: ρ, y :: σ, 0, x, F, H, h => by
    cases s with
    | un => exact ⟨fun q => by cases q with | cons a r => exact .cons trivial r, fun q => by cases q with | cons a r => exact .cons trivial r⟩
    | _ => cases h
  | s :: ρ, y :: σ, i + 1, x, F, H, h => by
    have ih := rels_un (ρ := ρ) (σ := σ) (i := i) (x := x) (F := F) (H := H) (by cases s <;> exact h)
    exact ⟨fun q => by cases q with | cons a r => exact .cons a (ih.mp r), fun q => by cases q with | cons a r => exact .cons a (ih.mpr r)⟩
theorem Rel.un1 {i : Nat} {x : Option V} (h : unB ρ i = true) : Rel K cl O bs ρ (σ.set i x) H ↔ Rel K cl O bs ρ σ H := by
  obtain ⟨e1, e2⟩ := adr_un (ρ := ρ) (σ := σ) (x := x) h
  constructor
  · rintro ⟨a, b, c, d⟩
    rw [e1] at a b
    rw [e2] at d
    exact ⟨(rels_un h).mp a, b, c, d⟩
  · rintro ⟨a, b, c, d⟩
    exact ⟨by rw [e1]; exact (rels_un h).mpr a, by rw [e1]; exact b, c, by rw [e2]; exact d⟩
theorem Rel.uns : ∀ {vs : List Nat}, unsB ρ vs = true → ((Rel K cl O bs ρ (L2.wipe σ vs) H ↔ Rel K cl O bs ρ σ H) ∧ adr ρ (L2.wipe σ vs) = adr ρ σ)
  | [], _ => ⟨Iff.rfl, rfl⟩
  | v :: vs, h => by
    have h' := Bool.and_eq_true_iff.mp (show (unB ρ v && unsB ρ vs) = true from h)
    obtain ⟨h1, h2⟩ := Rel.uns (vs := vs) h'.2
    exact ⟨(Rel.un1 (σ := L2.wipe σ vs) h'.1).trans h1, ((adr_un (σ := L2.wipe σ vs) h'.1).1).trans h2⟩
theorem Rel.narrow {a : Addr} (R : Rel K cl (a :: O) bs ρ σ H) : Rel K cl O bs ρ σ H :=
  ⟨R.sl.mono (frz_less fun b hb => List.mem_cons_of_mem _ hb) fun _ _ _ e => e, R.nd, fun b hb => R.al b (List.mem_cons_of_mem _ hb), fun b hb z => R.ow b hb (List.mem_cons_of_mem _ z)⟩
theorem ef_lc {wi : TI} {g : TG} {tt : TT} {vs : List Nat} {mi : S → Res (List PV × S)} {α : Type} {d : PV → Res α} {ρe : α → S → Ro} {mc : α → S → Res (Bool × S)} {me : α → S → Res (PV × S)} (hi : EffI K cl wi ρs mi) (hv : ∀ s, unsB (ρs s) vs = true) (hne : vs ≠ [])
    (hg : ∀ s, TgtE K cl g vs (ρs s) d (fun a => ρe a s)) (hw : ∀ a s, wipeR (ρe a s) vs = ρs s) (hv2 : ∀ a s, nads (ρe a s) vs = true) (ht : ∀ a, EffT K cl tt (ρe a) (mc a)) (he : ∀ a, Eff K cl te (ρe a) (me a)) :
    Eff K cl (tLc wi g tt te vs) ρs (fun s => mi s >>= fun ps => sized ps.1.length >>= fun _ => lcE d mc me ps.1 ps.2 >>= fun r => .val (.lst r.1, r.2)) := fun s O bs σ H Q R hb q => by
  refine hi s O bs σ H _ R hb (wp_mono (wp_bind.mp q) (fun r qp J H1 g1 R1 e1 hJ => ?_) fun _ z => z)
  obtain ⟨ps, s1⟩ := r
  obtain ⟨hz, qp⟩ := wp_sized (wp_bind.mp qp)
  replace hz : ps.length ≤ sizeLine := hz
  intro Da hD
  have qp := wp_bind.mp qp
  have Rw1 := (Rel.uns (σ := σ) (hv s1)).1.mpr R1
  have ew1 := (Rel.uns (K := K) (cl := cl) (O := O) (bs := bs) (H := H1) (σ := σ) (hv s1)).2
  have Rw0 := Rw1.wider (o := .lst []) hD
  have nDA : Da ∉ O ++ adr (ρs s) σ := fun z => by
    obtain ⟨u, e⟩ := R1.got (by rw [e1]; exact z)
    rw [hD] at e; cases e
  have hbD : ∀ b, b ∈ bs → b ∈ Da :: O := fun b h => List.mem_cons_of_mem _ (hb b h)
  refine ⟨fun i mm H2 => mm = ps.length - i ∧ i ≤ ps.length ∧ ∃ s2, (∀ x o, x ∉ adr (ρs s) σ → H1 x = some o → H2 x = some o) ∧ Rel K cl (Da :: O) bs (ρs s2) (wipe σ vs) H2 ∧ adr (ρs s2) (wipe σ vs) = adr (ρs s) σ ∧
      ∃ acc qs, H2 Da = some (.lst acc) ∧ acc.length ≤ i ∧ IsL K cl (frz H2 (Da :: (O ++ adr (ρs s) σ))) acc qs ∧
      wp (lcE d mc me (ps.drop i) s2) (fun r => ∀ v H', Gr (adr (ρs s) σ) H (adr (ρs s) σ) H' → Rel K cl O bs (ρs r.2) σ H' → adr (ρs r.2) σ = adr (ρs s) σ → Is K cl (frz H' (O ++ adr (ρs s) σ)) v (.lst (qs ++ r.1)) → Q v H') (fun _ => False),
    ⟨_, rfl, Nat.zero_le _, s1, fun x o _ e => sub_new hD _ x o e, Rw0, ew1.trans e1, [], [], upd_same, Nat.le_refl _, .nil, by rw [List.drop_zero]; exact wp_mono qp (fun r z => z) fun _ z => z⟩, ?_⟩
  rintro i mm H2 ⟨rfl, hle, s2, k2, R2, ew, acc, qs, ha, hal, hl, qw⟩
  have sF : Sub (frz H1 (O ++ adr (ρs s) σ)) (frz H2 (Da :: (O ++ adr (ρs s) σ))) := fun x u e => by
    obtain ⟨n, e⟩ := frz_some.mp e
    refine frz_some.mpr ⟨fun z => ?_, k2 _ _ (fun z => n (List.mem_append_right _ z)) e⟩
    rcases List.mem_cons.mp z with c | c
    · rw [c, hD] at e; cases e
    · exact n c
  have gotB : ∀ a, a ∈ Da :: (O ++ adr (ρs s) σ) → ∃ o, H2 a = some o := fun a z => R2.got (by rw [ew]; exact z)
  obtain ⟨hs, hgo⟩ := hJ H2 _ trivial sF gotB
  by_cases c : i = ps.length
  · subst c
    rw [List.drop_length] at qw
    obtain ⟨u1, u2⟩ := Rel.uns (K := K) (cl := cl) (O := O) (bs := bs) (H := H2) (σ := σ) (hv s2)
    refine .inl ⟨hs, qw (.ref Da) H2 ⟨fun x o n e => k2 x o n (g1.1 x o n e), fun x hx => .inl hx⟩ (u1.mp R2.narrow) (u2.symm.trans ew) ?_⟩
    rw [List.append_nil]
    exact .lst (frz_some.mpr ⟨nDA, ha⟩) (hl.mono (frz_less fun b hb => List.mem_cons_of_mem _ hb))
  · have hlt : i < ps.length := by omega
    obtain ⟨hgi, hy⟩ := hgo i _ (List.getElem?_eq_getElem hlt)
    rw [List.drop_eq_getElem_cons hlt] at qw
    refine .inr ⟨hgi, fun H3 => ∃ s2, (∀ x o, x ∉ adr (ρs s) σ → H1 x = some o → H3 x = some o) ∧ Rel K cl (Da :: O) bs (ρs s2) (wipe σ vs) H3 ∧ adr (ρs s2) (wipe σ vs) = adr (ρs s) σ ∧
      ∃ acc qs, H3 Da = some (.lst acc) ∧ acc.length ≤ i + 1 ∧ IsL K cl (frz H3 (Da :: (O ++ adr (ρs s) σ))) acc qs ∧
      wp (lcE d mc me (ps.drop (i + 1)) s2) (fun r => ∀ v H', Gr (adr (ρs s) σ) H (adr (ρs s) σ) H' → Rel K cl O bs (ρs r.2) σ H' → adr (ρs r.2) σ = adr (ρs s) σ → Is K cl (frz H' (O ++ adr (ρs s) σ)) v (.lst (qs ++ r.1)) → Q v H') (fun _ => False),
      fun H3 z => ⟨_, by omega, rfl, by omega, z⟩, fun x H3 hyx => ?_⟩
    obtain ⟨s3, ix⟩ := hy x H3 hyx
    have R3 := R2.same s3
    have qw := wp_bind.mp qw
    refine hg s2 ps[i] (Da :: O) bs σ H3 x _ _ R3 (by rw [ew]; exact ix) (wp_mono (wp_noX (E' := fun _ => False) qw) (fun a qa σ4 R4 e4 w4 => ?_) fun _ z => z)
    have e4s : adr (ρe a s2) σ4 = adr (ρs s) σ := e4.trans ew
    refine ⟨w4 hne, ht a s2 (Da :: O) bs σ4 H3 _ R4 hbD (wp_mono (wp_bind.mp qa) (fun b qb H5 g5 R5 e5 => ?_) fun _ z => z.elim)⟩
    obtain ⟨b, s5⟩ := b
    rw [e4s] at g5
    have e5s : adr (ρe a s5) σ4 = adr (ρs s) σ := e5.trans e4s
    have nD : Da ∉ adr (ρs s) σ := fun z => nDA (List.mem_append_right _ z)
    -- back to the comprehension's own frame
    have back : ∀ (s6 : S) (H6 : Hp), Rel K cl (Da :: O) bs (ρe a s6) σ4 H6 → adr (ρe a s6) σ4 = adr (ρs s) σ → Rel K cl (Da :: O) bs (ρs s6) (wipe σ vs) H6 ∧ adr (ρs s6) (wipe σ vs) = adr (ρs s) σ := fun s6 H6 R6 e6 => by
      obtain ⟨q1, q2⟩ := R6.wipe (hv2 a s6)
      rw [hw, w4 hne] at q1 q2
      exact ⟨q1, q2.trans e6⟩
    have k5 : ∀ x o, x ∉ adr (ρs s) σ → H1 x = some o → H5 x = some o := fun x o n e => g5.1 x o n (s3 _ _ (k2 x o n e))
    have ha5 : H5 Da = some (.lst acc) := g5.1 _ _ nD (s3 _ _ ha)
    have hA : ∀ a, a ∈ Da :: O → ∃ o, H3 a = some o := R3.al
    have fs5 : Sub (frz H2 (Da :: (O ++ adr (ρs s) σ))) (frz H5 (Da :: (O ++ adr (ρs s) σ))) := (frz_same s3).trans (Gr.sub (O := Da :: O) g5 hA)
    cases b with
    | false =>
      obtain ⟨b1, b2⟩ := back s5 H5 R5 e5s
      exact ⟨s5, k5, b1, b2, acc, qs, ha5, by omega, hl.mono fs5, qb⟩
    | true =>
      refine he a s5 (Da :: O) bs σ4 H5 _ R5 hbD (wp_mono (wp_bind.mp qb) (fun y qy vy H6 g6 R6 e6 iy => ?_) fun _ z => z.elim)
      rw [e5s] at g6 iy
      have e6s : adr (ρe a y.2) σ4 = adr (ρs s) σ := e6.trans e5s
      have ha6 : H6 Da = some (.lst acc) := g6.1 _ _ nD ha5
      have k6 : ∀ x o, x ∉ adr (ρs s) σ → H1 x = some o → H6 x = some o := fun x o n e => g6.1 x o n (k5 x o n e)
      have fs6 : Sub (frz H2 (Da :: (O ++ adr (ρs s) σ))) (frz H6 (Da :: (O ++ adr (ρs s) σ))) := fs5.trans (Gr.sub (O := Da :: O) g6 R5.al)
      obtain ⟨b1, b2⟩ := back y.2 H6 R6 e6s
      have keepD : ∀ x u, x ≠ Da → H6 x = some u → upd H6 Da (.lst (acc ++ [vy])) x = some u := fun x u n e => by rw [upd_ne n]; exact e
      have sD : Sub (frz H6 (Da :: (O ++ adr (ρs s) σ))) (frz (upd H6 Da (.lst (acc ++ [vy]))) (Da :: (O ++ adr (ρs s) σ))) := fun x u e => by
        obtain ⟨n, e⟩ := frz_some.mp e
        exact frz_some.mpr ⟨n, keepD x u (fun z => n (by rw [z]; exact List.mem_cons_self)) e⟩
      refine ⟨acc, ha6, by omega, y.2, fun x u n e => keepD x u (ne_of_none e hD) (k6 x u n e), b1.putO List.mem_cons_self (by rw [b2]; exact nD), b2, acc ++ [vy], qs ++ [y.1], upd_same, by rw [List.length_append, List.length_singleton]; omega, ((hl.mono fs6).append (.one iy)).mono sD, ?_⟩
      refine wp_mono (wp_bind.mp qy) (fun ys qys => ?_) fun _ z => z
      intro v H' h1 h2 h3 h4
      exact qys v H' h1 h2 h3 (by rw [List.append_assoc] at h4; exact h4)
end
/-! ### defs that are lent something, defs that give something new -/
def retR (M : Res (Fl MO Empty)) : Res (PV × MO) := M >>= fun f => match f with
  | .nx mo => .val (.non, mo)
  | .rt v [mo] => .val (v, mo)
  | .rt _ _ => .stuck
  | .ro _ _ => .stuck
def retN (M : Res (Fl Unit Empty)) : Res MO := M >>= fun f => match f with
  | .ro mo _ => .val mo
  | .nx _ => .stuck
  | .rt _ _ => .stuck
def apR0 (f : MO → Res (PV × MO)) : MO → List PV → Res (PV × MO)
  | mo, [] => f mo
  | _, _ => .stuck
def apR1 (f : MO → PV → Res (PV × MO)) : MO → List PV → Res (PV × MO)
  | mo, [a] => f mo a
  | _, _ => .stuck
def apR2 (f : MO → PV → PV → Res (PV × MO)) : MO → List PV → Res (PV × MO)
  | mo, [a, b] => f mo a b
  | _, _ => .stuck
def apR3 (f : MO → PV → PV → PV → Res (PV × MO)) : MO → List PV → Res (PV × MO)
  | mo, [a, b, c] => f mo a b c
  | _, _ => .stuck
def apR4 (f : MO → PV → PV → PV → PV → Res (PV × MO)) : MO → List PV → Res (PV × MO)
  | mo, [a, b, c, d] => f mo a b c d
  | _, _ => .stuck
def apR5 (f : MO → PV → PV → PV → PV → PV → Res (PV × MO)) : MO → List PV → Res (PV × MO)
  | mo, [a, b, c, d, e] => f mo a b c d e
  | _, _ => .stuck
def apN0 (f : Res MO) : List PV → Res MO
  | [] => f
  | _ => .stuck
def apN1 (f : PV → Res MO) : List PV → Res MO
  | [a] => f a
  | _ => .stuck
def apN2 (f : PV → PV → Res MO) : List PV → Res MO
  | [a, b] => f a b
  | _ => .stuck
def apN3 (f : PV → PV → PV → Res MO) : List PV → Res MO
  | [a, b, c] => f a b c
  | _ => .stuck
def TaknR (n : Nat) (mf : MO → List PV → Res (PV × MO)) : Prop := ∀ mo ps, ps.length ≠ n → mf mo ps = .stuck
def TaknN (n : Nat) (mf : List PV → Res MO) : Prop := ∀ ps, ps.length ≠ n → mf ps = .stuck
theorem taknR0 {f : MO → Res (PV × MO)} : TaknR 0 (apR0 f) := fun mo ps h => by
  unfold apR0; split
  · exact absurd rfl h
  · rfl
theorem taknR1 {f : MO → PV → Res (PV × MO)} : TaknR 1 (apR1 f) := fun mo ps h => by
  unfold apR1; split
  · exact absurd rfl h
  · rfl
theorem taknR2 {f : MO → PV → PV → Res (PV × MO)} : TaknR 2 (apR2 f) := fun mo ps h => by
  unfold apR2; split
  · exact absurd rfl h
  · rfl
theorem taknR3 {f : MO → PV → PV → PV → Res (PV × MO)} : TaknR 3 (apR3 f) := fun mo ps h => by
  unfold apR3; split
  · exact absurd rfl h
  · rfl
theorem taknR4 {f : MO → PV → PV → PV → PV → Res (PV × MO)} : TaknR 4 (apR4 f) := fun mo ps h => by
  unfold apR4; split
  · exact absurd rfl h
  · rfl
theorem taknR5 {f : MO → PV → PV → PV → PV → PV → Res (PV × MO)} : TaknR 5 (apR5 f) := fun mo ps h => by
  unfold apR5; split
  · exact absurd rfl h
  · rfl
theorem taknN1 {f : PV → Res MO} : TaknN 1 (apN1 f) := fun ps h => by
  unfold apN1; split
  · exact absurd rfl h
  · rfl
theorem taknN2 {f : PV → PV → Res MO} : TaknN 2 (apN2 f) := fun ps h => by
  unfold apN2; split
  · exact absurd rfl h
  · rfl
theorem taknN3 {f : PV → PV → PV → Res MO} : TaknN 3 (apN3 f) := fun ps h => by
  unfold apN3; split
  · exact absurd rfl h
  · rfl
section
variable {P : Program} {w : World} {K : PySem.W.Frag} {mg : Str → Option Value} {base : Heap} {cl : Str → Option Addr}
open PySem.Spec PyProof.Rows in
theorem fnR {x qual : Str} {st : Stmt} {f : Addr} {fd : FuncData} {N ps : List Str} {k n : Nat} {mf : MO → List PV → Res (PV × MO)} (F : Fun K x qual st f fd) (S : FnScope N ps (defScope st)) (hn : ps.length = n + 1) (tk : TaknR n mf)
    (h : ∀ (cdv : Value) (A : Around) (outer : List Env) (s : Shared) (H : Hp) (E : XK), Room k (A.deeper (envOfC qual (defScope st) s.heap.objs.size f cdv)) → ∀ (mo : MO) (qs : List PV), qs.length = n → mf mo qs = .stuck ∨
      ∃ t, PSs (cxOf (L2.CX P w) P w K mg base N qual (defScope st) f cdv A outer s H E) (defBody st) t ∧ ∃ M, Runs K cl (fun c d _ H' => E c d H') t (.rf 0 mo :: (qs.map Slot.fz ++ uns (N.length - (n + 1)))) M (fun mo : MO => .rf 0 mo :: uns (N.length - 1)) (fun l : Empty => nomatch l) (uns N.length) ∧ mf mo qs = retR M) :
    FnOk P w K mg base (L2.CX P w) (k + 1) f fd ps (spR K cl mf) := by
  have len : ∀ vs H Q E, spR K cl mf vs H Q E → vs.length = n + 1 := fun vs H Q E ⟨O, b, mo, us, qs, e, hb, hO, hm, hl, hw⟩ => by
    rw [e, List.length_cons, hl.len]
    refine Classical.byContradiction fun c => ?_
    rw [tk mo qs (by omega)] at hw
    exact hw
  refine F.okX S (fun vs H Q E h => (len vs H Q E h).trans hn.symm) (fun cdv A outer s H vs Q E hr hsp => ?_)
  have hvn := len vs H Q E hsp
  obtain ⟨O, b, mo, us, qs, rfl, hb, hO, hm, hl, hw⟩ := hsp
  have hun : us.length = n := by rw [List.length_cons] at hvn; omega
  have hqn : qs.length = n := by rw [← hl.len]; exact hun
  rcases h cdv A outer s H E hr mo qs hqn with e | ⟨t, ht, M, hM, e⟩
  · rw [e] at hw; exact hw.elim
  refine ⟨t, ht, ?_⟩
  rw [e] at hw
  have st0 : L2.start N (V.ref b :: us) = some (V.ref b) :: (us.map some ++ List.replicate (N.length - (n + 1)) none) := by
    unfold L2.start
    rw [List.length_cons, hun]
    rfl
  rw [st0]
  have ea : adr (.rf 0 mo :: (qs.map Slot.fz ++ uns (N.length - (n + 1)))) (some (V.ref b) :: (us.map some ++ List.replicate (N.length - (n + 1)) none)) = [b] := congrArg (b :: ·) (fz_adr _ _ _)
  have eo : owa (.rf 0 mo :: (qs.map Slot.fz ++ uns (N.length - (n + 1)))) (some (V.ref b) :: (us.map some ++ List.replicate (N.length - (n + 1)) none)) = [] := fz_owa _ _ _
  have sO : Sub (frz H O) (frz H (O ++ [b])) := frz_less fun a ha => by
    rcases List.mem_append.mp ha with c | c
    · exact c
    · have : a = b := by simpa using c
      rw [this]; exact hb
  have R : Rel K cl O [b] (.rf 0 mo :: (qs.map Slot.fz ++ uns (N.length - (n + 1)))) (some (V.ref b) :: (us.map some ++ List.replicate (N.length - (n + 1)) none)) H := by
    refine ⟨?_, by rw [ea]; simp, hO, by rw [eo]; exact fun _ z => nomatch z⟩
    rw [ea]
    refine .cons ⟨b, rfl, rfl, hm.mono sO fun _ e => e⟩ ?_
    have q := fz_rel (K := K) (cl := cl) (H := H) (N.length - (n + 1)) (hl.mono sO)
    have lift : ∀ {ρ : Ro} {σ : L2.St} {F H : Hp}, RelS K cl [] F H ρ σ → (∀ s ∈ ρ, (∃ p, s = .fz p) ∨ s = .un) → RelS K cl [b] F H ρ σ := fun {ρ σ F H} r => by
      induction r with
      | nil => exact fun _ => .nil
      | cons a r ih =>
        intro hs
        refine .cons ?_ (ih fun s h => hs s (List.mem_cons_of_mem _ h))
        rcases hs _ List.mem_cons_self with ⟨p, rfl⟩ | rfl
        · exact a
        · exact trivial
    refine lift q fun s hs => ?_
    rcases List.mem_append.mp hs with c | c
    · obtain ⟨p, _, rfl⟩ := List.mem_map.mp c
      exact .inl ⟨p, rfl⟩
    · exact .inr (List.eq_of_mem_replicate c)
  refine hM O [b] _ H _ R (fun a ha => by have : a = b := by simpa using ha
                                          rw [this]; exact hb) (wp_mono (wp_bind.mp hw) (fun fl q => ?_) fun c q => q.elim)
  rw [ea]
  have keep : ∀ {A' : List Addr} {H' : Hp}, Gr [b] H A' H' → ∀ x o, x ≠ b → H x = some o → H' x = some o := fun {A' H'} g x o ne e => g.1 x o (by simpa using ne) e
  cases fl with
  | nx mo' =>
    intro σ' H' g R'
    have q' : ∀ v H', (∀ x o, x ≠ b → H x = some o → H' x = some o) → MoIs K cl (frz H' O) H' b mo' → Is K cl (frz H' O) v .non → Q v H' := q
    refine q' .non H' (keep g) ?_ .non
    have r0 : (Slot.rf 0 mo' :: uns (N.length - 1) : Ro)[0]? = some (.rf 0 mo') := rfl
    obtain ⟨x, e, a, rfl, hk, hmo⟩ := R'.sl.get r0
    have : b = a := by simpa using hk
    subst this
    exact hmo.mono (frz_less fun a ha => List.mem_append_left _ ha) fun _ e => e
  | rt v r =>
    match r, q with
    | [mo'], q =>
      have q' : ∀ v' H', (∀ x o, x ≠ b → H x = some o → H' x = some o) → MoIs K cl (frz H' O) H' b mo' → Is K cl (frz H' O) v' v → Q v' H' := q
      exact fun w' H' g i hbm => q' w' H' (keep g) (hbm 0 b mo' rfl rfl) i
  | ro mo r => exact q.elim
  | bk l => exact nomatch l
  | ct l => exact nomatch l
open PySem.Spec PyProof.Rows in
theorem fnN {x qual : Str} {st : Stmt} {f : Addr} {fd : FuncData} {N ps : List Str} {k n : Nat} {mf : List PV → Res MO} (F : Fun K x qual st f fd) (S : FnScope N ps (defScope st)) (hn : ps.length = n) (tk : TaknN n mf)
    (h : ∀ (cdv : Value) (A : Around) (outer : List Env) (s : Shared) (H : Hp) (E : XK), Room k (A.deeper (envOfC qual (defScope st) s.heap.objs.size f cdv)) → ∀ qs : List PV, qs.length = n →
      ∃ t, PSs (cxOf (L2.CX P w) P w K mg base N qual (defScope st) f cdv A outer s H E) (defBody st) t ∧ ∃ M, Runs K cl (fun c d _ H' => E c d H') t (qs.map Slot.fz ++ uns (N.length - n)) M (fun _ : Unit => uns N.length) (fun l : Empty => nomatch l) (uns N.length) ∧ mf qs = retN M) :
    FnOk P w K mg base (L2.CX P w) (k + 1) f fd ps (spN K cl mf) := by
  have len : ∀ vs H Q E, spN K cl mf vs H Q E → vs.length = n := fun vs H Q E ⟨O, qs, hO, hl, hw⟩ => by
    rw [hl.len]
    refine Classical.byContradiction fun c => ?_
    rw [tk qs c] at hw
    exact hw
  refine F.okX S (fun vs H Q E h => (len vs H Q E h).trans hn.symm) (fun cdv A outer s H vs Q E hr hsp => ?_)
  have hvn := len vs H Q E hsp
  obtain ⟨O, qs, hO, hl, hw⟩ := hsp
  have hqn : qs.length = n := by rw [← hl.len]; exact hvn
  obtain ⟨t, ht, M, hM, e⟩ := h cdv A outer s H E hr qs hqn
  refine ⟨t, ht, ?_⟩
  rw [e] at hw
  have st0 : L2.start N vs = vs.map some ++ List.replicate (N.length - n) none := by unfold L2.start; rw [hvn]
  rw [st0]
  have R : Rel K cl O [] (qs.map Slot.fz ++ uns (N.length - n)) (vs.map some ++ List.replicate (N.length - n) none) H :=
    ⟨by rw [fz_adr, List.append_nil]; exact fz_rel _ hl, by rw [fz_adr]; exact List.nodup_nil, hO, by rw [fz_owa]; exact fun _ z => nomatch z⟩
  refine hM O [] _ H _ R (fun _ z => nomatch z) (wp_mono (wp_bind.mp hw) (fun fl q => ?_) fun c q => q.elim)
  rw [fz_adr]
  cases fl with
  | nx s => exact q.elim
  | rt v r => exact q.elim
  | ro mo r =>
    intro p H' g n hm _
    refine q p H' (fun x o e => g.1 x o (fun z => nomatch z) e) ?_ hm
    rcases g.2 p (by simp) with c | c
    · cases c
    · exact c
  | bk l => exact nomatch l
  | ct l => exact nomatch l
end
section
variable {K : PySem.W.Frag} {cl : Str → Option Addr} {W : WX} {bs O A A1 B : List Addr} {F H H' H1 : Hp} {ρ ρ' ρx ρh : Ro} {σ : St} {S S1 S2 L : Type} {ρs : S → Ro} {ρn : S1 → Ro} {ρl : L → Ro} {D : Ends} {t u v tb : TS} {te ta tc td : TE} {ma mb : S → Res (PV × S)} {tr : TA} {ml : Res (List PV)} {mls : S → Res (List PV × S)}
def moL : MO → Res (List PV)
  | .lst l => .val l
  | _ => .stuck
def moD : MO → Res (List (Key × PV))
  | .dct l => .val l
  | _ => .stuck
theorem nw_callN {mf : List PV → Res MO} (hl : PurL K cl W tr ρ ml) : New K cl W (tCallS (spN K cl mf) (WE W) tr) ρ (ml >>= fun ps => noX (mf ps) >>= moL) := fun O bs σ H Q R q => by
  refine hl O bs σ H _ R (wp_mono (wp_bind.mp q) (fun ps qs vs H1 s1 i1 => ?_) fun _ z => z)
  refine ⟨O ++ adr ρ σ, ps, fun a h => (R.same s1).got h, i1, wp_mono (wp_noX (E' := fun _ => False) (wp_bind.mp qs)) (fun mo qm p H' s hp hm => ?_) fun _ z => z⟩
  cases mo with
  | lst l =>
    obtain ⟨vs', h1, h2⟩ := hm
    exact qm p vs' H' (s1.trans s) (none_back s1 hp) h1 h2
  | _ => exact qm.elim
theorem nd_callN {mf : List PV → Res MO} (hl : PurL K cl W tr ρ ml) : NewD K cl W (tCallS (spN K cl mf) (WE W) tr) ρ (ml >>= fun ps => noX (mf ps) >>= moD) := fun O bs σ H Q R q => by
  refine hl O bs σ H _ R (wp_mono (wp_bind.mp q) (fun ps qs vs H1 s1 i1 => ?_) fun _ z => z)
  refine ⟨O ++ adr ρ σ, ps, fun a h => (R.same s1).got h, i1, wp_mono (wp_noX (E' := fun _ => False) (wp_bind.mp qs)) (fun mo qm p H' s hp hm => ?_) fun _ z => z⟩
  cases mo with
  | dct l =>
    obtain ⟨vs', h1, h2⟩ := hm
    exact qm p vs' H' (s1.trans s) (none_back s1 hp) h1 h2
  | _ => exact qm.elim
/-! pop -/
def popL (l : List PV) (i : PV) : Res (PV × List PV) := match i with
  | .int i => if -(2 ^ 63) ≤ i ∧ i < 2 ^ 63 then match seqIndex? i l.length with
      | some k => match l[k]? with
        | some y => .val (y, l.eraseIdx k)
        | none => .stuck
      | none => .stuck
    else .stuck
  | _ => .stuck
theorem ef_pop {i : Nat} {sl : S → Slot} {get : S → List PV} {put : S → List PV → S} (hi : ∀ s, (ρs s)[i]? = some (sl s)) (hs : ∀ s, sl s = .ow (.lst (get s)) ∨ ∃ k, sl s = .rf k (.lst (get s))) (hp : ∀ s l, (ρs s).set i (reSl (sl s) (.lst l)) = ρs (put s l)) (ha : Eff K cl ta ρs ma) :
    Eff K cl (tBM K "list" rPopAt (tVar i) (tCons ta tNil)) ρs (fun s => ma s >>= fun k => popL (get k.2) k.1 >>= fun r => .val (r.1, put k.2 r.2)) := fun s O bs σ H Q R hb q => by
  have got : ∀ s' H', Rel K cl O bs (ρs s') σ H' → ∃ a vs, σ[i]? = some (some (.ref a)) ∧ H' a = some (.lst vs) ∧ IsL K cl (frz H' (O ++ adr (ρs s') σ)) vs (get s') := fun s' H' R => by
    obtain ⟨x, e, q⟩ := R.sl.get (hi s')
    rcases hs s' with h | ⟨k, h⟩
    · rw [h] at q; obtain ⟨a, rfl, vs, h1, h2⟩ := q; exact ⟨a, vs, e, h1, h2⟩
    · rw [h] at q; obtain ⟨a, rfl, _, vs, h1, h2⟩ := q; exact ⟨a, vs, e, h1, h2⟩
  obtain ⟨a, vs, hA, hv, hl⟩ := got _ _ R
  refine ⟨_, hA, .inl ⟨rfl, _, .inl (.inl hv)⟩, ha s O bs σ H _ R hb (wp_mono (wp_bind.mp q) (fun k qk v H1 g1 R1 e1 i1 => ?_) fun _ z => z)⟩
  obtain ⟨a', vs', hA', hv', hl'⟩ := got _ _ R1
  rw [hA] at hA'
  cases hA'
  have qk := wp_bind.mp qk
  unfold popL at qk
  split at qk
  · next j hj =>
    rw [hj] at i1
    cases i1
    split at qk
    · next c =>
      split at qk
      · next n hn =>
        split at qk
        · next y hy =>
          obtain ⟨vy, h1, h2⟩ := hl'.get hy
          obtain ⟨R2, g2⟩ := R1.put (m' := .lst ((get k.2).eraseIdx n)) (o := .lst (vs'.eraseIdx n)) (hi k.2) (hs k.2) hA ⟨_, upd_same, IsL.erase n hl'⟩
          have e2 := (adr_re (σ := σ) (m' := .lst ((get k.2).eraseIdx n)) (hi k.2)).1
          have g2e : Gr (adr (ρs s) σ) H1 (adr (ρs s) σ) (upd H1 a (.lst (vs'.eraseIdx n))) := by rw [e2, e1] at g2; exact g2
          rw [hp] at R2 e2
          refine ⟨a, vs', j, n, vy, rfl, rfl, hv', c.1, c.2, by rw [hl'.len]; exact hn, h1, qk vy _ (g1.trans g2e) R2 (e2.trans e1) ?_⟩
          rw [← e1]
          exact h2.mono (by rw [e1]; exact g2e.sub R1.al)
        · exact qk.elim
      · exact qk.elim
    · exact qk.elim
  · exact qk.elim
end
open PySem.Spec PyProof.Rows in
theorem fn_stuckR {P : Program} {w : World} {K : PySem.W.Frag} {mg : Str → Option Value} {base : Heap} {CX : CXT} {cl : Str → Option Addr} {k : Nat} {f : Addr} {fd : FuncData} {ps : List Str} {mf : MO → List PV → Res (PV × MO)} (h : ∀ mo qs, mf mo qs = .stuck) : FnOk P w K mg base CX k f fd ps (spR K cl mf) := by
  refine ⟨fun vs H Q E ⟨O, b, mo, us, qs, _, _, _, _, _, hw⟩ => ?_, fun A outer s H args us vs Q E _ _ _ _ ⟨O, b, mo, us, qs, _, _, _, _, _, hw⟩ => ?_⟩
  · rw [h] at hw; exact hw.elim
  · rw [h] at hw; exact hw.elim
theorem stuckR0 : ∀ mo qs, apR0 (fun _ => (.stuck : Res (PV × MO))) mo qs = .stuck := fun mo qs => by unfold apR0; split <;> rfl
theorem stuckR1 : ∀ mo qs, apR1 (fun _ _ => (.stuck : Res (PV × MO))) mo qs = .stuck := fun mo qs => by unfold apR1; split <;> rfl
theorem stuckR2 : ∀ mo qs, apR2 (fun _ _ _ => (.stuck : Res (PV × MO))) mo qs = .stuck := fun mo qs => by unfold apR2; split <;> rfl
theorem stuckR3 : ∀ mo qs, apR3 (fun _ _ _ _ => (.stuck : Res (PV × MO))) mo qs = .stuck := fun mo qs => by unfold apR3; split <;> rfl
theorem stuckR4 : ∀ mo qs, apR4 (fun _ _ _ _ _ => (.stuck : Res (PV × MO))) mo qs = .stuck := fun mo qs => by unfold apR4; split <;> rfl
theorem stuckR5 : ∀ mo qs, apR5 (fun _ _ _ _ _ _ => (.stuck : Res (PV × MO))) mo qs = .stuck := fun mo qs => by unfold apR5; split <;> rfl
/-! ### list(range(..)), tuple(range(..)), isinstance with two, the law -/
section
variable {K : PySem.W.Frag} {cl : Str → Option Addr} {W : WX} {bs O A A1 B : List Addr} {F H H' H1 : Hp} {ρ : Ro} {σ : L2.St} {ta tb : TE} {ma mb : Res PV}
def rgL (lo hi : Int) : Res (List PV) := if -(2 ^ 62) ≤ lo ∧ lo < 2 ^ 62 ∧ -(2 ^ 62) ≤ hi ∧ hi < 2 ^ 62 ∧ (hi - lo).toNat ≤ 2 ^ 24 then .val (rngP lo hi) else .stuck
theorem is_rg : ∀ (l : List Nat) (lo : Int), IsL K cl F (l.map fun i => V.int (lo + (i : Nat))) (l.map fun i => PV.int (lo + (i : Nat)))
  | [], _ => .nil
  | _ :: l, lo => .cons (.int _) (is_rg l lo)
theorem wp_rgL {lo hi : Int} {Q : List PV → Prop} {E : Str → Prop} (h : wp (rgL lo hi) Q E) : RgOk lo hi ∧ Q (rngP lo hi) := by
  unfold rgL at h
  split at h
  · next c => exact ⟨c, h⟩
  · exact h.elim
def PRgP (K : PySem.W.Frag) (cl : Str → Option Addr) (W : WX) (t : L2.St → Hp → (Int → Int → Hp → Prop) → Prop) (ρ : Ro) (m : Res (Int × Int)) : Prop := ∀ (O bs : List Addr) (σ : L2.St) (H : Hp) (Q : Int → Int → Hp → Prop), Rel K cl O bs ρ σ H →
  wp m (fun r => ∀ H', Sub H H' → Q r.1 r.2 H') (XW cl W σ H) → t σ H Q
theorem rg_1 (ha : Vw K cl W ta ρ ma) : PRgP K cl W (tRg1 ta) ρ (ma >>= partP >>= fun i => .val (0, i)) := fun O bs σ H Q R q => by
  rw [wp_bind, wp_bind] at q
  refine ha O bs σ H _ R (wp_mono q (fun x qx v1 H1 s1 i1 => ?_) fun _ z => z)
  unfold partP at qx
  split at qx
  · cases isV_int i1; exact ⟨_, rfl, qx H1 s1⟩
  · exact qx.elim
theorem rg_2 (ha : Vw K cl W ta ρ ma) (hb : Vw K cl W tb ρ mb) : PRgP K cl W (tRg2 ta tb) ρ (ma >>= fun x => mb >>= fun y => partP x >>= fun i => partP y >>= fun j => .val (i, j)) := fun O bs σ H Q R q => by
  refine ha O bs σ H _ R (wp_mono (wp_bind.mp q) (fun x qx v1 H1 s1 i1 => ?_) fun _ z => z)
  refine hb O bs σ H1 _ (R.same s1) (wp_mono (wp_bind.mp qx) (fun y qy v2 H2 s2 i2 => ?_) fun _ z => z.mono s1)
  unfold partP at qy
  split at qy
  · cases isV_int i1
    have qy := wp_bind.mp qy
    split at qy
    · cases isV_int i2; exact ⟨_, _, rfl, rfl, qy H2 (s1.trans s2)⟩
    · exact qy.elim
  · exact qy.elim
theorem nw_listRg {t : L2.St → Hp → (Int → Int → Hp → Prop) → Prop} {m : Res (Int × Int)} (h : PRgP K cl W t ρ m) : New K cl W (tLstRg t) ρ (m >>= fun r => rgL r.1 r.2) := fun O bs σ H Q R q => by
  refine h O bs σ H _ R (wp_mono (wp_bind.mp q) (fun r qr H1 s1 => ?_) fun _ z => z)
  obtain ⟨ok, qr⟩ := wp_rgL qr
  exact ⟨ok, fun p hp => qr p _ _ (s1.trans (sub_new hp _)) (none_back s1 hp) upd_same (is_rg _ _)⟩
theorem pu_tupRg {t : L2.St → Hp → (Int → Int → Hp → Prop) → Prop} {m : Res (Int × Int)} (h : PRgP K cl W t ρ m) : Pur K cl W (tTupRg t) ρ (m >>= fun r => rgL r.1 r.2 >>= fun l => .val (.tup l)) := fun O bs σ H Q R q => by
  refine h O bs σ H _ R (wp_mono (wp_bind.mp q) (fun r qr H1 s1 => ?_) fun _ z => z)
  obtain ⟨ok, qr⟩ := wp_rgL (wp_bind.mp qr)
  exact ⟨ok, fun p hp => qr _ _ (s1.trans (sub_new hp _)) (new_tup (fun a h => (R.same s1).got h) hp (is_rg _ _))⟩
theorem New.pur' {t : TE} {α : Type} {m : Res α} {f : α → Res (List PV)} (h : New K cl W t ρ (m >>= f)) : Pur K cl W t ρ (m >>= fun x => f x >>= fun l => .val (.lst l)) := by
  have q := h.pur
  cases m <;> exact q
def isiP2 (a b : String) (p : PV) : Res PV := match tyNm p with
  | some n => match kitB n a, kitB n b with
    | some r, some s => .val (.bl (r || s))
    | _, _ => .stuck
  | none => .stuck
theorem call_isiTV (K : PySem.W.Frag) {X : Cx} (e : X.K = K) : CallR X (.builtin "isinstance") (rIsiT K) := by subst e; exact call_isiT
theorem pu_isi2 {a b : String} (ha : Vw K cl W ta ρ ma) : Pur K cl W (tCB (rIsiT K) (tCons ta (tCons (tTup (tCons (tC (.ty a)) (tCons (tC (.ty b)) tNil))) tNil))) ρ (ma >>= isiP2 a b) := fun O bs σ H Q R q => by
  refine ha O bs σ H _ R (wp_mono (wp_bind.mp q) (fun x qx v1 H1 s1 i1 => ?_) fun _ z => z)
  unfold isiP2 at qx
  split at qx
  · next n hn =>
    split at qx
    · next r s hr hs =>
      refine ⟨by show 2 ≤ sizeLine; decide, fun p hp => ⟨v1, p, [.ty a, .ty b], .type n, [.type a, .type b], r || s, rfl, upd_same, .cons (.ty _) (.cons (.ty _) .nil), ?_, ?_, qx _ _ (s1.trans (sub_new hp _)) (.bl _)⟩⟩
      · exact isV_ty (i1.mono (frz_same (sub_new hp _)) (sub_new hp _)) frz_sub hn
      · refine kitAny_cons (kit_ty hr) (fun e => ?_) fun e => by rw [e]; rfl
        rw [e, Bool.false_or]
        exact kitAny_cons (kit_ty hs) (fun e => by rw [e]; exact kitAny_nil) fun e => e
    · exact qx.elim
  · exact qx.elim
end
section
variable {P : Program} {w : World} {K : PySem.W.Frag} {mg : Str → Option Value} {base : Heap} {cl : Str → Option Addr}
def spLaw (K : PySem.W.Frag) : Sp := fun vs H Q _ => ∃ (a : Addr) (ns : List Int), vs = [.ref a] ∧ SqL K H a (ns.map V.int) ∧ ns.length ≤ 63 ∧ ∀ H', Q (.bl true) H'
open PySem.Spec PyProof.Rows in
theorem fnLaw {x qual sx : Str} {st : Stmt} {f : Addr} {fd : FuncData} {N : List Str} {k : Nat} (F : Fun K x qual st f fd) (S : FnScope N [sx] (defScope st)) {ml : List Int → Res PV} (hml : ∀ ns : List Int, ns.length ≤ 63 → ml ns = .val (.bl true))
    (h : ∀ (cdv : Value) (A : Around) (outer : List Env) (s : Shared) (H : Hp) (E : XK), Room k (A.deeper (envOfC qual (defScope st) s.heap.objs.size f cdv)) → ∀ ns : List Int,
      ∃ t, PSs (cxOf CX0 P w K mg base N qual (defScope st) f cdv A outer s H E).nox (defBody st) t ∧ ∃ M, Runs K cl (fun c d _ H' => E0 c d H') t (.fz (.fls (ns.map PV.int)) :: uns (N.length - 1)) M (fun _ : Unit => uns N.length) (fun l : Empty => nomatch l) (uns N.length) ∧ ml ns = retF M) :
    FnOk P w K mg base CX0 (k + 1) f fd [sx] (spLaw K) := by
  refine F.ok S (fun vs H Q E h => ?_) (fun cdv A outer s H vs Q E hr hsp => ?_)
  · obtain ⟨_, _, rfl, _⟩ := h; rfl
  obtain ⟨a, ns, rfl, hS, h63, k⟩ := hsp
  obtain ⟨t, ht, M, hM, e⟩ := h cdv A outer s H E hr ns
  refine ⟨t, ht, ?_⟩
  have hw := (hml ns h63).symm.trans e
  have hw : wp (retF M) (fun r => r = .bl true) (fun _ => False) := by rw [← hw]; exact rfl
  have R : Rel K cl [] [] (.fz (.fls (ns.map PV.int)) :: uns (N.length - 1)) (some (V.ref a) :: List.replicate (N.length - 1) none) H := by
    have ea : adr (.fz (.fls (ns.map PV.int)) :: uns (N.length - 1)) (some (V.ref a) :: List.replicate (N.length - 1) none) = [] := uns_adr _ _
    refine ⟨?_, by rw [ea]; exact List.nodup_nil, fun _ z => (nomatch z), fun _ _ z => nomatch z⟩
    rw [ea]
    refine .cons ⟨_, rfl, .fls (Sub.sqL (F := H) (F' := frz H ([] ++ [])) (fun x o e => frz_some.mpr ⟨(fun z => nomatch z), e⟩) hS) (IsL.of_ints ns)⟩ ?_
    exact fz_rel (vs := []) (qs := []) _ .nil
  refine hM [] [] _ H _ R (fun _ z => nomatch z) (wp_mono (wp_bind.mp hw) (fun fl q => ?_) fun c q => q.elim)
  cases fl with
  | nx s => exact absurd (show PV.non = .bl true from q) (fun z => nomatch z)
  | rt v r =>
    have q : v = .bl true := q
    subst q
    exact fun w' H' g i _ => by cases i; exact k H'
  | ro mo r => exact q.elim
  | bk l => exact nomatch l
  | ct l => exact nomatch l
end
/-! ### tuple * int, any int -/
section
open PySem.Spec PyProof.Rows
theorem tup_mul1 (l : Addr) (items : Array Value) (n : Nat) (dd : Option Addr) (sl : Array (Option Value)) (x : Int) (u : Tok) (c0 : (decide (x < -(2 ^ 63)) || decide (x ≥ 2 ^ 63)) = false) (c1 : (items.isEmpty || x == 1) = true) :
    Meets (Builtin.«tuple.__mul__» ⟨[.ref l, .int x u], []⟩) (fun _ R s => s.heap.get? l = some { cls := .type "tuple", dict := dd, data := .seq items n, slots := sl } ∧ R (.ok (.ret (Value.ref l))) s) :=
  .of_wp fun prog w A R s h => by
    obtain ⟨hp, g, d, tk, os⟩ := s
    obtain ⟨hl, h⟩ := h
    have f1 := AutoSeq1.idx_int
    wp_walk using wpAny_loadPart' hl
    repeat (first
      | (refine wpAny_ite_false (decide_eq_false (by rw [c0]; exact Bool.false_ne_true)) ?_; wp_walk using wpAny_loadPart' hl)
      | (refine wpAny_ite_true (decide_eq_true (by rw [c1])) ?_; wp_walk using wpAny_loadPart' hl))
    all_goals exact ⟨_, rfl, h⟩
theorem tup_mul0 (l : Addr) (items : Array Value) (n : Nat) (dd : Option Addr) (sl : Array (Option Value)) (x : Int) (u : Tok) (c0 : (decide (x < -(2 ^ 63)) || decide (x ≥ 2 ^ 63)) = false) (c1 : (items.isEmpty || x == 1) = false) (c2 : (decide (x ≤ 0) || items.isEmpty) = true) :
    Meets (Builtin.«tuple.__mul__» ⟨[.ref l, .int x u], []⟩) (fun _ R s => s.heap.get? l = some { cls := .type "tuple", dict := dd, data := .seq items n, slots := sl } ∧
      R (.ok (.ret (Value.ref s.heap.objs.size))) { s with heap := s.heap.push { cls := Value.type "tuple", data := Data.seq #[] }, toks := s.toks }) :=
  .of_wp fun prog w A R s h => by
    obtain ⟨hp, g, d, tk, os⟩ := s
    obtain ⟨hl, h⟩ := h
    have f1 := AutoSeq1.idx_int
    wp_walk using wpAny_loadPart' hl
    repeat (first
      | (refine wpAny_ite_false (decide_eq_false (by rw [c0]; exact Bool.false_ne_true)) ?_; wp_walk using wpAny_loadPart' hl)
      | (refine wpAny_ite_false (decide_eq_false (by rw [c1]; exact Bool.false_ne_true)) ?_; wp_walk using wpAny_loadPart' hl)
      | (refine wpAny_ite_true (decide_eq_true (by rw [c2])) ?_; wp_walk using wpAny_loadPart' hl))
    all_goals exact ⟨_, rfl, h⟩
def rRepT1 (K : PySem.W.Frag) : R2 := fun x y H Q => ∃ l k xs, x = .ref l ∧ y = .int k ∧ SqT K H l xs ∧ -(2 ^ 63) ≤ k ∧ k < 2 ^ 63 ∧ (xs = [] ∨ k = 1) ∧ Q (.ref l) H
def rRepT0 (K : PySem.W.Frag) : R2 := fun x y H Q => ∃ l k xs, x = .ref l ∧ y = .int k ∧ SqT K H l xs ∧ -(2 ^ 63) ≤ k ∧ k ≤ 0 ∧ xs ≠ [] ∧ ∀ p, H p = none → Q (.ref p) (upd H p (.tup []))
theorem op_repT1 {X : Cx} : OpR X (binaryOp .Mult) (rRepT1 X.K) := by
  intro pins s σ H x y v u Q I rx ry h
  obtain ⟨l, k, xs, rfl, rfl, hT, h1, h2, h3, q⟩ := h
  cases rx
  obtain ⟨t, rfl⟩ := ry
  obtain ⟨its, r, ⟨⟨cls, dd, data, sl⟩, ho, hc, n, hd⟩, hs⟩ := I.tuple hT
  simp only at hc hd
  subst hc hd
  have c0 : (decide (k < -(2 ^ 63)) || decide (k ≥ 2 ^ 63)) = false := by
    rw [decide_eq_false (by omega), decide_eq_false (by omega)] <;> rfl
  have c1 : (its.toArray.isEmpty || k == 1) = true := by
    rcases h3 with h3 | h3
    · have e : its = [] := List.eq_nil_of_length_eq_zero (by rw [← r.length, h3]; rfl)
      subst e
      rfl
    · rw [h3]
      exact Bool.or_true _
  exact wpAny_binaryOp_repeat_ref (T := "tuple") (U := "int") (by decide) ⟨_, ho, rfl⟩ (fun s' => typeIs_int s' k t) noFill_tuple_mul F.fills_int_mul F.slot_int_rmul repeat_tuple F.slot_int_index.lookup
    (call_meets F.slot_int_rmul (typeIs_int s k t) F.entry_int_rmul (F.args_int_rmul_2 _ _) (int_rmul_tuple k t l its.toArray n dd sl)
      ⟨ho, rfl, ⟨_, ho, rfl⟩, call_meets F.slot_tuple_mul ⟨_, ho, rfl⟩ F.entry_tuple_mul (F.args_tuple_mul_2 _ _) (tup_mul1 l its.toArray n dd sl k t c0 c1) ⟨ho, .ref l, H, I, rfl, q⟩⟩)
theorem op_repT0 {X : Cx} : OpR X (binaryOp .Mult) (rRepT0 X.K) := by
  intro pins s σ H x y v u Q I rx ry h
  obtain ⟨l, k, xs, rfl, rfl, hT, h1, h2, h3, q⟩ := h
  cases rx
  obtain ⟨t, rfl⟩ := ry
  obtain ⟨its, r, ⟨⟨cls, dd, data, sl⟩, ho, hc, n, hd⟩, hs⟩ := I.tuple hT
  simp only at hc hd
  subst hc hd
  have hi : its.toArray.isEmpty = false := by
    cases its with
    | nil => exact absurd (List.eq_nil_of_length_eq_zero (by rw [r.length]; rfl)) h3
    | cons a b => rfl
  have c0 : (decide (k < -(2 ^ 63)) || decide (k ≥ 2 ^ 63)) = false := by
    rw [decide_eq_false (by omega), decide_eq_false (by omega)] <;> rfl
  have c1 : (its.toArray.isEmpty || k == 1) = false := by
    rw [hi, Bool.false_or]
    exact beq_eq_false_iff_ne.mpr (by omega)
  have c2 : (decide (k ≤ 0) || its.toArray.isEmpty) = true := by
    rw [decide_eq_true h2]
    rfl
  refine wpAny_binaryOp_repeat_ref (T := "tuple") (U := "int") (by decide) ⟨_, ho, rfl⟩ (fun s' => typeIs_int s' k t) noFill_tuple_mul F.fills_int_mul F.slot_int_rmul repeat_tuple F.slot_int_index.lookup
    (call_meets F.slot_int_rmul (typeIs_int s k t) F.entry_int_rmul (F.args_int_rmul_2 _ _) (int_rmul_tuple k t l its.toArray n dd sl)
      ⟨ho, rfl, ⟨_, ho, rfl⟩, call_meets F.slot_tuple_mul ⟨_, ho, rfl⟩ F.entry_tuple_mul (F.args_tuple_mul_2 _ _) (tup_mul0 l its.toArray n dd sl k t c0 c1 c2) ⟨ho, ?_⟩⟩)
  refine ⟨.ref s.heap.objs.size, _, I.laid (t' := s.toks) (o := .tup []) (fun b ob q => Heap.get?_push_of_some _ q) (Nat.le_refl _) ?_, rfl, q _ (I.hok.fresh (Nat.le_refl _))⟩
  exact ⟨Nat.zero_le _, [], .nil, IsTup.new _ _⟩
end
section
variable {K : PySem.W.Frag} {cl : Str → Option Addr}
def repT : PV → PV → Res PV
  | .tup xs, .int k =>
    if -(2 ^ 63) ≤ k ∧ k < 2 ^ 63 ∧ (xs.length = 0 ∨ k = 1) then .val (.tup xs)
    else if -(2 ^ 63) ≤ k ∧ k ≤ 0 ∧ xs.length ≠ 0 then .val (.tup [])
    else if xs.length ≠ 0 ∧ 2 ≤ k ∧ k ≤ 1000 ∧ xs.length ≤ 1000 then .val (.tup (List.replicate k.toNat xs).flatten)
    else .stuck
  | _, _ => .stuck
def rRepTV (K : PySem.W.Frag) : R2 := rOr (rRepT1 K) (rOr (rRepT0 K) (rRepT K))
theorem o2_repT : Op2 K cl (rRepTV K) repT := fun A H x y p q Q E hA ix iy w => by
  unfold repT at w
  split at w
  · cases ix with
    | tup h l =>
    cases isV_int iy
    split at w
    · next c =>
      refine .inl ⟨_, _, _, rfl, rfl, frz_sub.sqT h, c.1, c.2.1, ?_, w _ H .refl (.tup h l)⟩
      rcases c.2.2 with e | e
      · exact .inl (List.eq_nil_of_length_eq_zero (by rw [l.len]; exact e))
      · exact .inr e
    · split at w
      · next c =>
        refine .inr (.inl ⟨_, _, _, rfl, rfl, frz_sub.sqT h, c.1, c.2.1, fun e => c.2.2 (by rw [← l.len, e]; rfl), fun p hp => w _ _ (sub_new hp _) (new_tup hA hp .nil)⟩)
      · split at w
        · next c =>
          refine .inr (.inr ⟨_, _, _, rfl, rfl, frz_sub.sqT h, fun e => c.1 (by rw [← l.len, e]; rfl), c.2.1, c.2.2.1, by rw [l.len]; exact c.2.2.2, fun p hp => w _ _ (sub_new hp _) (new_tup hA hp (l.reps _))⟩)
        · exact w.elim
  · exact w.elim
def mulPT : PV → PV → Res PV := orS mulP repT
def rMulVT (K : PySem.W.Frag) : R2 := rOr rMulV (rRepTV K)
theorem o2_mulT : Op2 K cl (rMulVT K) mulPT := o2_or o2_mul o2_repT
theorem op_mulVT (K : PySem.W.Frag) {X : Cx} (e : X.K = K) : OpR X (binaryOp .Mult) (rMulVT K) := by
  subst e
  exact op_mulV.or (op_repT1.or (op_repT0.or op_repT))
end
/-! ### sum of a tuple -/
section
open PySem.Spec PyProof.Rows
theorem sumT_raw {prog : Program} {w : World} {A : Around} {E : Value → Shared → Prop} {s : Shared} {Q : Value → Shared → Prop} {l : Addr} {its : List Value} {ns : List Int} (hh : A.handled = none) (hl : s.heap.IsTuple l its.toArray) (hi : IntsAre its ns)
    (h : ∀ h' tk t', (∀ b o, s.heap.get? b = some o → h'.get? b = some o) → Q (.int ns.sum t') { s with heap := h', toks := tk }) : wpAny (model prog w) A (call (.builtin "sum") [.ref l]) Q E s := by
  obtain ⟨xs, e⟩ := hi.allInts.items
  have hn : numsOf (intItems xs).toList = ns := by rw [← e]; exact hi.numsOf
  rw [nums_intItems] at hn
  rw [e] at hl
  have hlt : l < s.heap.objs.size := by obtain ⟨_, e, _⟩ := hl; exact Heap.lt_size e
  refine call_sum_walkG (wpAny_pyIter_tuple hl ?_)
  refine ⟨_, [s.heap.objs.size, l], [s.heap.objs.size], _, _, _, numAt xs, rfl, Walks.tuple (A := A.in1) hh _ l (Nat.ne_of_lt hlt) (intItems xs), ⟨⟨_, Heap.get?_push_size _ rfl, rfl, rfl⟩, hl.push _⟩, fun b hb => ?_, (fun _ _ => intItems_at), fun h' tk t' hk => ?_⟩
  · show b < (s.heap.push _).objs.size
    rw [Heap.size_push]
    rcases List.mem_cons.mp hb with rfl | hb
    · exact Nat.lt_succ_self _
    · rcases List.mem_cons.mp hb with rfl | hb
      · exact Nat.lt_succ_of_lt hlt
      · cases hb
  · have := h h' tk t' fun b o eo => hk b o (fun hm => by
      have : b = s.heap.objs.size := by simpa using hm
      exact absurd (this ▸ Heap.lt_size eo) (Nat.lt_irrefl _)) (Heap.get?_push_of_some _ eo)
    have e2 : preSum (numAt xs) (intItems xs).size = ns.sum := by
      have : (intItems xs).size = xs.size := by simp [intItems]
      rw [this, preSum_eq, List.take_of_length_le (by simp), hn]
    rw [e2]
    exact this
def rSumT (K : PySem.W.Frag) : List V → Hp → VK → Prop := fun vs H Q => ∃ (a : Addr) (ns : List Int), vs = [V.ref a] ∧ SqT K H a (ns.map V.int) ∧ Q (.int ns.sum) H
theorem cr_sumT {X : Cx} (hc : X.calm = true) : CallR X (.builtin "sum") (rSumT X.K) := by
  intro pins s σ H vs us Q I r h
  obtain ⟨a, ns, rfl, hs, q⟩ := h
  obtain ⟨its, rv, hl, _⟩ := I.tuple hs
  rw [Vals.ref1 r]
  refine sumT_raw (I.ok.hd hc) hl rv.ints fun h' tk t' hk => ⟨.int _, H, I.kept hk, ⟨_, rfl⟩, q⟩
end
section
variable {K : PySem.W.Frag} {cl : Str → Option Addr}
def rSumV (K : PySem.W.Frag) : List V → Hp → VK → Prop := cOr (rSum K) (rSumT K)
theorem cr_sumVT (K : PySem.W.Frag) {X : Cx} (e : X.K = K) (hc : X.calm = true) : CallR X (.builtin "sum") (rSumV K) := by
  subst e
  exact (cr_sum hc).or (cr_sumT hc)
def sumPT (p : PV) : Res PV := asSq p >>= fun ps => match allI ps with
  | some is => .val (.int is.sum)
  | none => .stuck
theorem b1_sumT : Bi1 K cl (rSumV K) sumPT := fun A H x p Q E hA ix w => by
  obtain ⟨a, vs, ps, rfl, hs, hl, w⟩ := wp_asSq (wp_bind.mp w) ix
  split at w
  · next is e =>
    cases allI_eq e
    cases hl.ints
    rcases hs with hs | hs
    · exact .inr ⟨a, is, rfl, hs, w _ H .refl (.int _)⟩
    · exact .inl ⟨a, is, rfl, hs, w _ H .refl (.int _)⟩
  · exact w.elim
end
/-! ### making, methods: the wish for an exception may hang on the slots -/
section
open PySem.Spec PyProof.Rows
variable {X : Cx} {CX : CXT} {k : Nat} {f C : Addr} {fd : FuncData} {ps : List Str} {sp : Sp} {E : L2.St → XK} {x m : Str} {p pos apos : Pos} {e o : Expr} {es : List Expr} {ta t1 t2 : TE} {t : TA}
theorem PE.either (h1 : PE X e t1) (h2 : PE X e t2) : PE X e (fun σ H Q => t1 σ H Q ∨ t2 σ H Q) :=
  ⟨fun pins s σ H Q I h => h.elim (fun q => h1.run pins s σ H Q I q) fun q => h2.run pins s σ H Q I q⟩
def tMakeS (C : Addr) (sp : Sp) (E : L2.St → XK) (t : TA) : TE := fun σ H Q => t σ H fun vs H1 => ∀ x dx, H1 x = none → H1 dx = none → dx ≠ x →
  sp (.ref x :: vs) (upd (upd H1 dx (.own x)) x (.ins C dx [])) (fun v H2 => v = .non ∧ Q (.ref x) H2) (E σ)
theorem run_makeS {pins : List (Addr × Obj)} {σ : L2.St} {H : Hp} {s : Shared} {Q : VK} {us : List Value} {vs : List V} (M : Mk X.K C f) (F : FnOk X.prog X.w X.K X.mg X.base CX k f fd ps sp) (hr : Room (k + 1) X.A) (hb : Binds X.K fd ps [])
    (hx : PassesAt CX X σ (E σ)) (I : Inv X pins σ H s) (r : Vals vs us)
    (h : ∀ x dx, H x = none → H dx = none → dx ≠ x → sp (.ref x :: vs) (upd (upd H dx (.own x)) x (.ins C dx [])) (fun v H2 => v = .non ∧ Q (.ref x) H2) (E σ)) :
    wpAny (model X.prog X.w) X.A (call (.ref C) us) (EP X pins σ Q) X.xe s := by
  have hq := h (s.heap.objs.size + 1) s.heap.objs.size (I.hok.fresh (Nat.le_succ _)) (I.hok.fresh (Nat.le_refl _)) (Nat.ne_of_lt (Nat.lt_succ_self _))
  have I2 := Inv.made (C := C) I
  have r2 : Vals (V.ref (s.heap.objs.size + 1) :: vs) (Value.ref (s.heap.objs.size + 1) :: us) := .cons rfl r
  have hl : ((Value.ref (s.heap.objs.size + 1) :: us) ++ []).length = ps.length := by
    have e := r2.length
    rw [F.len _ _ _ _ hq] at e
    rw [List.append_nil]
    exact e.symm
  refine wpAny_call (make_map (f := f) I.kIn M.makes M.init (beq_iff_eq.mp M.fn) (codeAny_mono (F.run _ X.stack _ _ ⟨Value.ref (s.heap.objs.size + 1) :: us, []⟩ (Value.ref (s.heap.objs.size + 1) :: us) _ _ (E σ) (hr.make C us [])
    (I2.env0.make C us []) (by have := hb _ (Value.ref (s.heap.objs.size + 1) :: us) I2.kIn hl; rwa [List.append_nil] at this) r2 hq) fun r s' hq' => ?_))
  cases r with
  | error e => exact hx pins _ _ e s' I2 hq'
  | ok fl =>
    cases fl with
    | ret u =>
      obtain ⟨v, H', I3, rv, ev, q3⟩ := I2.after hq'
      subst ev
      exact ⟨rv, ⟨V.ref (s.heap.objs.size + 1), H', I3, rfl, q3⟩⟩
    | next => exact False.elim hq'
    | brk => exact False.elim hq'
    | cont => exact False.elim hq'
theorem pe_makeS (M : Mk X.K C f) (F : FnOk X.prog X.w X.K X.mg X.base CX k f fd ps sp) (hr : Room (k + 1) X.A) (hg : Gl X x) (hm : X.mg x = some (.ref C)) (hb : Binds X.K fd ps []) (hx : ∀ σ, PassesAt CX X σ (E σ))
    (ha : PA X (e :: es) t) (hdb : (x == ("__debug__" : Str)) = false := by decide) (he : starEach (e :: es) X.env = (false, eval e X.env) :: starEach es X.env := by rfl) (hpl : (backTo pos (starEach es X.env)).any (·.1) = false := by rfl) :
    PE X (.Call (.Name x p) (e :: es) [] pos) (tMakeS C sp E t) := by
  refine ⟨fun pins s σ H Q I h => ?_⟩
  refine wpAny_Call_Name_kw (ld_glob I hg hm ?_ hdb)
  refine PySem.W.callWith_K (h₀ := X.base) I.ok.mod.kin M.kp (thn (ha.run pos pins s σ H _ I h) fun us s1 ⟨vs, H1, I1, r, q⟩ => ⟨I1.kIn, ?_⟩) he hpl
  exact run_makeS M F hr hb (hx σ) I1 r q
def tMethS' (C : Addr) (m : Str) (sp : Sp) (E : L2.St → XK) (ta : TE) (t : TA) : TE := fun σ H Q => ta σ H fun x H1 => ∃ a dx fs, x = .ref a ∧ H1 a = some (.ins C dx fs) ∧ fs.lookup m = none ∧ t σ H1 fun vs H2 => sp (x :: vs) H2 Q (E σ)
theorem pe_methT {pl : Sem Bool} (he : PE X o ta) (c : Cls X.K C) (hm : Meth X.K C m f) (F : FnOk X.prog X.w X.K X.mg X.base CX k f fd ps sp) (hr : Room k X.A) (hb : Binds X.K fd ps []) (hx : ∀ σ, PassesAt CX X σ (E σ)) (ha : PA X (e :: es) t)
    (hst : starEach (e :: es) X.env = (false, eval e X.env) :: starEach es X.env := by rfl) (hpl : (backTo pos (starEach es X.env)).any (·.1) = false := by rfl)
    (ht : eval (.Call (.Attribute o m apos) (e :: es) [] pos) X.env = (do
      let ov ← eval o X.env
      standAt apos.atName
      let (f, first) ← holding [ov] (getMethod ov m pl)
      callWith pos f first (backTo pos (starEach (e :: es) X.env)) (backToKw pos (keywordEach [] X.env))) := by rfl) :
    PE X (.Call (.Attribute o m apos) (e :: es) [] pos) (tMethS' C m sp E ta t) := by
  refine ⟨fun pins s σ H Q I h => ?_⟩
  refine PySem.W.methodCall_KW (pl := pl) (thn (he.run pins s σ H _ I h) fun u s1 ⟨x, H1, I1, rx, a, dx, fs, ex, ea, l, q⟩ => ?_) ht
  subst ex
  obtain rfl : u = Value.ref a := rx
  refine getmeth_ok I1 ea c hm l ?_
  refine PySem.W.callWith_K (first := [.ref a]) (h₀ := X.base) I.ok.mod.kin hm.kp (thn (ha.run pos pins s1 σ H1 _ I1 q) fun us s2 ⟨vs, H2, I2, r, q2⟩ => ⟨I2.kIn, ?_⟩) hst hpl
  exact run_fnS (us := .ref a :: us) (vs := .ref a :: vs) F hr hb (hx σ) I2 (.cons rfl r) q2
theorem pe_methT0 {pl : Sem Bool} (he : PE X o ta) (c : Cls X.K C) (hm : Meth X.K C m f) (F : FnOk X.prog X.w X.K X.mg X.base CX k f fd ps sp) (hr : Room k X.A) (hb : Binds X.K fd ps []) (hx : ∀ σ, PassesAt CX X σ (E σ))
    (ht : eval (.Call (.Attribute o m apos) [] [] pos) X.env = (do
      let ov ← eval o X.env
      standAt apos.atName
      let (f, first) ← holding [ov] (getMethod ov m pl)
      callWith pos f first (backTo pos (starEach [] X.env)) (backToKw pos (keywordEach [] X.env))) := by rfl) :
    PE X (.Call (.Attribute o m apos) [] [] pos) (tMethS' C m sp E ta tNil) := by
  refine ⟨fun pins s σ H Q I h => ?_⟩
  refine PySem.W.methodCall_KW (pl := pl) (thn (he.run pins s σ H _ I h) fun u s1 ⟨x, H1, I1, rx, a, dx, fs, ex, ea, l, q⟩ => ?_) ht
  subst ex
  obtain rfl : u = Value.ref a := rx
  refine getmeth_ok I1 ea c hm l ?_
  exact PySem.W.callWith_K0 (first := [.ref a]) I1.kIn hm.kp (run_fnS (us := [.ref a]) (vs := [.ref a]) F hr hb (hx σ) I1 (.cons rfl .nil) q)
end
/-! ### things of classes: made, their methods, their fields stored -/
def putFP (f : Str) (p : PV) : List (Str × PV) → List (Str × PV)
  | [] => [(f, p)]
  | (g, x) :: r => if g = f then (g, p) :: r else (g, x) :: putFP f p r
section
variable {K : PySem.W.Frag} {cl : Str → Option Addr} {F : Hp}
theorem IsF.len : ∀ {vs : List (Str × V)} {fs : List (Str × PV)}, IsF K cl F vs fs → vs.length = fs.length
  | _, _, .nil => rfl
  | _, _, .cons _ r => congrArg (· + 1) (IsF.len r)
theorem IsF.put {f : Str} {v : V} {p : PV} (i : Is K cl F v p) : ∀ {vs : List (Str × V)} {fs : List (Str × PV)}, IsF K cl F vs fs → IsF K cl F (putF f v vs) (putFP f p fs)
  | _, _, .nil => .cons i .nil
  | (g, _) :: _, _, .cons a r => by
    unfold putF putFP
    by_cases c : g = f
    · rw [if_pos c, if_pos c]; exact .cons i r
    · rw [if_neg c, if_neg c]; exact .cons a (IsF.put i r)
end
def setF (cs : List Str) (C : Str) (fs : List (Str × PV)) (f : Str) (x : PV) : Res (List (Str × PV)) := if C ∈ cs ∧ fs.length < 1000 then .val (putFP f x fs) else .stuck
def frO : PV × MO → Res PV
  | (.non, .ob C fs) => .val (.ins C fs)
  | _ => .stuck
section
variable (K : PySem.W.Frag) (cl : Str → Option Addr)
/-- an __init__: its first argument is lent and changed; it may raise -/
def spI (mf : MO → List PV → Res (PV × MO)) : Sp := fun vs H Q E => ∃ O b mo us ps, vs = .ref b :: us ∧ b ∈ O ∧ (∀ a, a ∈ O → ∃ o, H a = some o) ∧ MoIs K cl (frz H O) H b mo ∧ IsL K cl (frz H O) us ps ∧
  wp (mf mo ps) (fun r => ∀ v H', (∀ x o, x ≠ b → H x = some o → H' x = some o) → MoIs K cl (frz H' O) H' b r.2 → Is K cl (frz H' O) v r.1 → Q v H') (fun c => ∀ C H', cl c = some C → (∀ x o, x ≠ b → H x = some o → H' x = some o) → E (.ref C) none H')
end
section
variable {K : PySem.W.Frag} {cl : Str → Option Addr} {W : WX} {bs O A A1 B : List Addr} {F H H' H1 : Hp} {ρ ρ' ρx ρh : Ro} {σ : St} {S S1 S2 L : Type} {ρs : S → Ro} {ρn : S1 → Ro} {ρl : L → Ro} {D : Ends} {t u v tb t1 t2 : TS} {te ta tc td : TE} {m ma mb : Res PV} {tr : TA} {ml : Res (List PV)}
theorem run_setfld {i : Nat} {s : Slot} {C f : Str} {cs : List Str} {fs : List (Str × PV)} {n : List (Str × PV) → Res (Fl S1 L)} (hF : ∀ C, C ∈ cs → ∀ c, cl C = some c → Cls K c ∧ NoAttr K c f) (hi : ρ[i]? = some s) (hs : s = .ow (.ob C fs) ∨ ∃ k, s = .rf k (.ob C fs)) (he : Pur K cl W te ρ m) (w : Wk ρ ρx)
    (h : ∀ gs, Runs K cl W u (ρ.set i (reSl s (.ob C gs))) (n gs) ρn ρl ρx) :
    Runs K cl W (tSeq (sFld K (tVar i) te f) u) ρ (m >>= fun x => setF cs C fs f x >>= n) ρn ρl ρx := fun O bs σ H D R hb q => by
  have got : ∃ a c dx vs, σ[i]? = some (some (.ref a)) ∧ cl C = some c ∧ H a = some (.ins c dx vs) ∧ IsF K cl (frz H (O ++ adr ρ σ)) vs fs := by
    obtain ⟨x, e, q⟩ := R.sl.get hi
    rcases hs with rfl | ⟨k, rfl⟩
    · obtain ⟨a, rfl, c, dx, vs, h0, h1, h2⟩ := q; exact ⟨a, c, dx, vs, e, h0, h1, h2⟩
    · obtain ⟨a, rfl, _, c, dx, vs, h0, h1, h2⟩ := q; exact ⟨a, c, dx, vs, e, h0, h1, h2⟩
  obtain ⟨a, c, dx, vs, ha, hc, hv, hl⟩ := got
  refine he O bs σ H _ R (wp_mono (wp_bind.mp q) (fun x qx v H1 s1 ix => ?_) fun _ z => z.xw R w)
  have R1 := R.same s1
  have hl' := hl.mono (frz_same (A := O ++ adr ρ σ) s1)
  unfold setF at qx
  split at qx
  · next cc =>
    obtain ⟨c1, c2⟩ := hF C cc.1 c hc
    obtain ⟨R3, g3⟩ := R1.put (m' := .ob C (putFP f x fs)) (o := .ins c dx (putF f v vs)) hi (by rcases hs with e | ⟨k, e⟩; exact .inl e; exact .inr ⟨k, e⟩) ha ⟨c, dx, _, hc, upd_same, hl'.put ix⟩
    have g := (Gr.of (A := adr ρ σ) s1).trans g3
    exact ⟨_, ha, a, c, dx, vs, rfl, s1 _ _ hv, c1, c2, by rw [hl.len]; exact cc.2, h _ O bs σ _ D R3 hb (wp_mono qx (fun _ z => z.step g) fun _ z => z.step g)⟩
  · exact qx.elim
/-- a field of the thing under way -/
theorem pu_fldO {i : Nat} {s : Slot} {C f : Str} {cs : List Str} {fs : List (Str × PV)} (hF : ∀ C, C ∈ cs → ∀ c, cl C = some c → Cls K c ∧ NoAttr K c f) (hi : ρ[i]? = some s) (hs : s = .ow (.ob C fs) ∨ ∃ k, s = .rf k (.ob C fs)) :
    Pur K cl W (tFld K (tVar i) f) ρ (fldP cs f (.ins C fs)) := fun O bs σ H Q R q => by
  have got : ∃ a c dx vs, σ[i]? = some (some (.ref a)) ∧ cl C = some c ∧ H a = some (.ins c dx vs) ∧ IsF K cl (frz H (O ++ adr ρ σ)) vs fs := by
    obtain ⟨x, e, q⟩ := R.sl.get hi
    rcases hs with rfl | ⟨k, rfl⟩
    · obtain ⟨a, rfl, c, dx, vs, h0, h1, h2⟩ := q; exact ⟨a, c, dx, vs, e, h0, h1, h2⟩
    · obtain ⟨a, rfl, _, c, dx, vs, h0, h1, h2⟩ := q; exact ⟨a, c, dx, vs, e, h0, h1, h2⟩
  obtain ⟨a, c, dx, vs, ha, hc, hv, hl⟩ := got
  unfold fldP at q
  dsimp only at q
  split at q
  · next hC =>
    split at q
    · next p e =>
      obtain ⟨v, e2, iv⟩ := hl.look e
      obtain ⟨c1, c2⟩ := hF C hC _ hc
      exact ⟨_, ha, a, c, dx, vs, v, rfl, hv, c1, c2, e2, q v H .refl iv⟩
    · exact q.elim
  · exact q.elim
/-- C(..) -/
theorem pu_make {C : Str} {c : Addr} {mf : MO → List PV → Res (PV × MO)} (hc : cl C = some c) (hl : PurL K cl W tr ρ ml) : Pur K cl W (tMakeS c (spI K cl mf) (WE W) tr) ρ (ml >>= fun ps => mf (.ob C []) ps >>= frO) := fun O bs σ H Q R q => by
  refine hl O bs σ H _ R (wp_mono (wp_bind.mp q) (fun ps qs vs H1 s1 i1 => ?_) fun _ z => z)
  intro x dx hx hdx hne
  have R1 := R.same s1
  have sx : Sub H1 (upd (upd H1 dx (.own x)) x (.ins c dx [])) := fun y o e => by
    have n1 : y ≠ x := fun z => by rw [z, hx] at e; cases e
    have n2 : y ≠ dx := fun z => by rw [z, hdx] at e; cases e
    rw [upd_ne n1, upd_ne n2]; exact e
  have nx : x ∉ O ++ adr ρ σ := fun z => by obtain ⟨o, e⟩ := R1.got z; rw [hx] at e; cases e
  have sF : Sub (frz H1 (O ++ adr ρ σ)) (frz (upd (upd H1 dx (.own x)) x (.ins c dx [])) (x :: (O ++ adr ρ σ))) := fun y o e => by
    obtain ⟨n, e⟩ := frz_some.mp e
    refine frz_some.mpr ⟨fun z => ?_, sx _ _ e⟩
    rcases List.mem_cons.mp z with z | z
    · rw [z, hx] at e; cases e
    · exact n z
  refine ⟨x :: (O ++ adr ρ σ), x, .ob C [], vs, ps, rfl, List.mem_cons_self, fun a ha => ?_, ⟨c, dx, [], hc, upd_same, .nil⟩, i1.mono sF, wp_mono (wp_bind.mp qs) (fun r qr v H' hk hm iv => ?_) fun e qe C' H' he hk => ?_⟩
  · rcases List.mem_cons.mp ha with z | z
    · exact ⟨_, by rw [z]; exact upd_same⟩
    · obtain ⟨o, e⟩ := R1.got z
      exact ⟨o, sx _ _ e⟩
  · have sH : Sub H1 H' := fun y o e => hk y o (fun z => by rw [z, hx] at e; cases e) (sx _ _ e)
    unfold frO at qr
    split at qr
    · next C2 fs2 =>
      cases iv
      obtain ⟨c2, dx2, vs2, h0, h1, h2⟩ := hm
      refine ⟨rfl, qr _ H' (s1.trans sH) (.ins h0 (frz_some.mpr ⟨nx, h1⟩) (h2.mono (frz_less fun a ha => List.mem_cons_of_mem _ ha)))⟩
    · exact qr.elim
  · exact qe C' H' he (s1.trans fun y o e => hk y o (fun z => by rw [z, hx] at e; cases e) (sx _ _ e))
/-! methods -/
/-- the method of the thing, by its class -/
def sel : List (Str × (List PV → Res PV)) → Str → PV → Res (List PV → Res PV)
  | [], _, _ => .stuck
  | (C, f) :: D, m, x => match x with
    | .ins C' fs => if C' = C then (match fs.lookup m with
      | none => .val f
      | some _ => .stuck) else sel D m (.ins C' fs)
    | _ => .stuck
theorem sel_one {C : Str} {mf : List PV → Res PV} {mt : Str} {x : PV} {Q : (List PV → Res PV) → Prop} {E : Str → Prop} (h : wp (sel [(C, mf)] mt x) Q E) : ∃ fs, x = .ins C fs ∧ fs.lookup mt = none ∧ Q mf := by
  unfold sel at h
  cases x with
  | ins C' fs =>
    dsimp only at h
    split at h
    · next e =>
      subst e
      split at h
      · next e2 => exact ⟨fs, rfl, e2, h⟩
      · exact h.elim
    · unfold sel at h; exact h.elim
  | _ => exact h.elim
theorem pu_meth {C : Str} {c : Addr} {mt : Str} {mf : List PV → Res PV} (hc : cl C = some c) (ha : Pur K cl W ta ρ ma) (hl : PurL K cl W tr ρ ml) :
    Pur K cl W (tMethS' c mt (spP K cl mf) (WE W) ta tr) ρ (ma >>= fun x => sel [(C, mf)] mt x >>= fun g => ml >>= fun ps => g (x :: ps)) := fun O bs σ H Q R q => by
  refine ha O bs σ H _ R (wp_mono (wp_bind.mp q) (fun x qx v1 H1 s1 i1 => ?_) fun _ z => z)
  have R1 := R.same s1
  obtain ⟨fs, rfl, e2, hw⟩ := sel_one (wp_bind.mp qx)
  have main : ∃ a dx vs, v1 = .ref a ∧ H1 a = some (.ins c dx vs) ∧ vs.lookup mt = none := by
    cases i1 with
    | ins h0 h1 h2 =>
      rw [hc] at h0
      cases h0
      exact ⟨_, _, _, rfl, frz_sub _ _ h1, h2.nolook e2⟩
  obtain ⟨a, dx, vs, e3, e4, e5⟩ := main
  refine ⟨a, dx, vs, e3, e4, e5, hl O bs σ H1 _ R1 (wp_mono (wp_bind.mp hw) (fun ps z us H2 s2 i2 => ?_) fun _ z C H' e s => z C H' e (s1.trans s))⟩
  exact ⟨O ++ adr ρ σ, .ins C fs :: ps, fun a h => ((R1.same s2).got h), .cons (i1.mono (frz_same s2)) i2, wp_mono z (fun r qr v H' s i => qr v H' (s1.trans (s2.trans s)) i) fun e qe C' H' he s => qe C' H' he (s1.trans (s2.trans s))⟩
theorem pu_meths {C mt : Str} {mf : List PV → Res PV} {D : List (Str × (List PV → Res PV))} {t1 t2 : TE} {n : PV → (List PV → Res PV) → Res PV} (h1 : Pur K cl W t1 ρ (ma >>= fun x => sel [(C, mf)] mt x >>= n x)) (h2 : Pur K cl W t2 ρ (ma >>= fun x => sel D mt x >>= n x)) :
    Pur K cl W (fun σ H Q => t1 σ H Q ∨ t2 σ H Q) ρ (ma >>= fun x => sel ((C, mf) :: D) mt x >>= n x) := fun O bs σ H Q R q => by
  cases ma with
  | exc c => exact .inl (h1 O bs σ H Q R q)
  | stuck => exact q.elim
  | val x =>
    cases x with
    | ins C' fs =>
      by_cases e : C' = C
      · refine .inl (h1 O bs σ H Q R ?_)
        have a : sel ((C, mf) :: D) mt (.ins C' fs) = sel [(C, mf)] mt (.ins C' fs) := by
          unfold sel
          dsimp only
          rw [if_pos e, if_pos e]
        show wp (sel [(C, mf)] mt (.ins C' fs) >>= _) _ _
        rw [← a]
        exact q
      · refine .inr (h2 O bs σ H Q R ?_)
        have a : sel ((C, mf) :: D) mt (.ins C' fs) = sel D mt (.ins C' fs) := by
          rw [sel]
          exact if_neg e
        show wp (sel D mt (.ins C' fs) >>= _) _ _
        rw [← a]
        exact q
    | _ => exact q.elim
end
/-! ### a def of a class that names its class (super): how it is entered -/
section
open PySem.Spec PyProof.Rows
theorem cells_app : ∀ (ns : List (Str × NameKind)) (n : Nat) (acc : List (Str × Addr)), cellsFrom n ns acc = cellsFrom n ns [] ++ acc
  | [], _, _ => rfl
  | (x, kd) :: r, n, acc => by
    unfold cellsFrom
    by_cases c : (kd == NameKind.cell) = true
    · rw [if_pos c, if_pos c, cells_app r (n + 1) ((x, n) :: acc), cells_app r (n + 1) [(x, n)], List.append_assoc]
      rfl
    · rw [if_neg c, if_neg c]
      exact cells_app r n acc
/-- the frame of such a def: its own cells, then the cell of its class -/
abbrev envS (qual : Str) (sc : Scope) (L f cc : Addr) (cd : Value) : Env := PySem.W.envX qual sc L f cd (cellsFrom (L + 1) sc.names [] ++ [(("__class__" : Str), cc)])
variable {M : Model} {A : Around} {E : Value → Shared → Prop}
theorem look_app {C D : List (Str × Addr)} {n : Str} {c : Addr} (h : C.lookup n = some c) : (C ++ D).lookup n = some c := by
  rw [List.lookup_append, h]
  rfl
section
variable {b0 st : Shared} {ml mc : Str → Option Value} {ev : Env} {C : List (Str × Addr)} {n : Str} {u : Value}
theorem put_loc {R : Unit → Shared → Prop} (x : InCallC b0 ev.locals ml C mc st) (kf : ev.scope.kind = .function) (kn : ev.kindOf n = some .local)
    (h : ∀ t, InCallC b0 ev.locals (fun y => if y = n then some u else ml y) C mc t → R () t) : wpAny M A (storeName ev n u) R E st := by
  refine wpAny_storeName_local kn x.toInCall.ns (fun g gn sb => h _ ?_) (by rw [kf]; rfl)
  refine ⟨⟨?_, gn, fun b o e => ?_, x.toInCall.fresh⟩, fun k c hc => ?_, x.apart, x.above⟩
  · obtain ⟨g0, tk, e0⟩ := x.toInCall.same
    subst e0
    exact ⟨g, _, rfl⟩
  · have lt := Heap.lt_size e
    have fr := x.toInCall.fresh
    exact sb.extBut b o (Nat.ne_of_lt (Nat.lt_of_lt_of_le lt fr)) (x.toInCall.keep b o e)
  · have ab := x.above k c (mem_of_lookup hc)
    exact (x.cell k c hc).sameBut sb (Nat.ne_of_gt ab)
theorem put_cell {R : Unit → Shared → Prop} {c : Addr} (x : InCallC b0 ev.locals ml C mc st) (kf : ev.scope.kind = .function) (kn : ev.kindOf n = some .cell) (hc : C.lookup n = some c) (he : ev.cells.lookup n = some c)
    (h : ∀ t, InCallC b0 ev.locals ml C (fun y => if y = n then some u else mc y) t → R () t) : wpAny M A (storeName ev n u) R E st := by
  have ab := x.above n c (mem_of_lookup hc)
  refine wpAny_storeName_cell kf kn he (x.cell n c hc) fun g gc sb => h _ ?_
  refine ⟨⟨?_, x.toInCall.ns.sameBut sb (Nat.ne_of_lt ab), fun b o e => ?_, x.toInCall.fresh⟩, fun k c2 hk => ?_, x.apart, x.above⟩
  · obtain ⟨g0, tk, e0⟩ := x.toInCall.same
    subst e0
    exact ⟨g, _, rfl⟩
  · have lt := Heap.lt_size e
    have fr := x.toInCall.fresh
    exact sb.extBut b o (Nat.ne_of_lt (Nat.lt_trans (Nat.lt_of_lt_of_le lt fr) ab)) (x.toInCall.keep b o e)
  · by_cases q : k = n
    · subst q
      rw [hc] at hk
      cases hk
      simpa using gc
    · rw [if_neg q]
      exact (x.cell k c2 hk).sameBut sb fun z => q (name_of_addr x.apart (mem_of_lookup hk) (z ▸ mem_of_lookup hc))
theorem put_all (f : Str × Value → PUnit → Sem (ForInStep PUnit)) (hf : ∀ y v u, f (y, v) u = (do storeName ev y v; pure (.yield ⟨⟩))) (kf : ev.scope.kind = .function) (sub : ∀ y c, C.lookup y = some c → ev.cells.lookup y = some c) :
    ∀ (bs : List (Str × Value)) (ml mc : Str → Option Value) (st : Shared) (R : PUnit → Shared → Prop), InCallC b0 ev.locals ml C mc st →
      (∀ y ∈ bs, ev.kindOf y.1 = some .local ∨ (ev.kindOf y.1 = some .cell ∧ ∃ c, C.lookup y.1 = some c)) →
      (∀ t, InCallC b0 ev.locals (bindL ev.kindOf bs ml) C (bindC ev.kindOf bs mc) t → R ⟨⟩ t) → wpAny M A (forIn bs ⟨⟩ f) R E st
  | [], _, _, st, _, x, _, h => by
    rw [List.forIn_nil]
    exact wpAny_pure (h st x)
  | (y, v) :: r, ml, mc, st, R, x, kd, h => by
    have kr := fun z hz => kd z (List.mem_cons_of_mem _ hz)
    rw [List.forIn_cons, hf]
    rcases kd (y, v) List.mem_cons_self with l | ⟨l, c, hc⟩
    · refine wpAny_bind (wpAny_bind (put_loc x kf l fun t xt => wpAny_pure (put_all f hf kf sub r _ _ t R xt kr fun t2 x2 => h t2 ?_)))
      unfold bindL bindC
      rw [if_pos l, if_pos l]
      exact x2
    · have nl : ¬ ev.kindOf y = some .local := by
        rw [show ev.kindOf y = some .cell from l]
        decide
      refine wpAny_bind (wpAny_bind (put_cell x kf l hc (sub y c hc) fun t xt => wpAny_pure (put_all f hf kf sub r _ _ t R xt kr fun t2 x2 => h t2 ?_)))
      unfold bindL bindC
      rw [if_neg nl, if_neg nl]
      exact x2
end
theorem env_new {st : Shared} {sc : Scope} {gl : Addr} {bs : List (Str × Value)} {qual : Str} {fu : Option Addr} {cd : Value} {bl : Addr} {R : Env → Shared → Prop} {D : List (Str × Addr)} (kf : sc.kind = .function)
    (kd : ∀ y ∈ bs, sc.names.lookup y.1 = some .local ∨ (sc.names.lookup y.1 = some .cell ∧ ∃ c, (cellsFrom (st.heap.objs.size + 1) sc.names []).lookup y.1 = some c))
    (h : ∀ ev, ev = newEnv sc st.heap.objs.size gl (cellsFrom (st.heap.objs.size + 1) sc.names [] ++ D) qual fu cd none bl →
      ∀ t, InCallC st ev.locals (bindL ev.kindOf bs fun _ => none) (cellsFrom (st.heap.objs.size + 1) sc.names []) (bindC ev.kindOf bs fun _ => none) t → R ev t) :
    wpAny M A (newFunctionEnv sc gl D bs qual fu cd none bl) R E st := by
  simp only [newFunctionEnv, Option.isSome_none, Bool.false_eq_true, if_false]
  refine wpAny_bind (wpAny_alloc ?_)
  have sz : ({ st with heap := st.heap.push { cls := .type "frame", data := .dict #[] } } : Shared).heap.objs.size = st.heap.objs.size + 1 := Heap.size_push ..
  refine wpAny_bind (wpAny_layCells _ (fun x k cs => by cases q : k == NameKind.cell <;> simp) _ _ _ _ ?_)
  have ok := cellsFrom_ok sc.names (st.heap.push { cls := .type "frame", data := .dict #[] }) (st.heap.objs.size + 1) [] ⟨fun _ _ z => (nomatch z), List.Pairwise.nil⟩ (by rw [Heap.size_push]; exact Nat.le_refl _)
  rw [Heap.size_push] at ok
  rw [sz, cells_app]
  refine wpAny_bind (put_all (b0 := st) (C := cellsFrom (st.heap.objs.size + 1) sc.names []) (ev := newEnv sc st.heap.objs.size gl (cellsFrom (st.heap.objs.size + 1) sc.names [] ++ D) qual fu cd none bl)
    _ (fun _ _ _ => rfl) kf (fun y c z => look_app z) bs (fun _ => none) (fun _ => none) _ _ ?_ kd fun t x => wpAny_pure (h _ rfl t x))
  have keep := fun b o (e : st.heap.get? b = some o) => pushCells_keeps sc.names _ b o (Heap.get?_push_of_some { cls := .type "frame", data := .dict #[] } e)
  exact ⟨⟨⟨_, _, rfl⟩, (Heap.Ns.new st.heap (.type "frame")).keeps (pushCells_keeps _ _), keep, Nat.le_refl _⟩, fun y c z => (ok.empty y c (mem_of_lookup z)).1, ok.apart, fun y c z => (ok.empty y c z).2⟩
structure ScopeS (N P : List Str) (sc : Scope) : Prop where
  kind : sc.kind = .function
  co : sc.isCoroutine = false
  gen : sc.isGenerator = false
  nd : N.Nodup
  pre : N.take P.length = P
  par : ∀ x ∈ P, sc.names.lookup x = some .local ∨ sc.names.lookup x = some .cell
  fr : ∀ y ∈ sc.names, y.2 = .free → y.1 = ("__class__" : Str)
/-- the context of its body at the entry -/
def cxS (CX : CXT) (P : Program) (w : World) (K : PySem.W.Frag) (mg : Str → Option Value) (base : Heap) (N : List Str) (qual : Str) (sc : Scope) (f cc : Addr) (cd : Value) (A : Around) (outer : List Env) (s : Shared) (H : Hp) (E : XK) : Cx where
  prog := P
  w := w
  K := K
  mg := mg
  base := base
  A := A.deeper (envS qual sc s.heap.objs.size f cc cd)
  N := N
  s_0 := s
  H_0 := H
  env := envS qual sc s.heap.objs.size f cc cd
  outer := outer
  stack := envS qual sc s.heap.objs.size f cc cd :: outer
  ex := []
  calm := true
  fn := fun y => !(y == ("__class__" : Str))
  pn := []
  xe := fun e t => wpAny (model P w) (A.deeper (envS qual sc s.heap.objs.size f cc cd)) (leaving (envS qual sc s.heap.objs.size f cc cd) e) (fun _ t2 => CX outer H s E e t2) (fun e2 t2 => CX outer H s E e2 t2) t
theorem look_two {C : List (Str × Addr)} {x y : Str} {c d : Addr} (h : (C ++ [(x, d)]).lookup y = some c) : C.lookup y = some c ∨ (y = x ∧ c = d) := by
  rw [List.lookup_append] at h
  cases e : C.lookup y with
  | some z =>
    rw [e] at h
    exact .inl h
  | none =>
    rw [e] at h
    have h : List.lookup y [(x, d)] = some c := h
    have m := mem_of_lookup h
    have m := List.mem_singleton.mp m
    cases m
    exact .inr ⟨rfl, rfl⟩
section
variable {CX : CXT} {P : Program} {w : World} {K : PySem.W.Frag} {mg : Str → Option Value} {base : Heap} {N ps : List Str} {qual : Str} {sc : Scope} {f cc D : Addr} {cd : Value} {A : Around} {outer : List Env} {s s1 : Shared} {H : Hp} {E : XK} {us : List Value} {vs : List V}
theorem inv_startS {cl : Value} {cld : Option Addr} {csl : Array (Option Value)} (S : ScopeS N ps sc) (hd : A.handled = none) (e0 : Env0 P w K mg base A outer s H) (kc : K.lookup cc = some ⟨cl, cld, .cell (some (.ref D)), csl⟩) (hl : vs.length = ps.length) (r : Vals vs us)
    (x : InCallC s s.heap.objs.size (bindL (envS qual sc s.heap.objs.size f cc cd).kindOf (ps.zip us) fun _ => none) (cellsFrom (s.heap.objs.size + 1) sc.names []) (bindC (envS qual sc s.heap.objs.size f cc cd).kindOf (ps.zip us) fun _ => none) s1) :
    Inv (cxS CX P w K mg base N qual sc f cc cd A outer s H E) [] (start N vs) H s1 := by
  have pn : ps.length ≤ N.length := by
    have q := congrArg List.length S.pre
    rw [List.length_take] at q
    omega
  obtain ⟨h1, tk, rfl, hk⟩ := x.done
  have none' : ∀ b : Addr, b ∉ (cxS CX P w K mg base N qual sc f cc cd A outer s H E).ex := fun b z => absurd (show b ∈ ([] : List Addr) from z) (by simp)
  have kb := e0.mod.kin _ _ kc
  have cb := (e0.bs _ _ kb).1
  have clt : cc < s.heap.objs.size := Heap.lt_size cb
  have two : ∀ y c, (cxS CX P w K mg base N qual sc f cc cd A outer s H E).env.cells.lookup y = some c → (cellsFrom (s.heap.objs.size + 1) sc.names []).lookup y = some c ∨ (y = ("__class__" : Str) ∧ c = cc) := fun y c h => look_two h
  refine ⟨⟨e0.mod, S.kind, rfl, rfl, Nat.le_refl _, fun y z c q1 q2 => ?_, fun y hy => ?_, fun y c hf h => ?_, fun _ => hd, Around.frames_deeper e0.frames, .inr ⟨rfl, rfl⟩, fun b z => absurd z (none' b), e0.bs, e0.bsz, fun b _ _ => none' b, fun b z => absurd z (none' b), e0.funs, e0.frf⟩,
    rfl, e0.bare, Un.kept hk, ⟨_, x.toInCall.ns, fun i y v q1 q2 q3 => ?_⟩, fun y c h => ?_, e0.hok.fresh (Nat.le_refl _), fun y c h => ?_, fun p hp => absurd (show p ∈ ([] : List (Addr × Obj)) from hp) (by simp), e0.hok.kept hk, ?_⟩
  · rcases two y c q1 with a1 | ⟨a1, a2⟩
    · rcases two z c q2 with b1 | ⟨b1, b2⟩
      · exact name_of_addr x.apart (mem_of_lookup a1) (mem_of_lookup b1)
      · have ab := x.above y c (mem_of_lookup a1)
        rw [b2] at ab
        exact absurd (Nat.lt_trans clt ab) (Nat.lt_irrefl _)
    · rcases two z c q2 with b1 | ⟨b1, b2⟩
      · have ab := x.above z c (mem_of_lookup b1)
        rw [a2] at ab
        exact absurd (Nat.lt_trans clt ab) (Nat.lt_irrefl _)
      · rw [a1, b1]
  · have hy : sc.names.lookup y = some .cell ∨ sc.names.lookup y = some .free := hy
    rcases hy with hy | hy
    · obtain ⟨c, e⟩ := cell_has (n := s.heap.objs.size + 1) hy
      exact ⟨c, look_app e⟩
    · have e := S.fr _ (mem_of_lookup hy) rfl
      have e : y = ("__class__" : Str) := e
      subst e
      show ∃ c, (cellsFrom (s.heap.objs.size + 1) sc.names [] ++ [(("__class__" : Str), cc)]).lookup ("__class__" : Str) = some c
      rw [List.lookup_append]
      cases q : (cellsFrom (s.heap.objs.size + 1) sc.names []).lookup ("__class__" : Str) with
      | some c => exact ⟨c, rfl⟩
      | none => exact ⟨cc, by simp [List.lookup]⟩
  · rcases two y c h with a1 | ⟨a1, a2⟩
    · exact Nat.le_of_lt (x.above y c (mem_of_lookup a1))
    · subst a1
      have hf : (!(("__class__" : Str) == ("__class__" : Str))) = true := hf
      rw [beq_self_eq_true] at hf
      cases hf
  · have hi : i < vs.length := by
      refine Classical.byContradiction fun hi => ?_
      unfold L2.start at q2
      rw [List.getElem?_append_right (by rw [List.length_map]; omega), List.getElem?_replicate] at q2
      split at q2 <;> cases q2
    have ha : vs[i]? = some v := by
      unfold L2.start at q2
      rw [List.getElem?_append_left (by rw [List.length_map]; exact hi), List.getElem?_map, List.getElem?_eq_getElem hi] at q2
      rw [List.getElem?_eq_getElem hi]
      exact Option.some.inj q2
    obtain ⟨u, hu, rv⟩ := r.get ha
    have hp : ps[i]? = some y := by
      rw [← S.pre, List.getElem?_take_of_lt (by omega)]
      exact q1
    have ndP : ps.Nodup := by
      rw [← S.pre]
      exact S.nd.sublist (List.take_sublist _ _)
    refine ⟨u, rv, ?_⟩
    rcases S.par y (List.mem_of_getElem? hp) with k | k
    · exact .inl ⟨k, bindL_get ndP hp hu k⟩
    · obtain ⟨c, e⟩ := cell_has (n := s.heap.objs.size + 1) k
      have q := x.cell y c e
      rw [bindC_get ndP hp hu (by show sc.names.lookup y ≠ _; rw [k]; decide)] at q
      exact .inr ⟨.inl k, c, look_app e, q⟩
  · rcases two y c h with a1 | ⟨_, a2⟩
    · exact ⟨_, x.cell y c a1⟩
    · rw [a2]
      exact ⟨_, _, hk _ _ cb, rfl⟩
  · rcases two y c h with a1 | ⟨_, a2⟩
    · exact e0.hok.fresh (Nat.le_of_lt (x.above y c (mem_of_lookup a1)))
    · rw [a2]
      exact (e0.bs _ _ kb).2
  · unfold L2.start
    show _ = N.length
    rw [List.length_append, List.length_map, List.length_replicate]
    omega
end
/-- statements run where the innermost code is known -/
structure PAt (X : Cx) (c : Code) (ss : List Stmt) (t : TS) : Prop where
  run : ∀ (pins : List (Addr × Obj)) (s : Shared) (σ : L2.St) (H : Hp) (D : Ends), Inv X pins σ H s → t D σ H → _root_.PySem.wpAt (model X.prog X.w) X.A c (execs ss X.env) (SP X pins D) X.xe s
theorem pat_cons {X : Cx} {c : Code} {st : Stmt} {ss : List Stmt} {t u : TS} (h : PS X st t) (r : PAt X c ss u) : PAt X c (st :: ss) (tSeq t u) := by
  refine ⟨fun pins s σ H D I q => ?_⟩
  refine ks_wpAt_execs_cons (wpAt_of_wpAny (thn (h.run pins s σ H { D with nx := u D } I q) fun f s1 z => ?_))
  cases f with
  | next =>
    obtain ⟨σ', H', I', z⟩ := z
    exact r.run pins s1 σ' H' D I' z
  | ret v => exact z
  | brk => exact z
  | cont => exact z
/-- such a def as it stands behind the top -/
structure FunS (K : PySem.W.Frag) (x qual : Str) (st : Stmt) (f D cc cda : Addr) (fd : FuncData) : Prop where
  ex : ∃ (oc : Value) (od : Option Addr) (kV doc pm : Value) (an : Option Addr) (ct : Value) (osl : Array (Option Value)),
    fd = PySem.W.fnX x qual (defArgs st) (defBody st) (defScope st) [(("__class__" : Str), cc)] .none kV doc pm an (.ref cda) ct ∧ K.lookup f = some ⟨oc, od, .func fd, osl⟩
  rec' : PySem.W.codeIn K (.ref cda) qual = true
  cell : ∃ (cl : Value) (cld : Option Addr) (csl : Array (Option Value)), K.lookup cc = some ⟨cl, cld, .cell (some (.ref D)), csl⟩
  kp : PySem.W.keepIn K (.ref f) = true
section
variable {CX : CXT} {P : Program} {w : World} {K : PySem.W.Frag} {mg : Str → Option Value} {base : Heap}
theorem FunS.ok {x qual : Str} {st : Stmt} {f D cc cda : Addr} {fd : FuncData} {N ps : List Str} {k : Nat} {sp : Sp} (F : FunS K x qual st f D cc cda fd) (S : ScopeS N ps (defScope st)) (len : ∀ vs H Q E, sp vs H Q E → vs.length = ps.length)
    (hb : ∀ (A : Around) (outer : List Env) (s : Shared) (H : Hp) (vs : List V) (Q : VK) (E : XK), Room k (A.deeper (envS qual (defScope st) s.heap.objs.size f cc (.ref cda))) → sp vs H Q E →
      ∃ t, PAt (cxS CX P w K mg base N qual (defScope st) f cc (.ref cda) A outer s H E) (.func (defBody st) (envS qual (defScope st) s.heap.objs.size f cc (.ref cda))) (defBody st) t ∧ t { nx := fun _ H2 => Q .non H2, rt := Q } (L2.start N vs) H) :
    FnOk P w K mg base CX (k + 1) f fd ps sp := by
  obtain ⟨oc, od, kV, doc, pm, an, ct, osl, rfl, lk⟩ := F.ex
  obtain ⟨cl, cld, csl, kc⟩ := F.cell
  refine ⟨len, fun A outer s H args us vs Q E hr e0 bd r hsp => ?_⟩
  have hl := len _ _ _ _ hsp
  have KX : K.In s.heap := e0.mod.kin.keeps fun b o e => (e0.bs b o e).1
  have lim : s.heap.NoLimit := e0.mod.nolimit.keeps fun b o e => (e0.bs b o e).1
  refine codeAny_call_function hr.depth (KX _ _ lk) rfl S.co S.gen rfl (PySem.W.codeRec_of KX F.rec') (bd _ _ _ _ ?_)
  refine env_new (D := [(("__class__" : Str), cc)]) S.kind (fun ⟨n, v⟩ hy => ?_) fun env he s1 x => ?_
  · rcases S.par n (List.of_mem_zip hy).1 with q | q
    · exact .inl q
    · exact .inr ⟨q, cell_has q⟩
  subst he
  refine ⟨lim.keeps x.toInCall.keep, PySem.ks_codeAny_funcAt ?_⟩
  obtain ⟨t, ht, hq⟩ := hb A outer s H vs Q E (hr.deeper _) hsp
  have I : Inv (cxS CX P w K mg base N qual (defScope st) f cc (.ref cda) A outer s H E) [] (L2.start N vs) H s1 := inv_startS S hr.hd e0 kc hl r x
  refine PySem.ks_wpAt_mono (ht.run [] s1 (L2.start N vs) H _ I hq) (fun fl s2 z => ?_) fun e s2 z => z
  have fin : ∀ {σ2 : L2.St} {H2 : Hp} {v : V} {u : Value}, Inv (cxS CX P w K mg base N qual (defScope st) f cc (.ref cda) A outer s H E) [] σ2 H2 s2 → RelV v u → Q v H2 → CE outer P w H s Q u s2 :=
    fun {σ2 H2 v u} J rv q => ⟨v, H2, J.os, J.bare, J.base, J.hok, rv, q⟩
  cases fl with
  | ret u =>
    obtain ⟨v, σ2, H2, J, rv, q⟩ := z
    exact fin J rv q
  | next =>
    obtain ⟨σ2, H2, J, q⟩ := z
    exact fin (v := V.non) (u := Value.none) J rfl q
  | brk =>
    obtain ⟨_, _, _, q⟩ := z
    exact False.elim q
  | cont =>
    obtain ⟨_, _, _, q⟩ := z
    exact False.elim q
end
/-- what of the text super().m(..) asks, in the def f of the class at D whose next m is g -/
structure Sup (K : PySem.W.Frag) (f D cc cda g : Addr) (fd : FuncData) (x m file : Str) : Prop where
  fn : ∃ (oc : Value) (od : Option Addr) (osl : Array (Option Value)), K.lookup f = some ⟨oc, od, .func fd, osl⟩
  hd : ∃ ar : Arg, (fd.params.posonlyargs ++ fd.params.args).head? = some ar ∧ ar.arg = x
  code : ∃ (a : Value) (b : Option Addr) (vs : Array Value) (c : Array (Option Value)) (tf : Tok), K.lookup cda = some ⟨a, b, .fields vs, c⟩ ∧ vs[2]? = some (.str file tf)
  cell : ∃ (cl : Value) (cld : Option Addr) (csl : Array (Option Value)), K.lookup cc = some ⟨cl, cld, .cell (some (.ref D)), csl⟩
  cls : PySem.W.isClsIn K D = true
  sub : PySem.W.mroIn K D (.ref D) = some true
  nxt : PySem.W.ks_superIn K D D m = some (some (.ref g))
  ty : PySem.W.typeIn K (.ref g) = some (.type "function")
  tp : PySem.W.nsIn K cStatics "thirdparty.any" = some none
def tSup (D : Addr) (sp : Sp) (E : XK) (t : TA) : TS := fun Dn σ H => ∃ a dx fs, σ[0]? = some (some (.ref a)) ∧ H a = some (.ins D dx fs) ∧ t σ H fun vs H1 => sp (.ref a :: vs) H1 (fun _ H2 => Dn.nx σ H2) E
section
variable {X : Cx} {CX : CXT} {body : List Stmt} {f D cc cda g : Addr} {fd gd : FuncData} {x m file : Str} {k : Nat} {ps : List Str} {sp : Sp} {E : XK} {e : Expr} {es : List Expr} {t : TA} {p0 p1 apos pos pos2 : Pos} {pl : Sem Bool}
theorem pat_super (U : Sup X.K f D cc cda g fd x m file) (F : FnOk X.prog X.w X.K X.mg X.base CX k g gd ps sp) (hr : Room k X.A) (hb : Binds X.K gd ps []) (hx : Passes CX X E) (hgf : PySem.W.fnIn X.K g = true) (ha : PA X (e :: es) t)
    (h0 : X.N[0]? = some x) (hl : X.env.kindOf x = some .local) (hks : X.env.kindOf "super" = some .globalImplicit) (hkc : X.env.kindOf "__class__" = some .free) (hcl : X.env.cells.lookup ("__class__" : Str) = some cc)
    (hfu : X.env.func = some f) (hco : X.env.code = .ref cda) (hmg : X.mg "super" = none) (hfile : (X.prog.main.file == file) = true) (htop : (X.prog.main.scope.names.lookup ("super" : Str)).isSome = false)
    (hat : (m == ("__class__" : Str)) = false) (hst : starEach (e :: es) X.env = (false, eval e X.env) :: starEach es X.env) (hpl : (backTo pos (starEach es X.env)).any (·.1) = false)
    (hsw : swapsWith (.Call (.Attribute (.Call (.Name "super" p0) [] [] p1) m apos) (e :: es) [] pos) none pos2.line X.env = pure false)
    (he : eval (.Call (.Attribute (.Call (.Name "super" p0) [] [] p1) m apos) (e :: es) [] pos) X.env = (do
      let ov ← attributeBase (.Call (.Name "super" p0) [] [] p1) m X.env (eval (.Call (.Name "super" p0) [] [] p1) X.env)
      standAt apos.atName
      let (f, first) ← holding [ov] (getMethod ov m pl)
      callWith pos f first (backTo pos (starEach (e :: es) X.env)) [])) :
    PAt X (.func body X.env) [.Expr (.Call (.Attribute (.Call (.Name "super" p0) [] [] p1) m apos) (e :: es) [] pos) pos2] (tSup D sp E t) := by
  refine ⟨fun pins s σ H Dn I h => ?_⟩
  obtain ⟨a, dx, fs, hs0, ha0, q⟩ := h
  obtain ⟨oc, od, osl, lf⟩ := U.fn
  obtain ⟨ar, har, rfl⟩ := U.hd
  obtain ⟨ka, kb, kv, kc, tf, lc, hv2⟩ := U.code
  obtain ⟨cl, cld, csl, lcell⟩ := U.cell
  obtain ⟨cd, hcd⟩ := Option.isSome_iff_exists.mp (show (PySem.W.clsIn X.K D).isSome = true from U.cls)
  obtain ⟨hh, gg, dd, tk, os⟩ := s
  have KX : X.K.In hh := I.kIn
  obtain ⟨oD, hD, hDc⟩ : ∃ oD, hh.get? D = some oD ∧ oD.data = .cls cd := by
    unfold PySem.W.clsIn at hcd
    split at hcd
    · rename_i c1 c2 c3 c4 ho
      cases hcd
      exact ⟨_, KX _ _ ho, rfl⟩
    · cases hcd
  obtain ⟨mA, O, _⟩ := ins_get I.hok ha0
  have naD : a ≠ D := fun z => by
    have o := O.obj
    have o : hh.get? a = some (PySem.W.instObj D dx) := o
    rw [z, hD] at o
    cases o
    cases hDc
  refine PySem.ks_wpAt_execs_cons (PySem.ks_wpAt_Expr_any ?_ I.quiet hsw)
  refine PySem.ks_wpAt_MethodCall (pl := pl) ?_ he
  refine PySem.ks_wpAt_super_base hks hkc hat hfu (KX _ _ lf) rfl har hco (KX _ _ lc) rfl hv2 hfile htop ?_
  obtain ⟨mb, b1, b2⟩ := I.mod.blt
  have gns : hh.Ns X.env.globals X.mg := by
    rw [I.ok.glob]
    exact I.mod.glob.keeps I.bk
  have bns : hh.Ns X.env.builtins mb := by
    rw [I.ok.blt]
    exact b1.keeps I.bk
  refine PySem.W.ks_loadName_global I.ok.kind hks (Calls.loadGlobal_builtin gns hmg bns ((b2 "super" (by decide)).trans (by decide +kernel : bootBuiltins "super" = some (.type "super"))) ⟨rfl, ?_⟩)
  refine wpAny_loadName_free I.ok.kind hkc hcl ⟨_, KX _ _ lcell, rfl⟩ ?_
  obtain ⟨m0, n0, at0⟩ := I.loc
  obtain ⟨u, ru, lu⟩ := at0 0 _ _ h0 hs0 (.inl hl)
  obtain rfl : u = Value.ref a := ru
  have hm0 : m0 ar.arg = some (.ref a) := by
    rcases lu with ⟨_, z⟩ | ⟨z, _⟩
    · exact z
    · rw [hl] at z
      rcases z with z | z <;> cases z
  refine wpAny_loadName_local I.ok.kind hl n0 hm0 ?_
  refine PySem.ks_wpAny_isType_cls hD hDc ⟨rfl, ?_⟩
  refine PySem.ks_wpAny_call_super hD hDc O.obj rfl (fun c z => nomatch z) (PySem.W.looks_mroIn KX U.sub) (fun h2 e2 k2 => ?_)
  have KX2 : X.K.In h2 := KX.keeps k2
  have hal : PySem.W.alongIn X.K m ((cd.mro.dropWhile (· != .ref D)).drop 1) = some (some (.ref g)) := by
    have z := U.nxt
    unfold PySem.W.ks_superIn at z
    rw [hcd] at z
    exact z
  obtain ⟨og, hg1, hg2⟩ : ∃ og, h2.get? g = some og ∧ og.cls = .type "function" := by
    have z : (X.K.lookup g).map (·.cls) = some (.type "function") := U.ty
    cases q : X.K.lookup g with
    | none => rw [q] at z; cases z
    | some o => rw [q] at z; exact ⟨o, KX2 _ _ q, Option.some.inj z⟩
  refine PySem.ks_wpAny_getMethod_super e2 (PySem.W.looks_opaque KX2 U.tp) ((PySem.W.looks_clsIn KX2 hcd).andThen .now) rfl KX2 hal hg1 hg2 naD hat ?_
  have I2 : Inv X pins σ H ⟨h2, gg, dd, tk, os⟩ := I.kept (t' := tk) k2
  have I3 := ClX.met_new (g := g) (C := a) I2
  refine ClX.callwith_cm I3 (ClX.base_none I2 (Nat.le_refl _)) hgf (thn (ha.run pos _ _ σ H _ I3 q) fun us s1 ⟨vs, H1, I4, r, q1⟩ => ⟨⟨ClX.pin_at I4, I4.kIn⟩, ?_⟩) hst hpl
  have ln : (Value.ref a :: us ++ []).length = ps.length := by
    rw [List.append_nil]
    have z := F.len _ _ _ _ q1
    rw [← z, List.length_cons, List.length_cons, r.length]
  have bd := hb s1 (.ref a :: us) I4.kIn ln
  rw [List.append_nil] at bd
  refine wpAny_call (PySem.W.method_call (ClX.pin_at I4) (codeAny_mono (F.run X.A X.stack s1 H1 ⟨.ref a :: us, []⟩ (.ref a :: us) (.ref a :: vs) _ E hr I4.env0 bd (.cons rfl r) q1) fun rs s3 z => ?_))
  cases rs with
  | error ex => exact hx _ σ H1 s1 ex s3 I4 z
  | ok fl =>
    cases fl with
    | ret u3 =>
      obtain ⟨v3, H3, I5, _, q3⟩ := I4.after z
      exact wpAt_of_wpAny (wpAny_execs_nil ⟨σ, H3, ClX.unpin I5, q3⟩)
    | next => exact False.elim z
    | brk => exact False.elim z
    | cont => exact False.elim z
end
end
/-! defs that are an __init__ -/
section
variable {P : Program} {w : World} {K : PySem.W.Frag} {mg : Str → Option Value} {base : Heap} {cl : Str → Option Addr}
theorem spI_len {mf : MO → List PV → Res (PV × MO)} {n : Nat} (tk : TaknR n mf) {vs : List V} {H : Hp} {Q : VK} {E : XK} : spI K cl mf vs H Q E → vs.length = n + 1 := fun ⟨O, b, mo, us, qs, e, hb, hO, hm, hl, hw⟩ => by
  rw [e, List.length_cons, hl.len]
  refine Classical.byContradiction fun c => ?_
  rw [tk mo qs (by omega)] at hw
  exact hw
theorem coreI {N : List Str} {n : Nat} {mf : MO → List PV → Res (PV × MO)} (tk : TaknR n mf) {vs : List V} {H : Hp} {Q : VK} {E : XK} {G : TS → Prop}
    (h : ∀ (mo : MO) (qs : List PV), qs.length = n → mf mo qs = .stuck ∨ ∃ t, G t ∧ ∃ M, Runs K cl (fun c d _ H' => E c d H') t (.rf 0 mo :: (qs.map Slot.fz ++ uns (N.length - (n + 1)))) M (fun mo : MO => .rf 0 mo :: uns (N.length - 1)) (fun l : Empty => nomatch l) (uns N.length) ∧ mf mo qs = retR M)
    (hsp : spI K cl mf vs H Q E) : ∃ t, G t ∧ t { nx := fun _ H' => Q .non H', rt := Q } (L2.start N vs) H := by
  have hvn := spI_len tk hsp
  obtain ⟨O, b, mo, us, qs, rfl, hb, hO, hm, hl, hw⟩ := hsp
  have hun : us.length = n := by rw [List.length_cons] at hvn; omega
  have hqn : qs.length = n := by rw [← hl.len]; exact hun
  rcases h mo qs hqn with e | ⟨t, ht, M, hM, e⟩
  · rw [e] at hw; exact hw.elim
  refine ⟨t, ht, ?_⟩
  rw [e] at hw
  have st0 : L2.start N (V.ref b :: us) = some (V.ref b) :: (us.map some ++ List.replicate (N.length - (n + 1)) none) := by
    unfold L2.start
    rw [List.length_cons, hun]
    rfl
  rw [st0]
  have ea : adr (.rf 0 mo :: (qs.map Slot.fz ++ uns (N.length - (n + 1)))) (some (V.ref b) :: (us.map some ++ List.replicate (N.length - (n + 1)) none)) = [b] := congrArg (b :: ·) (fz_adr _ _ _)
  have eo : owa (.rf 0 mo :: (qs.map Slot.fz ++ uns (N.length - (n + 1)))) (some (V.ref b) :: (us.map some ++ List.replicate (N.length - (n + 1)) none)) = [] := fz_owa _ _ _
  have sO : Sub (frz H O) (frz H (O ++ [b])) := frz_less fun a ha => by
    rcases List.mem_append.mp ha with c | c
    · exact c
    · have : a = b := by simpa using c
      rw [this]; exact hb
  have R : Rel K cl O [b] (.rf 0 mo :: (qs.map Slot.fz ++ uns (N.length - (n + 1)))) (some (V.ref b) :: (us.map some ++ List.replicate (N.length - (n + 1)) none)) H := by
    refine ⟨?_, by rw [ea]; simp, hO, by rw [eo]; exact fun _ z => nomatch z⟩
    rw [ea]
    refine .cons ⟨b, rfl, rfl, hm.mono sO fun _ e => e⟩ ?_
    have q := fz_rel (K := K) (cl := cl) (H := H) (N.length - (n + 1)) (hl.mono sO)
    have lift : ∀ {ρ : Ro} {σ : L2.St} {F H : Hp}, RelS K cl [] F H ρ σ → (∀ s ∈ ρ, (∃ p, s = .fz p) ∨ s = .un) → RelS K cl [b] F H ρ σ := fun {ρ σ F H} r => by
      induction r with
      | nil => exact fun _ => .nil
      | cons a r ih =>
        intro hs
        refine .cons ?_ (ih fun s h => hs s (List.mem_cons_of_mem _ h))
        rcases hs _ List.mem_cons_self with ⟨p, rfl⟩ | rfl
        · exact a
        · exact trivial
    refine lift q fun s hs => ?_
    rcases List.mem_append.mp hs with c | c
    · obtain ⟨p, _, rfl⟩ := List.mem_map.mp c
      exact .inl ⟨p, rfl⟩
    · exact .inr (List.eq_of_mem_replicate c)
  have keep : ∀ {A' : List Addr} {H' : Hp}, Gr (adr (.rf 0 mo :: (qs.map Slot.fz ++ uns (N.length - (n + 1)))) (some (V.ref b) :: (us.map some ++ List.replicate (N.length - (n + 1)) none))) H A' H' → ∀ x o, x ≠ b → H x = some o → H' x = some o := fun {A' H'} g x o ne e => g.1 x o (by rw [ea]; simpa using ne) e
  refine hM O [b] _ H _ R (fun a ha => by have : a = b := by simpa using ha
                                          rw [this]; exact hb) (wp_mono (wp_bind.mp hw) (fun fl q => ?_) fun c q C σ' H' e g _ => q C H' e (keep g))
  cases fl with
  | nx mo' =>
    intro σ' H' g R'
    have q' : ∀ v H', (∀ x o, x ≠ b → H x = some o → H' x = some o) → MoIs K cl (frz H' O) H' b mo' → Is K cl (frz H' O) v .non → Q v H' := q
    refine q' .non H' (keep g) ?_ .non
    have r0 : (Slot.rf 0 mo' :: uns (N.length - 1) : Ro)[0]? = some (.rf 0 mo') := rfl
    obtain ⟨x, e, a, rfl, hk, hmo⟩ := R'.sl.get r0
    have : b = a := by simpa using hk
    subst this
    exact hmo.mono (frz_less fun a ha => List.mem_append_left _ ha) fun _ e => e
  | rt v r =>
    match r, q with
    | [mo'], q =>
      have q' : ∀ v' H', (∀ x o, x ≠ b → H x = some o → H' x = some o) → MoIs K cl (frz H' O) H' b mo' → Is K cl (frz H' O) v' v → Q v' H' := q
      exact fun w' H' g i hbm => q' w' H' (keep g) (hbm 0 b mo' rfl rfl) i
  | ro mo r => exact q.elim
  | bk l => exact nomatch l
  | ct l => exact nomatch l
open PySem.Spec PyProof.Rows in
theorem fnI {x qual : Str} {st : Stmt} {f : Addr} {fd : FuncData} {N ps : List Str} {k n : Nat} {mf : MO → List PV → Res (PV × MO)} (F : Fun K x qual st f fd) (S : FnScope N ps (defScope st)) (hn : ps.length = n + 1) (tk : TaknR n mf)
    (h : ∀ (cdv : Value) (A : Around) (outer : List Env) (s : Shared) (H : Hp) (E : XK), Room k (A.deeper (envOfC qual (defScope st) s.heap.objs.size f cdv)) → ∀ (mo : MO) (qs : List PV), qs.length = n → mf mo qs = .stuck ∨
      ∃ t, PSs (cxOf (L2.CX P w) P w K mg base N qual (defScope st) f cdv A outer s H E) (defBody st) t ∧ ∃ M, Runs K cl (fun c d _ H' => E c d H') t (.rf 0 mo :: (qs.map Slot.fz ++ uns (N.length - (n + 1)))) M (fun mo : MO => .rf 0 mo :: uns (N.length - 1)) (fun l : Empty => nomatch l) (uns N.length) ∧ mf mo qs = retR M) :
    FnOk P w K mg base (L2.CX P w) (k + 1) f fd ps (spI K cl mf) :=
  F.okX S (fun vs H Q E h => (spI_len tk h).trans hn.symm) fun cdv A outer s H vs Q E hr hsp => coreI tk (h cdv A outer s H E hr) hsp
theorem fnIS {x qual : Str} {st : Stmt} {f D cc cda : Addr} {fd : FuncData} {N ps : List Str} {k n : Nat} {mf : MO → List PV → Res (PV × MO)} (F : FunS K x qual st f D cc cda fd) (S : ScopeS N ps (defScope st)) (hn : ps.length = n + 1) (tk : TaknR n mf)
    (h : ∀ (A : Around) (outer : List Env) (s : Shared) (H : Hp) (E : XK), Room k (A.deeper (envS qual (defScope st) s.heap.objs.size f cc (.ref cda))) → ∀ (mo : MO) (qs : List PV), qs.length = n → mf mo qs = .stuck ∨
      ∃ t, PAt (cxS (L2.CX P w) P w K mg base N qual (defScope st) f cc (.ref cda) A outer s H E) (.func (defBody st) (envS qual (defScope st) s.heap.objs.size f cc (.ref cda))) (defBody st) t ∧ ∃ M, Runs K cl (fun c d _ H' => E c d H') t (.rf 0 mo :: (qs.map Slot.fz ++ uns (N.length - (n + 1)))) M (fun mo : MO => .rf 0 mo :: uns (N.length - 1)) (fun l : Empty => nomatch l) (uns N.length) ∧ mf mo qs = retR M) :
    FnOk P w K mg base (L2.CX P w) (k + 1) f fd ps (spI K cl mf) :=
  F.ok S (fun vs H Q E h => (spI_len tk h).trans hn.symm) fun A outer s H vs Q E hr hsp => coreI tk (h A outer s H E hr) hsp
end
/-! ### super().__init__, methods of the thing under way -/
section
variable {K : PySem.W.Frag} {cl : Str → Option Addr} {F G : Hp}
theorem rd_ne {b a c dx : Addr} {fs : List (Str × V)} {vs : List V} (hF : F b = some (.ins c dx fs)) (s : ∀ x o, x ≠ b → F x = some o → G x = some o) (h : Rd F a (.tup vs)) : Rd G a (.tup vs) := by
  have n : a ≠ b := fun z => by
    subst z
    rcases h with h | ⟨o, h⟩ <;> rw [hF] at h <;> cases h
  rcases h with h | ⟨o, h⟩
  · exact .inl (s _ _ n h)
  · exact .inr ⟨o, s _ _ n h⟩
/-- a value that holds no thing: a number, a truth, None, a tuple of numbers -/
def flR : PV → Res PV
  | .int i => .val (.int i)
  | .bl b => .val (.bl b)
  | .non => .val .non
  | .tup ps => match allI ps with
    | some _ => .val (.tup ps)
    | none => .stuck
  | _ => .stuck
theorem isL_ints : ∀ {is : List Int} {vs : List V}, IsL K cl F vs (is.map PV.int) → IsL K cl G vs (is.map PV.int)
  | [], _, .nil => .nil
  | _ :: _, _, .cons (.int i) r => .cons (.int i) (isL_ints r)
theorem flR_move {b c dx : Addr} {fs : List (Str × V)} {v : V} {r : PV} {Q : PV → Prop} {E : Str → Prop} (q : wp (flR r) Q E) (hF : F b = some (.ins c dx fs)) (s : ∀ x o, x ≠ b → F x = some o → G x = some o) (h : Is K cl F v r) : Q r ∧ Is K cl G v r := by
  cases r with
  | int i => cases h; exact ⟨q, .int i⟩
  | bl i => cases h; exact ⟨q, .bl i⟩
  | non => cases h; exact ⟨q, .non⟩
  | tup ps =>
    unfold flR at q
    dsimp only at q
    split at q
    · next is e =>
      have e2 := allI_eq e
      subst e2
      cases h with
      | tup h l => exact ⟨q, .tup (h.imp (rd_ne hF s) id) (isL_ints l)⟩
    · exact q.elim
  | _ => exact q.elim
end
section
variable {K : PySem.W.Frag} {cl : Str → Option Addr} {W : WX} {bs O A A1 B : List Addr} {F H H' H1 : Hp} {ρ ρ' ρx ρh : Ro} {σ : St} {S S1 S2 L : Type} {ρs : S → Ro} {ρn : S1 → Ro} {ρl : L → Ro} {D : Ends} {t u v tb t1 t2 : TS} {te ta tc td : TE} {m ma mb : Res PV} {tr : TA} {ml : Res (List PV)}
def supP (C : Str) (mo : MO) (ml : Res (List PV)) (mf : MO → List PV → Res (PV × MO)) : Res (Fl MO L) := match mo with
  | .ob C' fs => if C' = C then ml >>= fun ps => noX (mf (.ob C' fs) ps) >>= fun r => .val (.nx r.2) else .stuck
  | _ => .stuck
theorem run_super {ρs' : MO → Ro} {C : Str} {c : Addr} {k : Nat} {mo : MO} {ρt : Ro} {E : XK} {mf : MO → List PV → Res (PV × MO)} (hc : cl C = some c) (hl : PurL K cl W tr (.rf k mo :: ρt) ml) (w : Wk (.rf k mo :: ρt) ρx) (w2 : ∀ mo', Wk (.rf k mo' :: ρt) (ρs' mo')) :
    Runs K cl W (tSup c (spI K cl mf) E tr) (.rf k mo :: ρt) (supP (L := L) C mo ml mf) ρs' ρl ρx := fun O bs σ H D R hb q => by
  unfold supP at q
  split at q
  · next C' fs =>
    split at q
    · next e =>
      subst e
      have r0 : (Slot.rf k (.ob C' fs) :: ρt : Ro)[0]? = some (.rf k (.ob C' fs)) := rfl
      obtain ⟨x, e, a, rfl, hk, c', dx, vs, h0, h1, h2⟩ := R.sl.get r0
      rw [hc] at h0
      cases h0
      refine ⟨a, dx, vs, e, h1, hl O bs σ H _ R (wp_mono (wp_bind.mp q) (fun ps qs us H1 s1 i1 => ?_) fun _ z => z.xw R w)⟩
      have R1 := R.same s1
      have ma : a ∈ O ++ adr (.rf k (.ob C' fs) :: ρt) σ := List.mem_append_right _ (adr_at r0 e (.inr ⟨k, _, rfl⟩))
      refine ⟨O ++ adr (.rf k (.ob C' fs) :: ρt) σ, a, .ob C' fs, us, ps, rfl, ma, fun b hb => R1.got hb, ⟨c, dx, vs, hc, s1 _ _ h1, h2.mono (frz_same s1)⟩, i1, wp_mono (wp_noX (E' := fun _ => False) (wp_bind.mp qs)) (fun r qr v H' hk' hm iv => ?_) fun _ z => z.elim⟩
      obtain ⟨o, ho⟩ := hm.got
      obtain ⟨R3, g3⟩ := R1.putH (m' := r.2) hk' ⟨o, ho⟩ r0 (.inr ⟨k, rfl⟩) e hm
      have g := (Gr.of (A := adr (.rf k (.ob C' fs) :: ρt) σ) s1).trans g3
      exact qr σ H' (g.trans (Gr.wk (w2 r.2))) (R3.wk (w2 r.2))
    · exact q.elim
  · exact q.elim
/-- a method of the thing under way, which gives something that holds no thing -/
theorem pu_methO {C mt : Str} {c : Addr} {i : Nat} {s : Slot} {C' : Str} {fs : List (Str × PV)} {mf : List PV → Res PV} (hc : cl C = some c) (hi : ρ[i]? = some s) (hs : s = .ow (.ob C' fs) ∨ ∃ k, s = .rf k (.ob C' fs)) (hl : PurL K cl W tr ρ ml) :
    Pur K cl W (tMethS' c mt (spP K cl mf) (WE W) (tVar i) tr) ρ ((Res.val (.ins C' fs)) >>= fun x => sel [(C, mf)] mt x >>= fun g => ml >>= fun ps => g (x :: ps) >>= flR) := fun O bs σ H Q R q => by
  have q2 : wp (sel [(C, mf)] mt (.ins C' fs) >>= fun g => ml >>= fun ps => g (.ins C' fs :: ps) >>= flR) (fun r => ∀ v H', Sub H H' → Is K cl (frz H' (O ++ adr ρ σ)) v r → Q v H') (XW cl W σ H) := q
  obtain ⟨fs', e1, e2, hw⟩ := sel_one (wp_bind.mp q2)
  cases e1
  have got : ∃ a dx vs, σ[i]? = some (some (.ref a)) ∧ H a = some (.ins c dx vs) ∧ IsF K cl (frz H (O ++ adr ρ σ)) vs fs := by
    obtain ⟨x, e, q⟩ := R.sl.get hi
    rcases hs with rfl | ⟨k, rfl⟩
    · obtain ⟨a, rfl, c', dx, vs, h0, h1, h2⟩ := q; rw [hc] at h0; cases h0; exact ⟨a, dx, vs, e, h1, h2⟩
    · obtain ⟨a, rfl, _, c', dx, vs, h0, h1, h2⟩ := q; rw [hc] at h0; cases h0; exact ⟨a, dx, vs, e, h1, h2⟩
  obtain ⟨a, dx, vs, ha, hv, hf⟩ := got
  refine ⟨_, ha, a, dx, vs, rfl, hv, hf.nolook e2, hl O bs σ H _ R (wp_mono (wp_bind.mp hw) (fun ps qs us H2 s2 i2 => ?_) fun _ z => z)⟩
  have R2 := R.same s2
  have less : Sub (frz H2 (O ++ adr ρ σ)) (frz H2 ((O ++ adr ρ σ).filter fun x => decide (x ≠ a))) := frz_less fun x hx => (List.mem_filter.mp hx).1
  have na : a ∉ (O ++ adr ρ σ).filter fun x => decide (x ≠ a) := fun z => by have := (List.mem_filter.mp z).2; simp at this
  refine ⟨(O ++ adr ρ σ).filter fun x => decide (x ≠ a), .ins C fs :: ps, fun x hx => R2.got (List.mem_filter.mp hx).1, .cons (.ins hc (frz_some.mpr ⟨na, s2 _ _ hv⟩) ((hf.mono (frz_same s2)).mono less)) (i2.mono less),
    wp_mono (wp_bind.mp qs) (fun r qr v H' s' iv => ?_) fun e qe C' H' he s' => qe C' H' he (s2.trans s')⟩
  obtain ⟨qq, iv'⟩ := flR_move (G := frz H' (O ++ adr ρ σ)) qr (frz_some.mpr ⟨na, s' _ _ (s2 _ _ hv)⟩) (fun x o n e => by
    obtain ⟨nm, e⟩ := frz_some.mp e
    exact frz_some.mpr ⟨fun z => nm (List.mem_filter.mpr ⟨z, by simpa using n⟩), e⟩) iv
  exact qq v H' (s2.trans s') iv'
end
/-! ### dict comprehensions -/
section
variable {K : PySem.W.Frag} {cl : Str → Option Addr} {W : WX} {bs O A A1 : List Addr} {F H H' H1 : Hp} {ρ ρ' ρx : Ro} {σ : St} {S S1 L : Type} {ρn : S → Ro} {ρj : S1 → Ro} {ρl : L → Ro} {D : Ends} {t u v tb : TS} {te ta tc : TE} {m ma mb : Res PV} {tr : TA} {ml : Res (List PV)} {md : Res (List (Key × PV))}
def dcF {α : Type} (d : PV → Res α) (c : α → Res Bool) (ek ev : α → Res PV) : List PV → List (Key × PV) → Res (List (Key × PV))
  | [], acc => .val acc
  | x :: xs, acc => noX (d x) >>= fun a => noX (c a) >>= fun b => if b = true then noX (ek a) >>= fun y => keyP y >>= fun k => noX (ev a) >>= fun z => dcF d c ek ev xs (putP acc k z) else dcF d c ek ev xs acc
theorem nd_dc {wi : TI} {g : TG} {tt : TT} {tk : TE} {vs : List Nat} {mi : Res (List PV)} {α : Type} {d : PV → Res α} {ρe : α → Ro} {mc : α → Res Bool} {mk me : α → Res PV} (hi : IterV K cl W wi ρ mi) (hv : nads ρ vs = true) (hne : vs ≠ []) (hg : TgtE K cl g vs (wipeR ρ vs) d ρe)
    (ht : ∀ a, Tst K cl (fun _ _ _ _ => False) tt (ρe a) (mc a)) (hk : ∀ a, Pur K cl (fun _ _ _ _ => False) tk (ρe a) (mk a)) (he : ∀ a, Pur K cl (fun _ _ _ _ => False) te (ρe a) (me a)) : NewD K cl W (tDc wi g tt tk te vs) ρ (mi >>= fun ps => sized ps.length >>= fun _ => dcF d mc mk me ps []) := fun O bs σ H Q R q => by
  refine hi O bs σ H _ R (wp_mono (wp_bind.mp q) (fun ps qp J H1 s1 hJ => ?_) fun _ z => z)
  obtain ⟨hz, qp⟩ := wp_sized (wp_bind.mp qp)
  intro Da hD
  have R1 := R.same s1
  have hD0 : H Da = none := none_back s1 hD
  obtain ⟨Rw, ew⟩ := R1.wipe hv
  have Rw0 := Rw.wider (o := .dK []) hD
  have nDA : Da ∉ O ++ adr ρ σ := fun z => by
    obtain ⟨u, e⟩ := R1.got z
    rw [hD] at e; cases e
  refine ⟨fun i mm H2 => mm = ps.length - i ∧ i ≤ ps.length ∧ Sub H1 H2 ∧ Rel K cl (Da :: O) bs (wipeR ρ vs) (wipe σ vs) H2 ∧ ∃ acc qs, H2 Da = some (.dK acc) ∧ acc.length ≤ i ∧ IsK K cl (frz H2 (Da :: (O ++ adr ρ σ))) acc qs ∧
      wp (dcF d mc mk me (ps.drop i) qs) (fun ys => ∀ p ws H', Sub H H' → H p = none → H' p = some (.dK ws) → IsK K cl (frz H' (p :: (O ++ adr ρ σ))) ws ys → Q (.ref p) H') (XW cl W σ H),
    ⟨_, rfl, Nat.zero_le _, sub_new hD _, Rw0, [], [], upd_same, Nat.le_refl _, .nil, by rw [List.drop_zero]; exact qp⟩, ?_⟩
  rintro i mm H2 ⟨rfl, hle, s2, R2, acc, qs, ha, hal, hl, qw⟩
  have sF : Sub (frz H1 (O ++ adr ρ σ)) (frz H2 (Da :: (O ++ adr ρ σ))) := fun x u e => by
    obtain ⟨n, e⟩ := frz_some.mp e
    refine frz_some.mpr ⟨fun z => ?_, s2 _ _ e⟩
    rcases List.mem_cons.mp z with c | c
    · rw [c, hD] at e; cases e
    · exact n c
  have gotB : ∀ a, a ∈ Da :: (O ++ adr ρ σ) → ∃ o, H2 a = some o := fun a z => R2.got (by rw [ew]; exact z)
  obtain ⟨hs, hgo⟩ := hJ H2 _ s2 sF gotB
  by_cases c : i = ps.length
  · subst c
    rw [List.drop_length] at qw
    have := qw Da acc H2 (s1.trans s2) hD0 ha hl
    exact .inl ⟨hs, this⟩
  · have hlt : i < ps.length := by omega
    obtain ⟨hgi, hy⟩ := hgo i _ (List.getElem?_eq_getElem hlt)
    rw [List.drop_eq_getElem_cons hlt] at qw
    refine .inr ⟨hgi, fun H3 => Sub H1 H3 ∧ Rel K cl (Da :: O) bs (wipeR ρ vs) (wipe σ vs) H3 ∧ ∃ acc qs, H3 Da = some (.dK acc) ∧ acc.length ≤ i + 1 ∧ IsK K cl (frz H3 (Da :: (O ++ adr ρ σ))) acc qs ∧
      wp (dcF d mc mk me (ps.drop (i + 1)) qs) (fun ys => ∀ p ws H', Sub H H' → H p = none → H' p = some (.dK ws) → IsK K cl (frz H' (p :: (O ++ adr ρ σ))) ws ys → Q (.ref p) H') (XW cl W σ H),
      fun H3 z => ⟨_, by omega, rfl, by omega, z⟩, fun x H3 hyx => ?_⟩
    obtain ⟨s3, ix⟩ := hy x H3 hyx
    have R3 := R2.same s3
    have qw := wp_bind.mp qw
    refine hg ps[i] (Da :: O) bs σ H3 x _ _ R3 (by rw [ew]; exact ix) (wp_mono (wp_noX (E' := fun _ => False) qw) (fun a qa σ4 R4 e4 w4 => ?_) fun _ z => z)
    refine ⟨w4 hne, ht a (Da :: O) bs σ4 H3 _ R4 (wp_mono (wp_noX (E' := fun _ => False) (wp_bind.mp qa)) (fun b qb H5 s5 => ?_) fun _ z => z.elim)⟩
    have R5 := R3.same s5
    have ha5 := s5 _ _ (s3 _ _ ha)
    have s25 := s3.trans s5
    cases b with
    | false => exact ⟨s2.trans s25, R5, acc, qs, ha5, by omega, hl.mono (frz_same s25), qb⟩
    | true =>
      refine hk a (Da :: O) bs σ4 H5 _ (R4.same s5) (wp_mono (wp_noX (E' := fun _ => False) (wp_bind.mp qb)) (fun y qy vy H6 s6 iy => ?_) fun _ z => z.elim)
      rw [e4, ew] at iy
      obtain ⟨k, ek, qk⟩ := wp_key (wp_bind.mp qy) (iy.view (H := H6) frz_sub)
      refine he a (Da :: O) bs σ4 H6 _ ((R4.same s5).same s6) (wp_mono (wp_noX (E' := fun _ => False) (wp_bind.mp qk)) (fun z qz vz H7 s7 iz => ?_) fun _ z => z.elim)
      rw [e4, ew] at iz
      have ha7 := s7 _ _ (s6 _ _ ha5)
      have s27 := (s25.trans s6).trans s7
      have keepD : ∀ x u, x ≠ Da → H7 x = some u → upd H7 Da (.dK (putK acc k vz)) x = some u := fun x u n e => by rw [upd_ne n]; exact e
      have sD : Sub (frz H7 (Da :: (O ++ adr ρ σ))) (frz (upd H7 Da (.dK (putK acc k vz))) (Da :: (O ++ adr ρ σ))) := fun x u e => by
        obtain ⟨n, e⟩ := frz_some.mp e
        exact frz_some.mpr ⟨n, keepD x u (fun z => n (z ▸ List.mem_cons_self)) e⟩
      refine ⟨acc, k, ek, ha7, by omega, fun x u e => keepD x u (ne_of_none e hD) (s27 _ _ (s2 _ _ e)), ((R5.same s6).same s7).putO List.mem_cons_self (by rw [ew]; exact fun z => nDA (List.mem_append_right _ z)), putK acc k vz, putP qs k z, upd_same, by have := length_putK acc k vz; omega, ?_, qz⟩
      exact ((hl.mono (frz_same s27)).put (k := k) iz).mono sD
end
/-! ### keywords: the wish for an exception may hang on the slots -/
section
open PySem.Spec PyProof.Rows
variable {X : Cx} {CX : CXT} {k : Nat} {f C : Addr} {fd : FuncData} {ps ks : List Str} {sp : Sp} {E : L2.St → XK} {x m : Str} {p pos apos : Pos} {e o : Expr} {es : List Expr} {kws : List Keyword} {ta : TE} {t tk : TA} {g : List Value → List Value → List Value} {gV : List V → List V → List V}
theorem run_fnkS {pins : List (Addr × Obj)} {σ : L2.St} {H : Hp} {s : Shared} {Q : VK} {us ws : List Value} {vs zs : List V} (F : FnOk X.prog X.w X.K X.mg X.base CX k f fd ps sp) (hr : Room k X.A) (hb : KBinds X.K fd ps ks g gV) (hx : PassesAt CX X σ (E σ))
    (I : Inv X pins σ H s) (r : Vals vs us) (rz : Vals zs ws) (h : sp (gV vs zs) H Q (E σ)) : wpAny (model X.prog X.w) X.A (call (.ref f) us (ks.zip ws)) (EP X pins σ Q) X.xe s := by
  have r2 := hb.rel r rz
  have hl : (g us ws).length = ps.length := by rw [← r2.length]; exact F.len _ _ _ _ h
  refine wpAny_call (codeAny_mono (F.run X.A X.stack s H ⟨us, ks.zip ws⟩ (g us ws) (gV vs zs) Q (E σ) hr I.env0 (hb.to s us ws I.kIn hl) r2 h) fun r s' hq => ?_)
  cases r with
  | error e => exact hx pins H s e s' I hq
  | ok fl =>
    cases fl with
    | ret u => exact I.after hq
    | next => exact False.elim hq
    | brk => exact False.elim hq
    | cont => exact False.elim hq
def tCallKS (sp : Sp) (gV : List V → List V → List V) (E : L2.St → XK) (t tk : TA) : TE := fun σ H Q => t σ H fun vs H1 => tk σ H1 fun zs H2 => sp (gV vs zs) H2 Q (E σ)
theorem pe_callKS (F : FnOk X.prog X.w X.K X.mg X.base CX k f fd ps sp) (hr : Room k X.A) (hg : Gl X x) (hm : X.mg x = some (.ref f)) (hk : PySem.W.keepIn X.K (.ref f) = true) (hb : KBinds X.K fd ps ks g gV) (hx : ∀ σ, PassesAt CX X σ (E σ))
    (ha : PA X (e :: es) t) (hkw : PK X kws tk) (hall : (backToKw pos (keywordEach kws X.env)).all (·.1.isSome) = true := by rfl) (hks : (backToKw pos (keywordEach kws X.env)).filterMap (·.1) = ks := by rfl)
    (hdb : (x == ("__debug__" : Str)) = false := by decide) (he : starEach (e :: es) X.env = (false, eval e X.env) :: starEach es X.env := by rfl)
    (hpl : ((backTo pos (starEach (e :: es) X.env)).any (·.1) || (backToKw pos (keywordEach kws X.env)).any (·.1.isNone)) = false := by rfl) :
    PE X (.Call (.Name x p) (e :: es) kws pos) (tCallKS sp gV E t tk) := by
  refine ⟨fun pins s σ H Q I h => ?_⟩
  refine wpAny_Call_Name_kw (ld_glob I hg hm ?_ hdb)
  refine PySem.W.callWith_KW (h₀ := X.base) I.ok.mod.kin hk hall (thn (ha.run pos pins s σ H _ I h) fun us s1 ⟨vs, H1, I1, r, q⟩ => ?_) hpl he
  refine thn (hkw.run pos pins s1 σ H1 _ I1 q) fun ws s2 ⟨zs, H2, I2, rz, q2⟩ => ⟨I2.kIn, ?_⟩
  rw [hks]
  exact run_fnkS F hr hb (hx σ) I2 r rz q2
theorem pe_callKS0 (F : FnOk X.prog X.w X.K X.mg X.base CX k f fd ps sp) (hr : Room k X.A) (hg : Gl X x) (hm : X.mg x = some (.ref f)) (hk : PySem.W.keepIn X.K (.ref f) = true) (hb : KBinds X.K fd ps ks g gV) (hx : ∀ σ, PassesAt CX X σ (E σ))
    (hkw : PK X kws tk) (hall : (backToKw pos (keywordEach kws X.env)).all (·.1.isSome) = true := by rfl) (hks : (backToKw pos (keywordEach kws X.env)).filterMap (·.1) = ks := by rfl)
    (hdb : (x == ("__debug__" : Str)) = false := by decide)
    (hpl : ((backTo pos (starEach [] X.env)).any (·.1) || (backToKw pos (keywordEach kws X.env)).any (·.1.isNone)) = false := by rfl) :
    PE X (.Call (.Name x p) [] kws pos) (tCallKS sp gV E tNil tk) := by
  refine ⟨fun pins s σ H Q I h => ?_⟩
  refine wpAny_Call_Name_kw (ld_glob I hg hm ?_ hdb)
  refine PySem.W.callWith_KW0 (h₀ := X.base) I.ok.mod.kin hk hall ?_ hpl
  refine thn (hkw.run pos pins s σ H _ I h) fun ws s2 ⟨zs, H2, I2, rz, q2⟩ => ⟨I2.kIn, ?_⟩
  rw [hks]
  exact run_fnkS (us := []) (vs := []) F hr hb (hx σ) I2 .nil rz q2
def tMethKS (C : Addr) (m : Str) (sp : Sp) (gV : List V → List V → List V) (E : L2.St → XK) (ta : TE) (t tk : TA) : TE := fun σ H Q => ta σ H fun x H1 => ∃ a dx fs, x = .ref a ∧ H1 a = some (.ins C dx fs) ∧ fs.lookup m = none ∧
  t σ H1 fun vs H2 => tk σ H2 fun zs H3 => sp (gV (x :: vs) zs) H3 Q (E σ)
theorem pe_methKS {pl : Sem Bool} (he : PE X o ta) (c : Cls X.K C) (hm : Meth X.K C m f) (F : FnOk X.prog X.w X.K X.mg X.base CX k f fd ps sp) (hr : Room k X.A) (hb : KBinds X.K fd ps ks g gV) (hx : ∀ σ, PassesAt CX X σ (E σ))
    (ha : PA X (e :: es) t) (hkw : PK X kws tk) (hall : (backToKw pos (keywordEach kws X.env)).all (·.1.isSome) = true := by rfl) (hks : (backToKw pos (keywordEach kws X.env)).filterMap (·.1) = ks := by rfl)
    (hst : starEach (e :: es) X.env = (false, eval e X.env) :: starEach es X.env := by rfl)
    (hpl : ((backTo pos (starEach (e :: es) X.env)).any (·.1) || (backToKw pos (keywordEach kws X.env)).any (·.1.isNone)) = false := by rfl)
    (ht : eval (.Call (.Attribute o m apos) (e :: es) kws pos) X.env = (do
      let ov ← eval o X.env
      standAt apos.atName
      let (f, first) ← holding [ov] (getMethod ov m pl)
      callWith pos f first (backTo pos (starEach (e :: es) X.env)) (backToKw pos (keywordEach kws X.env))) := by rfl) :
    PE X (.Call (.Attribute o m apos) (e :: es) kws pos) (tMethKS C m sp gV E ta t tk) := by
  refine ⟨fun pins s σ H Q I h => ?_⟩
  refine PySem.W.methodCall_KW (pl := pl) (thn (he.run pins s σ H _ I h) fun u s1 ⟨x, H1, I1, rx, a, dx, fs, ex, ea, l, q⟩ => ?_) ht
  subst ex
  obtain rfl : u = Value.ref a := rx
  refine getmeth_ok I1 ea c hm l ?_
  refine PySem.W.callWith_KW (first := [.ref a]) (h₀ := X.base) I.ok.mod.kin hm.kp hall (thn (ha.run pos pins s1 σ H1 _ I1 q) fun us s2 ⟨vs, H2, I2, r, q2⟩ => ?_) hpl hst
  refine thn (hkw.run pos pins s2 σ H2 _ I2 q2) fun ws s3 ⟨zs, H3, I3, rz, q3⟩ => ⟨I3.kIn, ?_⟩
  rw [hks]
  exact run_fnkS (us := .ref a :: us) (vs := .ref a :: vs) F hr hb (hx σ) I3 (.cons rfl r) rz q3
theorem pe_methKS0 {pl : Sem Bool} (he : PE X o ta) (c : Cls X.K C) (hm : Meth X.K C m f) (F : FnOk X.prog X.w X.K X.mg X.base CX k f fd ps sp) (hr : Room k X.A) (hb : KBinds X.K fd ps ks g gV) (hx : ∀ σ, PassesAt CX X σ (E σ))
    (hkw : PK X kws tk) (hall : (backToKw pos (keywordEach kws X.env)).all (·.1.isSome) = true := by rfl) (hks : (backToKw pos (keywordEach kws X.env)).filterMap (·.1) = ks := by rfl)
    (hpl : ((backTo pos (starEach [] X.env)).any (·.1) || (backToKw pos (keywordEach kws X.env)).any (·.1.isNone)) = false := by rfl)
    (ht : eval (.Call (.Attribute o m apos) [] kws pos) X.env = (do
      let ov ← eval o X.env
      standAt apos.atName
      let (f, first) ← holding [ov] (getMethod ov m pl)
      callWith pos f first (backTo pos (starEach [] X.env)) (backToKw pos (keywordEach kws X.env))) := by rfl) :
    PE X (.Call (.Attribute o m apos) [] kws pos) (tMethKS C m sp gV E ta tNil tk) := by
  refine ⟨fun pins s σ H Q I h => ?_⟩
  refine PySem.W.methodCall_KW (pl := pl) (thn (he.run pins s σ H _ I h) fun u s1 ⟨x, H1, I1, rx, a, dx, fs, ex, ea, l, q⟩ => ?_) ht
  subst ex
  obtain rfl : u = Value.ref a := rx
  refine getmeth_ok I1 ea c hm l ?_
  refine PySem.W.callWith_KW0 (first := [.ref a]) (h₀ := X.base) I.ok.mod.kin hm.kp hall ?_ hpl
  refine thn (hkw.run pos pins s1 σ H1 _ I1 q) fun ws s3 ⟨zs, H3, I3, rz, q3⟩ => ⟨I3.kIn, ?_⟩
  rw [hks]
  exact run_fnkS (us := [.ref a]) (vs := [.ref a]) F hr hb (hx σ) I3 (.cons rfl .nil) rz q3
def tMakeKS (C : Addr) (sp : Sp) (gV : List V → List V → List V) (E : L2.St → XK) (t tk : TA) : TE := fun σ H Q => t σ H fun vs H1 => tk σ H1 fun zs H2 => ∀ x dx, H2 x = none → H2 dx = none → dx ≠ x →
  sp (gV (.ref x :: vs) zs) (upd (upd H2 dx (.own x)) x (.ins C dx [])) (fun v H3 => v = .non ∧ Q (.ref x) H3) (E σ)
theorem run_makeKS {pins : List (Addr × Obj)} {σ : L2.St} {H : Hp} {s : Shared} {Q : VK} {us ws : List Value} {vs zs : List V} (M : Mk X.K C f) (F : FnOk X.prog X.w X.K X.mg X.base CX k f fd ps sp) (hr : Room (k + 1) X.A) (hb : KBinds X.K fd ps ks g gV) (hx : PassesAt CX X σ (E σ))
    (I : Inv X pins σ H s) (r : Vals vs us) (rz : Vals zs ws)
    (h : ∀ x dx, H x = none → H dx = none → dx ≠ x → sp (gV (.ref x :: vs) zs) (upd (upd H dx (.own x)) x (.ins C dx [])) (fun v H2 => v = .non ∧ Q (.ref x) H2) (E σ)) :
    wpAny (model X.prog X.w) X.A (call (.ref C) us (ks.zip ws)) (EP X pins σ Q) X.xe s := by
  have hq := h (s.heap.objs.size + 1) s.heap.objs.size (I.hok.fresh (Nat.le_succ _)) (I.hok.fresh (Nat.le_refl _)) (Nat.ne_of_lt (Nat.lt_succ_self _))
  have I2 := Inv.made (C := C) I
  have r1 : Vals (V.ref (s.heap.objs.size + 1) :: vs) (Value.ref (s.heap.objs.size + 1) :: us) := .cons rfl r
  have r2 := hb.rel r1 rz
  have hl : (g (Value.ref (s.heap.objs.size + 1) :: us) ws).length = ps.length := by rw [← r2.length]; exact F.len _ _ _ _ hq
  refine wpAny_call (make_map (f := f) I.kIn M.makes M.init (beq_iff_eq.mp M.fn) (codeAny_mono (F.run _ X.stack _ _ ⟨Value.ref (s.heap.objs.size + 1) :: us, ks.zip ws⟩ (g (Value.ref (s.heap.objs.size + 1) :: us) ws) _ _ (E σ) (hr.make C us (ks.zip ws))
    (I2.env0.make C us (ks.zip ws)) (hb.to _ (Value.ref (s.heap.objs.size + 1) :: us) ws I2.kIn hl) r2 hq) fun r s' hq' => ?_))
  cases r with
  | error e => exact hx pins _ _ e s' I2 hq'
  | ok fl =>
    cases fl with
    | ret u =>
      obtain ⟨v, H', I3, rv, ev, q3⟩ := I2.after hq'
      subst ev
      exact ⟨rv, ⟨V.ref (s.heap.objs.size + 1), H', I3, rfl, q3⟩⟩
    | next => exact False.elim hq'
    | brk => exact False.elim hq'
    | cont => exact False.elim hq'
theorem pe_makeKS0 (M : Mk X.K C f) (F : FnOk X.prog X.w X.K X.mg X.base CX k f fd ps sp) (hr : Room (k + 1) X.A) (hg : Gl X x) (hm : X.mg x = some (.ref C)) (hb : KBinds X.K fd ps ks g gV) (hx : ∀ σ, PassesAt CX X σ (E σ)) (hkw : PK X kws tk)
    (hall : (backToKw pos (keywordEach kws X.env)).all (·.1.isSome) = true := by rfl) (hks : (backToKw pos (keywordEach kws X.env)).filterMap (·.1) = ks := by rfl) (hdb : (x == ("__debug__" : Str)) = false := by decide)
    (hpl : ((backTo pos (starEach [] X.env)).any (·.1) || (backToKw pos (keywordEach kws X.env)).any (·.1.isNone)) = false := by rfl) :
    PE X (.Call (.Name x p) [] kws pos) (tMakeKS C sp gV E tNil tk) := by
  refine ⟨fun pins s σ H Q I h => ?_⟩
  refine wpAny_Call_Name_kw (ld_glob I hg hm ?_ hdb)
  refine PySem.W.callWith_KW0 (h₀ := X.base) I.ok.mod.kin M.kp hall ?_ hpl
  refine thn (hkw.run pos pins s σ H _ I h) fun ws s2 ⟨zs, H2, I2, rz, q2⟩ => ⟨I2.kIn, ?_⟩
  rw [hks]
  exact run_makeKS (us := []) (vs := []) M F hr hb (hx σ) I2 .nil rz q2
theorem pe_makeKS (M : Mk X.K C f) (F : FnOk X.prog X.w X.K X.mg X.base CX k f fd ps sp) (hr : Room (k + 1) X.A) (hg : Gl X x) (hm : X.mg x = some (.ref C)) (hb : KBinds X.K fd ps ks g gV) (hx : ∀ σ, PassesAt CX X σ (E σ)) (ha : PA X (e :: es) t) (hkw : PK X kws tk)
    (hall : (backToKw pos (keywordEach kws X.env)).all (·.1.isSome) = true := by rfl) (hks : (backToKw pos (keywordEach kws X.env)).filterMap (·.1) = ks := by rfl) (hdb : (x == ("__debug__" : Str)) = false := by decide)
    (he : starEach (e :: es) X.env = (false, eval e X.env) :: starEach es X.env := by rfl) (hpl : ((backTo pos (starEach (e :: es) X.env)).any (·.1) || (backToKw pos (keywordEach kws X.env)).any (·.1.isNone)) = false := by rfl) :
    PE X (.Call (.Name x p) (e :: es) kws pos) (tMakeKS C sp gV E t tk) := by
  refine ⟨fun pins s σ H Q I h => ?_⟩
  refine wpAny_Call_Name_kw (ld_glob I hg hm ?_ hdb)
  refine PySem.W.callWith_KW (h₀ := X.base) I.ok.mod.kin M.kp hall (thn (ha.run pos pins s σ H _ I h) fun us s1 ⟨vs, H1, I1, r, q⟩ => ?_) hpl he
  refine thn (hkw.run pos pins s1 σ H1 _ I1 q) fun ws s2 ⟨zs, H2, I2, rz, q2⟩ => ⟨I2.kIn, ?_⟩
  rw [hks]
  exact run_makeKS M F hr hb (hx σ) I2 r rz q2
end
/-! ### keywords, within a try too; methods called by keywords -/
section
variable {K : PySem.W.Frag} {cl : Str → Option Addr} {W : WX} {bs O A A1 B : List Addr} {F H H' H1 : Hp} {ρ ρ' ρx ρh : Ro} {σ : St} {te ta tc td : TE} {m ma mb : Res PV} {tr tk : TA} {ml mk : Res (List PV)} {mf : List PV → Res PV}
theorem pu_callKS {gV : List V → List V → List V} {gP : List PV → List PV → List PV} (hg : ∀ {F : Hp} {vs : List V} {ps : List PV} {ws : List V} {qs : List PV}, IsL K cl F vs ps → IsL K cl F ws qs → IsL K cl F (gV vs ws) (gP ps qs))
    (hl : PurL K cl W tr ρ ml) (hk : PurL K cl W tk ρ mk) : Pur K cl W (tCallKS (spP K cl mf) gV (WE W) tr tk) ρ (ml >>= fun ps => mk >>= fun qs => mf (gP ps qs)) := fun O bs σ H Q R q => by
  refine hl O bs σ H _ R (wp_mono (wp_bind.mp q) (fun ps q1 vs H1 s1 i1 => ?_) fun _ z => z)
  refine hk O bs σ H1 _ (R.same s1) (wp_mono (wp_bind.mp q1) (fun qs q2 ws H2 s2 i2 => ?_) fun _ z => z.mono s1)
  have s12 := s1.trans s2
  exact ⟨O ++ adr ρ σ, gP ps qs, fun a h => (R.same s12).got h, hg (i1.mono (frz_same s2)) i2, wp_mono q2 (fun r qr v H' s i => qr v H' (s12.trans s) i) fun c qc C H' e s => qc C H' e (s12.trans s)⟩
theorem pu_methK {C : Str} {c : Addr} {mt : Str} {gV : List V → List V → List V} {gP : List PV → List PV → List PV} (hg : ∀ {F : Hp} {vs : List V} {ps : List PV} {ws : List V} {qs : List PV}, IsL K cl F vs ps → IsL K cl F ws qs → IsL K cl F (gV vs ws) (gP ps qs))
    (hc : cl C = some c) (ha : Pur K cl W ta ρ ma) (hl : PurL K cl W tr ρ ml) (hk : PurL K cl W tk ρ mk) :
    Pur K cl W (tMethKS c mt (spP K cl mf) gV (WE W) ta tr tk) ρ (ma >>= fun x => sel [(C, mf)] mt x >>= fun g => ml >>= fun ps => mk >>= fun qs => g (gP (x :: ps) qs)) := fun O bs σ H Q R q => by
  refine ha O bs σ H _ R (wp_mono (wp_bind.mp q) (fun x qx v1 H1 s1 i1 => ?_) fun _ z => z)
  have R1 := R.same s1
  obtain ⟨fs, rfl, e2, hw⟩ := sel_one (wp_bind.mp qx)
  have main : ∃ a dx vs, v1 = .ref a ∧ H1 a = some (.ins c dx vs) ∧ vs.lookup mt = none := by
    cases i1 with
    | ins h0 h1 h2 =>
      rw [hc] at h0
      cases h0
      exact ⟨_, _, _, rfl, frz_sub _ _ h1, h2.nolook e2⟩
  obtain ⟨a, dx, vs, e3, e4, e5⟩ := main
  refine ⟨a, dx, vs, e3, e4, e5, hl O bs σ H1 _ R1 (wp_mono (wp_bind.mp hw) (fun ps z us H2 s2 i2 => ?_) fun _ z C' H' e s => z C' H' e (s1.trans s))⟩
  have R2 := R1.same s2
  refine hk O bs σ H2 _ R2 (wp_mono (wp_bind.mp z) (fun qs z2 ws H3 s3 i3 => ?_) fun _ z C' H' e s => z C' H' e (s1.trans (s2.trans s)))
  have s13 := s2.trans s3
  exact ⟨O ++ adr ρ σ, gP (.ins C fs :: ps) qs, fun a h => ((R2.same s3).got h), hg (.cons (i1.mono (frz_same s13)) (i2.mono (frz_same s3))) i3, wp_mono z2 (fun r qr v H' s i => qr v H' (s1.trans (s13.trans s)) i) fun e qe C' H' he s => qe C' H' he (s1.trans (s13.trans s))⟩
/-- the arguments behind the thing that is made -/
def tlP : List PV → Res (List PV)
  | _ :: as => .val as
  | [] => .stuck
theorem tl_ok {F : Hp} {vs ws : List V} {ps zs : List PV} {gV : List V → List V → List V} {gP : List PV → List PV → List PV} {Q : List PV → Prop} {E : Str → Prop}
    (hg : ∀ {F : Hp} {vs : List V} {ps : List PV} {ws : List V} {qs : List PV} (x : V), IsL K cl F vs ps → IsL K cl F ws qs → ∀ p as, gP (.non :: ps) qs = p :: as → ∃ us, gV (x :: vs) ws = x :: us ∧ IsL K cl F us as)
    (x : V) (i : IsL K cl F vs ps) (j : IsL K cl F ws zs) (h : wp (tlP (gP (.non :: ps) zs)) Q E) : ∃ as us, gV (x :: vs) ws = x :: us ∧ IsL K cl F us as ∧ Q as := by
  cases e : gP (.non :: ps) zs with
  | nil => rw [e] at h; exact h.elim
  | cons p as =>
    rw [e] at h
    obtain ⟨us, e1, e2⟩ := hg x i j p as e
    exact ⟨as, us, e1, e2, h⟩
theorem pu_makeK {C : Str} {c : Addr} {mf : MO → List PV → Res (PV × MO)} {gV : List V → List V → List V} {gP : List PV → List PV → List PV}
    (hg : ∀ {F : Hp} {vs : List V} {ps : List PV} {ws : List V} {qs : List PV} (x : V), IsL K cl F vs ps → IsL K cl F ws qs → ∀ p as, gP (.non :: ps) qs = p :: as → ∃ us, gV (x :: vs) ws = x :: us ∧ IsL K cl F us as)
    (hc : cl C = some c) (hl : PurL K cl W tr ρ ml) (hk : PurL K cl W tk ρ mk) :
    Pur K cl W (tMakeKS c (spI K cl mf) gV (WE W) tr tk) ρ (ml >>= fun ps => mk >>= fun qs => tlP (gP (.non :: ps) qs) >>= fun as => mf (.ob C []) as >>= frO) := fun O bs σ H Q R q => by
  refine hl O bs σ H _ R (wp_mono (wp_bind.mp q) (fun ps qa vs H0 s0 i0 => ?_) fun _ z => z)
  refine hk O bs σ H0 _ (R.same s0) (wp_mono (wp_bind.mp qa) (fun zs qb ws H1 s01 j1 => ?_) fun _ z C' H' e s => z C' H' e (s0.trans s))
  have s1 := s0.trans s01
  intro x dx hx hdx hne
  have R1 := R.same s1
  obtain ⟨as, us, e1, i1, qs⟩ := tl_ok hg (V.ref x) (i0.mono (frz_same s01)) j1 (wp_bind.mp qb)
  rw [e1]
  have sx : Sub H1 (upd (upd H1 dx (.own x)) x (.ins c dx [])) := fun y o e => by
    have n1 : y ≠ x := fun z => by rw [z, hx] at e; cases e
    have n2 : y ≠ dx := fun z => by rw [z, hdx] at e; cases e
    rw [upd_ne n1, upd_ne n2]; exact e
  have nx : x ∉ O ++ adr ρ σ := fun z => by obtain ⟨o, e⟩ := R1.got z; rw [hx] at e; cases e
  have sF : Sub (frz H1 (O ++ adr ρ σ)) (frz (upd (upd H1 dx (.own x)) x (.ins c dx [])) (x :: (O ++ adr ρ σ))) := fun y o e => by
    obtain ⟨n, e⟩ := frz_some.mp e
    refine frz_some.mpr ⟨fun z => ?_, sx _ _ e⟩
    rcases List.mem_cons.mp z with z | z
    · rw [z, hx] at e; cases e
    · exact n z
  refine ⟨x :: (O ++ adr ρ σ), x, .ob C [], us, as, rfl, List.mem_cons_self, fun a ha => ?_, ⟨c, dx, [], hc, upd_same, .nil⟩, i1.mono sF, wp_mono (wp_bind.mp qs) (fun r qr v H' hk hm iv => ?_) fun e qe C' H' he hk => ?_⟩
  · rcases List.mem_cons.mp ha with z | z
    · exact ⟨_, by rw [z]; exact upd_same⟩
    · obtain ⟨o, e⟩ := R1.got z
      exact ⟨o, sx _ _ e⟩
  · have sH : Sub H1 H' := fun y o e => hk y o (fun z => by rw [z, hx] at e; cases e) (sx _ _ e)
    unfold frO at qr
    split at qr
    · next C2 fs2 =>
      cases iv
      obtain ⟨c2, dx2, vs2, h0, h1, h2⟩ := hm
      refine ⟨rfl, qr _ H' (s1.trans sH) (.ins h0 (frz_some.mpr ⟨nx, h1⟩) (h2.mono (frz_less fun a ha => List.mem_cons_of_mem _ ha)))⟩
    · exact qr.elim
  · exact qe C' H' he (s1.trans fun y o e => hk y o (fun z => by rw [z, hx] at e; cases e) (sx _ _ e))
end
/-! ### range of two with effects, isinstance of an own class -/
section
variable {K : PySem.W.Frag} {cl : Str → Option Addr} {W : WX} {S : Type} {ρs : S → Ro} {ta tc : TE} {ma mb : S → Res (PV × S)}
theorem ei_rng2 (ha : Eff K cl ta ρs ma) (hb' : Eff K cl tc ρs mb) : EffI K cl (iRng2 (tCons ta (tCons tc tNil))) ρs (fun s => ma s >>= fun x => mb x.2 >>= fun y => rng2 x.1 y.1 >>= fun z => .val (z, y.2)) := fun s O bs σ H Rr R hb q => by
  refine ha s O bs σ H _ R hb (wp_mono (wp_bind.mp q) (fun x qx v1 H1 g1 R1 e1 i1 => ?_) fun _ z => z)
  refine hb' x.2 O bs σ H1 _ R1 hb (wp_mono (wp_bind.mp qx) (fun y w v2 H2 g2 R2 e2 i2 => ?_) fun _ z => z)
  rw [e1] at g2 i2
  have w := wp_bind.mp w
  unfold rng2 at w
  split at w
  · next i j ei ej =>
    rw [ei] at i1
    rw [ej] at i2
    cases i1
    cases i2
    split at w
    · next c => exact ⟨i, j, rfl, c, w _ H2 (g1.trans g2) R2 (e2.trans e1) (itOk_rng rng_len fun i p h => rng_get h)⟩
    · exact w.elim
  · exact w.elim
end
/-- the classes whose things are told: with the answer for one class -/
def isiC (tab : List (Str × Bool)) : PV → Res PV
  | .ins C _ => match tab.lookup C with
    | some b => .val (.bl b)
    | none => .stuck
  | _ => .stuck
theorem kit_ownC {K : PySem.W.Frag} {C D : Addr} (hdct : PySem.W.hasDictIn K D = true) (ht : PySem.W.typeIn K (.ref D) = some (.type "type")) (h4 : PySem.W.subIn K (.ref C) (.ref D) = some true) : PySem.W.kitOne K (.ref C) (.ref D) = some true := by
  obtain ⟨cd, hc, _⟩ := PySem.W.any_some hdct
  have e2 : ((PySem.W.clsIn K D).isSome && PySem.W.typeIn K (.ref D) == some (.type "type")) = true := by rw [hc, ht] <;> rfl
  show (if (Value.ref C == .ref D) = true then some true else (if ((PySem.W.clsIn K D).isSome && PySem.W.typeIn K (.ref D) == some (.type "type")) = true then PySem.W.subIn K (.ref C) (.ref D) else none)) = some true
  rw [if_pos e2, h4]
  split <;> rfl
theorem kit_notC {K : PySem.W.Frag} {C D : Addr} (hne : (Value.ref C == Value.ref D) = false) (hdct : PySem.W.hasDictIn K D = true) (ht : PySem.W.typeIn K (.ref D) = some (.type "type")) (h4 : PySem.W.subIn K (.ref C) (.ref D) = some false) : PySem.W.kitOne K (.ref C) (.ref D) = some false := by
  obtain ⟨cd, hc, _⟩ := PySem.W.any_some hdct
  have e2 : ((PySem.W.clsIn K D).isSome && PySem.W.typeIn K (.ref D) == some (.type "type")) = true := by rw [hc, ht] <;> rfl
  show (if (Value.ref C == .ref D) = true then some true else (if ((PySem.W.clsIn K D).isSome && PySem.W.typeIn K (.ref D) == some (.type "type")) = true then PySem.W.subIn K (.ref C) (.ref D) else none)) = some false
  rw [hne, if_neg (by decide), if_pos e2, h4]
/-- what isinstance asks of a thing's class -/
structure InsK (K : PySem.W.Frag) (C : Addr) : Prop where
  cl : Cls K C
  ha : PySem.W.findIn K (.ref C) "__class__" = some (some (.builtin "object.__class__"))
  hn : PySem.W.specialIn K (.builtin "object.__class__") "__get__" = some (some (.builtin "getset_descriptor.__get__"))
  htk : PySem.W.takesIn K (.builtin "object.__class__") = some true
  hm : PySem.W.mroIn K C (.type "object") = some true
section
variable {K : PySem.W.Frag} {cl : Str → Option Addr} {W : WX} {ρ : Ro} {ta : TE} {m : Res PV}
theorem pu_isiC {D : Addr} {tab : List (Str × Bool)} (hT : ∀ C b, tab.lookup C = some b → ∀ c, cl C = some c → InsK K c ∧ PySem.W.kitOne K (.ref c) (.ref D) = some b) (ha : Pur K cl W ta ρ m) :
    Pur K cl W (tCB (rIsi K) (tCons ta (tCons (tC (.ref D)) tNil))) ρ (m >>= isiC tab) := fun O bs σ H Q R q => by
  refine ha O bs σ H _ R (wp_mono (wp_bind.mp q) (fun x qx v1 H1 s1 i1 => ?_) fun _ z => z)
  unfold isiC at qx
  split at qx
  · next C fs =>
    split at qx
    · next b e =>
      cases i1 with
      | ins h0 h1 h2 =>
        obtain ⟨k, kk⟩ := hT C b e _ h0
        exact ⟨_, _, _, _, b, rfl, .own D, .base (TyOf.ins (frz_sub _ _ h1) k.cl k.ha k.hn k.htk k.hm), kk, qx _ H1 s1 (.bl b)⟩
    · exact qx.elim
  · exact qx.elim
end
open PySem.Spec PyProof.Rows in
theorem pi_enTV (K : PySem.W.Frag) {X : Cx} (eK : X.K = K) {e : Expr} {ta : TA} {p pos tpos : Pos} {elts : List Expr} {kk : Nat} (hg : Gl X "enumerate") (hm : X.mg "enumerate" = none) (ha : PA X [e] ta) (hs : starEach [e] X.env = [(false, eval e X.env)] := by rfl) :
    PI X (.Tuple elts kk tpos) (.Call (.Name "enumerate" p) [e] [] pos) (iEnT K ta) := by
  subst eK
  exact pi_enT hg hm ha hs
/-! ### len(set(tuple of ints)) -/
def dedupI : List Int → List Int
  | [] => []
  | x :: r => if x ∈ r then dedupI r else x :: dedupI r
theorem mem_dedupI {x : Int} : ∀ {l : List Int}, x ∈ dedupI l ↔ x ∈ l
  | [] => Iff.rfl
  | y :: r => by
    unfold dedupI
    by_cases c : y ∈ r
    · rw [if_pos c, mem_dedupI, List.mem_cons]
      exact ⟨.inr, fun h => h.elim (fun e => e ▸ c) id⟩
    · rw [if_neg c, List.mem_cons, List.mem_cons, mem_dedupI]
theorem nodup_dedupI : ∀ {l : List Int}, (dedupI l).Nodup
  | [] => List.nodup_nil
  | y :: r => by
    unfold dedupI
    by_cases c : y ∈ r
    · rw [if_pos c]
      exact nodup_dedupI
    · rw [if_neg c]
      exact List.nodup_cons.mpr ⟨fun z => c (mem_dedupI.mp z), nodup_dedupI⟩
theorem dedupI_nodup : ∀ {l : List Int}, l.Nodup → dedupI l = l
  | [], _ => rfl
  | y :: r, h => by
    obtain ⟨h1, h2⟩ := List.nodup_cons.mp h
    unfold dedupI
    rw [if_neg h1, dedupI_nodup h2]
theorem dedupI_le : ∀ {l : List Int}, (dedupI l).length ≤ l.length
  | [] => Nat.le_refl _
  | y :: r => by
    unfold dedupI
    have := dedupI_le (l := r)
    split
    · exact Nat.le_trans this (Nat.le_succ _)
    · exact Nat.succ_le_succ this
section
open PySem.Spec PyProof.Rows
variable {X : Cx}
def tLenSetT (K : PySem.W.Frag) (ta : TE) : TE := fun σ H Q => ta σ H fun x H1 => ∃ (l : Addr) (ns : List Int), x = V.ref l ∧ SqT K H1 l (ns.map V.int) ∧ ns.length < 1000 ∧ Q (.int ((dedupI ns).length : Nat)) H1
theorem pe_lenSetT (K : PySem.W.Frag) (eK : X.K = K) {a : Expr} {ta : TE} {p p2 q pos : Pos} (hc : X.calm = true) (hg : Gl X "len") (hm : X.mg "len" = none) (hg2 : Gl X "set") (hm2 : X.mg "set" = none) (ha : PE X a ta)
    (na : starEach [a] X.env = (false, eval a X.env) :: starEach [] X.env := by rfl) : PE X (.Call (.Name "len" p) [.Call (.Name "set" p2) [a] [] q] [] pos) (tLenSetT K ta) := by
  subst eK
  refine ⟨fun pins s σ H Q I h => ?_⟩
  refine Call_ (ld_blt I hg hm PySem.boot_len ?_)
  refine PyProof.Rows.callWith_builtin1 (PyProof.Rows.args_cons ?_ rfl) rfl rfl
  refine Call_ (ld_blt I hg2 hm2 PyProof.Rows.boot_set ?_)
  refine PyProof.Rows.callWith_type1 (PyProof.Rows.args_cons (thn (ha.run pins s σ H _ I h) fun v s1 ⟨x, H1, I1, r1, q1⟩ => PyProof.Rows.args_nil ?_) na) na rfl
  obtain ⟨l, ns, rfl, hq, h1, q1⟩ := q1
  cases r1
  obtain ⟨its, rv, pt, hz⟩ := I1.tuple hq
  refine call_set_tupI ns (I1.ok.hd hc) (show s1.heap.IsTuple l its.toArray from pt) (ints_of_vals rv) (by unfold scanBound; omega) fun h' tk c hS hcn hk => ?_
  refine PyProof.Rows.args_nil ?_
  obtain ⟨o, es, ep, t, ho, hex, hd, hg1, hnd, hmem, hb, hf, hn, _, _⟩ := hS
  have I2 : Inv X pins σ H1 { s1 with heap := h', toks := tk } := I1.kept fun b o e => hk b o e
  have hpm : (es.toList.map keyOf).Perm (dedupI ns) := (List.perm_ext_iff_of_nodup hnd nodup_dedupI).mpr fun k => by
    rw [← hmem k, mem_dedupI, decide_eq_true_eq]
  have hsz : es.size = (dedupI ns).length := by
    have := hpm.length_eq
    rwa [List.length_map, Array.length_toList] at this
  have hle := dedupI_le (l := ns)
  refine call_len_set ho hex hd hf (by rw [hsz]; omega) ⟨.int ((dedupI ns).length : Nat), H1, I2.tok _, ⟨_, by rw [hsz]⟩, q1⟩
end
section
variable {K : PySem.W.Frag} {cl : Str → Option Addr} {W : WX} {ρ : Ro} {ta : TE} {m : Res PV}
def lenSetP : PV → Res PV
  | .tup ps => match allI ps with
    | some is => if is.length < 1000 then .val (.int ((dedupI is).length : Nat)) else .stuck
    | none => .stuck
  | _ => .stuck
theorem pu_lenSet (ha : Pur K cl W ta ρ m) : Pur K cl W (tLenSetT K ta) ρ (m >>= lenSetP) := fun O bs σ H Q R q => by
  refine ha O bs σ H _ R (wp_mono (wp_bind.mp q) (fun x qx v1 H1 s1 i1 => ?_) fun _ z => z)
  unfold lenSetP at qx
  split at qx
  · next ps =>
    split at qx
    · next is e =>
      split at qx
      · next c =>
        cases i1 with
        | tup h l =>
          cases allI_eq e
          cases l.ints
          exact ⟨_, is, rfl, frz_sub.sqT h, c, qx _ H1 s1 (.int _)⟩
      · exact qx.elim
    · exact qx.elim
  · exact qx.elim
end
/-! ### a test that is a value's truth -/
def tTru (K : PySem.W.Frag) (ta : TE) : TT := fun σ H Q => ta σ H fun x H' => ∃ k, TruV K x H' k ∧ Q k H'
theorem pt_truthV (K : PySem.W.Frag) {X : Cx} (eK : X.K = K) {a : Expr} {ta : TE} (ha : PE X a ta) (he : ∀ whole, isTrue a X.env whole = (do let v ← whole; standAt a.pos; holding [v] (truthy v)) := by intro _; rfl) : PT X a (tTru K ta) := by
  subst eK
  exact pt_truth ha he
def truP : PV → Res Bool
  | .bl b => .val b
  | .int i => .val (i != 0)
  | .non => .val false
  | .lst l => .val (!l.isEmpty)
  | .tup l => .val (!l.isEmpty)
  | _ => .stuck
theorem isL_empty {K : PySem.W.Frag} {cl : Str → Option Addr} {F : Hp} {vs : List V} {ps : List PV} (h : IsL K cl F vs ps) : vs.isEmpty = ps.isEmpty := by cases h <;> rfl
section
variable {K : PySem.W.Frag} {cl : Str → Option Addr} {W : WX} {ρ : Ro} {ta : TE} {ma : Res PV}
theorem ts_tru (ha : Vw K cl W ta ρ ma) : Tst K cl W (tTru K ta) ρ (ma >>= truP) := fun O bs σ H Q R q => by
  refine ha O bs σ H _ R (wp_mono (wp_bind.mp q) (fun x qx v1 H1 s1 i1 => ?_) fun _ z => z)
  cases x with
  | bl b => cases isV_bl i1; exact ⟨b, rfl, qx H1 s1⟩
  | int i => cases isV_int i1; exact ⟨_, rfl, qx H1 s1⟩
  | non => cases i1; exact ⟨false, rfl, qx H1 s1⟩
  | lst l =>
    obtain ⟨a, vs, rfl, h1, r⟩ := i1
    refine ⟨!vs.isEmpty, .inl ⟨vs, .inl (.inl h1), rfl⟩, ?_⟩
    rw [isL_empty r]
    exact qx H1 s1
  | tup l =>
    cases i1 with
    | tup h r =>
      refine ⟨_, .inr (.inl ⟨_, frz_sub.sqT h, rfl⟩), ?_⟩
      rw [isL_empty r]
      exact qx H1 s1
  | _ => exact qx.elim
end
/-! ### sorted(list of ints); values that are tested with effects -/
def sortI (l : List Int) : List Int := l.mergeSort fun a b => decide (a ≤ b)
theorem sortI_perm (l : List Int) : (sortI l).Perm l := List.mergeSort_perm _ _
theorem sortI_sorted (l : List Int) : (sortI l).Pairwise (· ≤ ·) := by
  have := List.pairwise_mergeSort (le := fun a b : Int => decide (a ≤ b)) (fun a b c h1 h2 => decide_eq_true (Int.le_trans (of_decide_eq_true h1) (of_decide_eq_true h2)))
    (fun a b => by rcases Int.le_total a b with h | h <;> simp [h]) l
  exact this.imp fun h => of_decide_eq_true h
theorem sortI_unique {l m : List Int} (h1 : m.Perm l) (h2 : m.Pairwise (· ≤ ·)) : m = sortI l :=
  List.Perm.eq_of_pairwise (fun a b _ _ x y => Int.le_antisymm x y) h2 (sortI_sorted l) (h1.trans (sortI_perm l).symm)
section
variable {K : PySem.W.Frag} {cl : Str → Option Addr}
theorem cr_sortedIV (K : PySem.W.Frag) {X : Cx} (e : X.K = K) : CallR X (.builtin "sorted") (rSortedI K) := by subst e; exact cr_sortedI
def sortP (p : PV) : Res PV := asLi p >>= fun ps => match allI ps with
  | some is => .val (.lst ((sortI is).map PV.int))
  | none => .stuck
theorem isL_of_ints {F : Hp} : ∀ (is : List Int), IsL K cl F (is.map V.int) (is.map PV.int)
  | [] => .nil
  | i :: is => .cons (.int i) (isL_of_ints is)
theorem b1_sort : Bi1 K cl (rSortedI K) sortP := fun A H x p Q E hA ix w => by
  obtain ⟨a, vs, ps, rfl, hs, hl, w⟩ := wp_asLi (wp_bind.mp w) ix
  split at w
  · next is e =>
    cases allI_eq e
    cases hl.ints
    refine ⟨a, is, rfl, hs, fun ns' l h1 h2 hl' => ?_⟩
    cases sortI_unique h1 h2
    exact w _ _ (sub_new hl' _) (new_lst hA hl' (isL_of_ints _))
  · exact w.elim
end
section
variable {K : PySem.W.Frag} {cl : Str → Option Addr} {W : WX} {S : Type} {ρs : S → Ro} {ta tc : TE} {ma mb : S → Res (PV × S)}
theorem ef_andV (ha : Eff K cl ta ρs ma) (hb' : Eff K cl tc ρs mb) : Eff K cl (tAndV ta tc) ρs (fun s => ma s >>= fun x => asB x.1 >>= fun b => if b = true then mb x.2 else .val (.bl false, x.2)) := fun s O bs σ H Q R hb q => by
  refine ha s O bs σ H _ R hb (wp_mono (wp_bind.mp q) (fun x qx v1 H1 g1 R1 e1 i1 => ?_) fun _ z => z)
  obtain ⟨b, eb, qb⟩ := wp_asB (wp_bind.mp qx)
  obtain ⟨x1, s1⟩ := x
  have eb' : x1 = .bl b := eb
  subst eb'
  cases i1
  refine ⟨b, rfl, ?_⟩
  cases b with
  | true => exact hb' s1 O bs σ H1 _ R1 hb (wp_mono qb (fun c qc v H2 g2 R2 e2 i => qc v H2 (g1.trans (by rw [e1] at g2; exact g2)) R2 (e2.trans e1) (by rw [e1] at i; exact i)) fun _ z => z)
  | false => exact qb _ H1 g1 R1 e1 (.bl false)
theorem ef_orV (ha : Eff K cl ta ρs ma) (hb' : Eff K cl tc ρs mb) : Eff K cl (tOrV ta tc) ρs (fun s => ma s >>= fun x => asB x.1 >>= fun b => if b = true then .val (.bl true, x.2) else mb x.2) := fun s O bs σ H Q R hb q => by
  refine ha s O bs σ H _ R hb (wp_mono (wp_bind.mp q) (fun x qx v1 H1 g1 R1 e1 i1 => ?_) fun _ z => z)
  obtain ⟨b, eb, qb⟩ := wp_asB (wp_bind.mp qx)
  obtain ⟨x1, s1⟩ := x
  have eb' : x1 = .bl b := eb
  subst eb'
  cases i1
  refine ⟨b, rfl, ?_⟩
  cases b with
  | false => exact hb' s1 O bs σ H1 _ R1 hb (wp_mono qb (fun c qc v H2 g2 R2 e2 i => qc v H2 (g1.trans (by rw [e1] at g2; exact g2)) R2 (e2.trans e1) (by rw [e1] at i; exact i)) fun _ z => z)
  | true => exact qb _ H1 g1 R1 e1 (.bl true)
end
/-! ### list.index -/
section
variable {K : PySem.W.Frag} {cl : Str → Option Addr} {W : WX} {ρ : Ro} {ta te : TE} {ma m : Res PV}
def idxQ (ps : List PV) (k : PV) : Res PV := match flatP k, flatsP ps with
  | some y, some ys => match ys.findIdx? (fun z => eqV z y) with
    | some j => .val (.int (j : Nat))
    | none => .stuck
  | _, _ => .stuck
theorem mt_indexV (K : PySem.W.Frag) {X : Cx} (e : X.K = K) : MtR X "list.index" (rIndex K) := by subst e; exact mt_index
theorem pu_index (ha : Vw K cl W ta ρ ma) (hk : Pur K cl W te ρ m) : Pur K cl W (tBM K "list" (rIndex K) ta (tCons te tNil)) ρ (ma >>= asLi >>= fun ps => m >>= fun k => idxQ ps k) := fun O bs σ H Q R q => by
  rw [wp_bind, wp_bind] at q
  refine ha O bs σ H _ R (wp_mono q (fun x qx v1 H1 s1 i1 => ?_) fun _ z => z)
  obtain ⟨a, vs, ps, rfl, hs, hl, w⟩ := wp_asLi qx i1
  refine ⟨.inl ⟨rfl, vs, hs⟩, ?_⟩
  refine hk O bs σ H1 _ (R.same s1) (wp_mono (wp_bind.mp w) (fun k qk v2 H2 s2 i2 => ?_) fun _ z => z.mono s1)
  unfold idxQ at qk
  split at qk
  · next y ys ey eys =>
    split at qk
    · next j ej =>
      obtain ⟨rfl, fy⟩ := flatP_is i2 ey
      obtain ⟨rfl, fys⟩ := flatsP_is hl eys
      obtain ⟨h1, h2, h3⟩ := List.findIdx?_eq_some_iff_getElem.mp ej
      exact ⟨a, vs, v2, j, _, rfl, rfl, s2.sqL hs, fy, fys, List.getElem?_eq_getElem h1, h2, fun n z hn hz => by
        have hn' : n < vs.length := Nat.lt_trans hn h1
        rw [List.getElem?_eq_getElem hn'] at hz
        cases hz
        exact Bool.eq_false_iff.mpr (h3 n hn), qk _ H2 (s1.trans s2) (.int _)⟩
    · exact qk.elim
  · exact qk.elim
end
/-! ### max of three -/
def mx3 (i j k : Int) : Int := if j > i then (if k > j then k else j) else (if k > i then k else i)
def rMax3 : List V → Hp → VK → Prop := fun xs H Q => ∃ i j k, xs = [.int i, .int j, .int k] ∧ Q (.int (mx3 i j k)) H
open PySem.Spec PyProof.Rows in
theorem call_max3 {X : Cx} (hc : X.calm = true) : CallR X (.builtin "max") rMax3 := by
  intro pins s σ H xs us Q I r h
  obtain ⟨i, j, k, rfl, q⟩ := h
  cases r with
  | cons r1 r2 =>
    obtain ⟨u2, w2, rfl, ⟨t2, rfl⟩, ⟨t3, rfl⟩⟩ := vals2 r2
    obtain ⟨t1, rfl⟩ := r1
    refine max_three_ints (I.ok.hd hc) fun h' tk kp => ⟨_, H, I.kept kp, ?_, q⟩
    unfold mx3
    by_cases c1 : j > i
    · rw [if_pos c1, if_pos c1]
      by_cases c2 : k > j
      · rw [if_pos c2, if_pos c2]; exact ⟨_, rfl⟩
      · rw [if_neg c2, if_neg c2]; exact ⟨_, rfl⟩
    · rw [if_neg c1, if_neg c1]
      by_cases c2 : k > i
      · rw [if_pos c2, if_pos c2]; exact ⟨_, rfl⟩
      · rw [if_neg c2, if_neg c2]; exact ⟨_, rfl⟩
def max3P : PV → PV → PV → Res PV
  | .int i, .int j, .int k => .val (.int (mx3 i j k))
  | _, _, _ => .stuck
section
variable {K : PySem.W.Frag} {cl : Str → Option Addr} {W : WX} {ρ : Ro} {ta tb tc : TE} {ma mb mc : Res PV}
theorem pu_max3 (ha : Vw K cl W ta ρ ma) (hb : Vw K cl W tb ρ mb) (hc : Vw K cl W tc ρ mc) : Pur K cl W (tCB rMax3 (tCons ta (tCons tb (tCons tc tNil)))) ρ (ma >>= fun x => mb >>= fun y => mc >>= fun z => max3P x y z) := fun O bs σ H Q R q => by
  refine ha O bs σ H _ R (wp_mono (wp_bind.mp q) (fun x qx v1 H1 s1 i1 => ?_) fun _ z => z)
  refine hb O bs σ H1 _ (R.same s1) (wp_mono (wp_bind.mp qx) (fun y qy v2 H2 s2 i2 => ?_) fun _ z => z.mono s1)
  refine hc O bs σ H2 _ ((R.same s1).same s2) (wp_mono (wp_bind.mp qy) (fun z qz v3 H3 s3 i3 => ?_) fun _ z => z.mono (s1.trans s2))
  unfold max3P at qz
  split at qz
  · cases isV_int i1
    cases isV_int i2
    cases isV_int i3
    exact ⟨_, _, _, rfl, qz _ H3 (s1.trans (s2.trans s3)) (.int _)⟩
  · exact qz.elim
end
/-! ### tuple(reversed(list)) -/
section
variable {K : PySem.W.Frag} {cl : Str → Option Addr} {W : WX} {ρ : Ro} {ta : TE} {m : Res PV}
theorem isL_snoc {F : Hp} {v : V} {p : PV} (h : Is K cl F v p) : ∀ {vs : List V} {ps : List PV}, IsL K cl F vs ps → IsL K cl F (vs ++ [v]) (ps ++ [p])
  | _, _, .nil => .cons h .nil
  | _, _, .cons a r => .cons a (isL_snoc h r)
theorem isL_rev {F : Hp} : ∀ {vs : List V} {ps : List PV}, IsL K cl F vs ps → IsL K cl F vs.reverse ps.reverse
  | _, _, .nil => .nil
  | _, _, .cons a r => by
    rw [List.reverse_cons, List.reverse_cons]
    exact isL_snoc a (isL_rev r)
theorem pe_tupRevK (K : PySem.W.Frag) {X : Cx} (eK : X.K = K) {e : Expr} {te : TE} {p p2 pos pos2 : Pos} (hc : X.calm = true) (hg : Gl X "tuple") (hm : X.mg "tuple" = none) (hg2 : Gl X "reversed") (hm2 : X.mg "reversed" = none) (he : PE X e te)
    (hs : starEach [e] X.env = (false, eval e X.env) :: starEach [] X.env := by rfl)
    (hs2 : starEach [.Call (.Name "reversed" p2) [e] [] pos2] X.env = (false, eval (.Call (.Name "reversed" p2) [e] [] pos2) X.env) :: starEach [] X.env := by rfl) :
    PE X (.Call (.Name "tuple" p) [.Call (.Name "reversed" p2) [e] [] pos2] [] pos) (RT.tTupRev K te) := by
  subst eK
  exact RT.pe_tupRev hc hg hm hg2 hm2 he hs hs2
theorem pu_tupRev (ha : Pur K cl W ta ρ m) : Pur K cl W (RT.tTupRev K ta) ρ (m >>= asLi >>= fun ps => .val (.tup ps.reverse)) := fun O bs σ H Q R q => by
  rw [wp_bind, wp_bind] at q
  refine ha O bs σ H _ R (wp_mono q (fun x qx v1 H1 s1 i1 => ?_) fun _ z => z)
  have hA : ∀ a, a ∈ O ++ adr ρ σ → ∃ o, H1 a = some o := fun a h => (R.same s1).got h
  cases x with
  | lst ps =>
    cases i1 with
    | lst h l => exact ⟨_, _, rfl, .inl (.inl (frz_sub _ _ h)), fun p hp => qx _ _ (s1.trans (sub_new hp _)) (new_tup hA hp (isL_rev l))⟩
  | fls ps =>
    cases i1 with
    | fls h l => exact ⟨_, _, rfl, frz_sub.sqL h, fun p hp => qx _ _ (s1.trans (sub_new hp _)) (new_tup hA hp (isL_rev l))⟩
  | _ => exact qx.elim
end
/-! ### defs that are lent several things; new things with effects; dicts written out -/
section
variable (K : PySem.W.Frag) (cl : Str → Option Addr)
/-- arguments: at `true` a thing that is lent -/
inductive ArgG (F : Hp) : List Bool → List V → List Addr → List PV → Prop
  | nil : ArgG F [] [] [] []
  | pv {sg : List Bool} {vs : List V} {cs : List Addr} {ps : List PV} {v : V} {p : PV} : Is K cl F v p → ArgG F sg vs cs ps → ArgG F (false :: sg) (v :: vs) cs (p :: ps)
  | bx {sg : List Bool} {vs : List V} {cs : List Addr} {ps : List PV} {a : Addr} : ArgG F sg vs cs ps → ArgG F (true :: sg) (.ref a :: vs) (a :: cs) ps
inductive MosIs (F H : Hp) : List Addr → List MO → Prop
  | nil : MosIs F H [] []
  | cons {a : Addr} {m : MO} {as : List Addr} {ms : List MO} : MoIs K cl F H a m → MosIs F H as ms → MosIs F H (a :: as) (m :: ms)
def spM (sg : List Bool) (mf : List MO → List PV → Res (PV × List MO)) : Sp := fun vs H Q _ => ∃ O cs mos ps, ArgG K cl (frz H O) sg vs cs ps ∧ cs.Nodup ∧ (∀ c, c ∈ cs → c ∈ O) ∧ (∀ a, a ∈ O → ∃ o, H a = some o) ∧ MosIs K cl (frz H O) H cs mos ∧
  wp (mf mos ps) (fun r => ∀ v H', (∀ x o, x ∉ cs → H x = some o → H' x = some o) → MosIs K cl (frz H' O) H' cs r.2 → Is K cl (frz H' O) v r.1 → Q v H') (fun _ => False)
/-- the same, and it gives a new thing -/
def spMN (sg : List Bool) (mf : List MO → List PV → Res (MO × List MO)) : Sp := fun vs H Q _ => ∃ O cs mos ps, ArgG K cl (frz H O) sg vs cs ps ∧ cs.Nodup ∧ (∀ c, c ∈ cs → c ∈ O) ∧ (∀ a, a ∈ O → ∃ o, H a = some o) ∧ MosIs K cl (frz H O) H cs mos ∧
  wp (mf mos ps) (fun r => ∀ p H', (∀ x o, x ∉ cs → H x = some o → H' x = some o) → H p = none → MosIs K cl (frz H' (p :: O)) H' cs r.2 → MoIs K cl (frz H' (p :: O)) H' p r.1 → Q (.ref p) H') (fun _ => False)
end
def nT : List Bool → Nat
  | [] => 0
  | true :: s => nT s + 1
  | false :: s => nT s
def nF : List Bool → Nat
  | [] => 0
  | true :: s => nF s
  | false :: s => nF s + 1
inductive AtL (σ : St) : List Nat → List Addr → Prop
  | nil : AtL σ [] []
  | cons {i : Nat} {a : Addr} {is : List Nat} {as : List Addr} : σ[i]? = some (some (.ref a)) → AtL σ is as → AtL σ (i :: is) (a :: as)
inductive BoxL (ρ : Ro) : List Nat → List MO → Prop
  | nil : BoxL ρ [] []
  | cons {i : Nat} {s : Slot} {m : MO} {is : List Nat} {ms : List MO} : ρ[i]? = some s → (s = .ow m ∨ ∃ k, s = .rf k m) → BoxL ρ is ms → BoxL ρ (i :: is) (m :: ms)
def set1 (ρ : Ro) (i : Nat) (m : MO) : Ro := match ρ[i]? with
  | some s => ρ.set i (reSl s m)
  | none => ρ
def setsRo (ρ : Ro) : List Nat → List MO → Ro
  | i :: is, m :: ms => setsRo (set1 ρ i m) is ms
  | _, _ => ρ
section
variable {K : PySem.W.Frag} {cl : Str → Option Addr} {W : WX} {bs O A A1 B : List Addr} {F F' H H' H1 H2 : Hp} {ρ ρ' ρx ρh : Ro} {σ : St}
theorem ArgG.mono (s : Sub F F') : ∀ {sg : List Bool} {vs : List V} {cs : List Addr} {ps : List PV}, ArgG K cl F sg vs cs ps → ArgG K cl F' sg vs cs ps
  | _, _, _, _, .nil => .nil
  | _, _, _, _, .pv a r => .pv (a.mono s) (r.mono s)
  | _, _, _, _, .bx r => .bx (r.mono s)
theorem ArgG.len : ∀ {sg : List Bool} {vs : List V} {cs : List Addr} {ps : List PV}, ArgG K cl F sg vs cs ps → vs.length = sg.length
  | _, _, _, _, .nil => rfl
  | _, _, _, _, .pv _ r => congrArg (· + 1) r.len
  | _, _, _, _, .bx r => congrArg (· + 1) r.len
theorem ArgG.lens : ∀ {sg : List Bool} {vs : List V} {cs : List Addr} {ps : List PV}, ArgG K cl F sg vs cs ps → cs.length = nT sg ∧ ps.length = nF sg
  | _, _, _, _, .nil => ⟨rfl, rfl⟩
  | _, _, _, _, .pv _ r => ⟨r.lens.1, congrArg (· + 1) r.lens.2⟩
  | _, _, _, _, .bx r => ⟨congrArg (· + 1) r.lens.1, r.lens.2⟩
theorem MosIs.len : ∀ {cs : List Addr} {ms : List MO}, MosIs K cl F H cs ms → cs.length = ms.length
  | _, _, .nil => rfl
  | _, _, .cons _ r => congrArg (· + 1) r.len
theorem MosIs.mono (s : Sub F F') : ∀ {cs : List Addr} {ms : List MO}, MosIs K cl F H cs ms → (∀ c, c ∈ cs → ∀ o, H c = some o → H' c = some o) → MosIs K cl F' H' cs ms
  | _, _, .nil, _ => .nil
  | _, _, .cons a r, e => .cons (a.mono s fun o => e _ List.mem_cons_self o) (r.mono s fun c h => e c (List.mem_cons_of_mem _ h))
theorem MosIs.of : ∀ {cs : List Addr} {ms : List MO}, cs.length = ms.length → (∀ (k : Nat) (b : Addr) (m : MO), cs[k]? = some b → ms[k]? = some m → MoIs K cl F H b m) → MosIs K cl F H cs ms
  | [], [], _, _ => .nil
  | _ :: _, [], e, _ => by cases e
  | [], _ :: _, e, _ => by cases e
  | c :: cs, m :: ms, e, h => .cons (h 0 c m rfl rfl) (MosIs.of (Nat.succ.inj e) fun k b x h1 h2 => h (k + 1) b x (by simpa using h1) (by simpa using h2))
theorem AtL.mem : ∀ {is : List Nat} {cs : List Addr} {c : Addr}, AtL σ is cs → c ∈ cs → ∃ i, i ∈ is ∧ σ[i]? = some (some (.ref c))
  | _, _, _, .nil, h => nomatch h
  | _, _, c, .cons a r, h => by
    rcases List.mem_cons.mp h with e | e
    · subst e; exact ⟨_, List.mem_cons_self, a⟩
    · obtain ⟨i, h1, h2⟩ := r.mem e
      exact ⟨i, List.mem_cons_of_mem _ h1, h2⟩
theorem BoxL.at_ : ∀ {is : List Nat} {ms : List MO} {i : Nat}, BoxL ρ is ms → i ∈ is → ∃ s, ρ[i]? = some s ∧ ((∃ mo, s = .ow mo) ∨ ∃ k mo, s = .rf k mo)
  | _, _, _, .nil, h => nomatch h
  | _, _, i, .cons a z r, h => by
    rcases List.mem_cons.mp h with e | e
    · subst e; exact ⟨_, a, z.imp (fun e => ⟨_, e⟩) fun ⟨k, e⟩ => ⟨k, _, e⟩⟩
    · exact r.at_ e
theorem BoxL.set1 {i : Nat} {m : MO} : ∀ {is : List Nat} {ms : List MO}, i ∉ is → BoxL ρ is ms → BoxL (set1 ρ i m) is ms
  | _, _, _, .nil => .nil
  | j :: is, _, n, .cons a z r => by
    have ne : i ≠ j := fun e => n (by rw [e]; exact List.mem_cons_self)
    refine .cons ?_ z (r.set1 fun h => n (List.mem_cons_of_mem _ h))
    unfold Toy.set1
    split
    · rw [List.getElem?_set_ne ne]; exact a
    · exact a
theorem adr_set1 {i : Nat} {m : MO} : adr (set1 ρ i m) σ = adr ρ σ ∧ owa (set1 ρ i m) σ = owa ρ σ := by
  unfold set1
  split
  · next s h => exact adr_re h
  · exact ⟨rfl, rfl⟩
theorem AtL.addrs {ms : List MO} : ∀ {is : List Nat} {cs : List Addr}, (∀ i, i ∈ is → ∃ s, ρ[i]? = some s ∧ ((∃ mo, s = .ow mo) ∨ ∃ k mo, s = .rf k mo)) → AtL σ is cs → ∀ c, c ∈ cs → c ∈ adr ρ σ
  | is, cs, hb, h, c, hc => by
    obtain ⟨i, h1, h2⟩ := h.mem hc
    obtain ⟨s, h3, z⟩ := hb i h1
    exact adr_at h3 h2 z
theorem AtL.nodup : ∀ {is : List Nat} {cs : List Addr}, (adr ρ σ).Nodup → (∀ i, i ∈ is → ∃ s, ρ[i]? = some s ∧ ((∃ mo, s = .ow mo) ∨ ∃ k mo, s = .rf k mo)) → is.Nodup → AtL σ is cs → cs.Nodup
  | _, _, _, _, _, .nil => List.nodup_nil
  | i :: is, a :: cs, nd, hb, n, .cons e r => by
    obtain ⟨n1, n2⟩ := List.nodup_cons.mp n
    refine List.nodup_cons.mpr ⟨fun h => ?_, r.nodup nd (fun j hj => hb j (List.mem_cons_of_mem _ hj)) n2⟩
    obtain ⟨j, h1, h2⟩ := r.mem h
    obtain ⟨s, h3, z3⟩ := hb i List.mem_cons_self
    obtain ⟨t, h4, z4⟩ := hb j (List.mem_cons_of_mem _ h1)
    have := nodup_at nd h3 h4 e h2 z3 z4
    subst this
    exact n1 h1
/-- several objects at slots get other contents -/
theorem Rel.puts : ∀ {is : List Nat} {cs : List Addr} {mos ms' : List MO} {ρ : Ro} {H : Hp}, Rel K cl O bs ρ σ H → BoxL ρ is mos → is.Nodup → AtL σ is cs → (∀ x o, x ∉ cs → H x = some o → H2 x = some o) → MosIs K cl (frz H2 (O ++ adr ρ σ)) H2 cs ms' →
    Rel K cl O bs (setsRo ρ is ms') σ H2 ∧ adr (setsRo ρ is ms') σ = adr ρ σ
  | _, _, _, _, ρ, H, R, .nil, _, .nil, hk, .nil => ⟨R.same fun x o e => hk x o (fun z => nomatch z) e, rfl⟩
  | i :: is, a :: cs, m :: mos, m' :: ms', ρ, H, R, .cons hi z hb, nd, .cons ha hat, hk, .cons hm hms => by
    obtain ⟨n1, n2⟩ := List.nodup_cons.mp nd
    have hz : (∃ mo, _ = Slot.ow mo) ∨ (∃ k mo, _ = Slot.rf k mo) := z.imp (fun e => ⟨_, e⟩) fun ⟨k, e⟩ => ⟨k, _, e⟩
    have sub : ∀ c, c ∈ cs → c ∈ adr ρ σ := fun c hc => by
      obtain ⟨j, h1, h2⟩ := hat.mem hc
      obtain ⟨s, h3, z3⟩ := hb.at_ h1
      exact adr_at h3 h2 z3
    have na : a ∉ cs := fun hc => by
      obtain ⟨j, h1, h2⟩ := hat.mem hc
      obtain ⟨s, h3, z3⟩ := hb.at_ h1
      have := nodup_at R.nd hi h3 ha h2 hz z3
      subst this
      exact n1 h1
    let H1 : Hp := fun x => if x ∈ cs then H x else H2 x
    have e1 : ∀ x, x ∈ cs → H1 x = H x := fun x h => if_pos h
    have e2 : ∀ x, x ∉ cs → H1 x = H2 x := fun x h => if_neg h
    have hk1 : ∀ x o, x ≠ a → H x = some o → H1 x = some o := fun x o n e => by
      by_cases h : x ∈ cs
      · rw [e1 x h]; exact e
      · rw [e2 x h]; exact hk x o (fun q => by rcases List.mem_cons.mp q with q | q; exact n q; exact h q) e
    have s21 : Sub (frz H2 (O ++ adr ρ σ)) (frz H1 (O ++ adr ρ σ)) := fun x o e => by
      obtain ⟨n, e⟩ := frz_some.mp e
      refine frz_some.mpr ⟨n, ?_⟩
      rw [e2 x fun h => n (List.mem_append_right _ (sub x h))]
      exact e
    have hm1 : MoIs K cl (frz H1 (O ++ adr ρ σ)) H1 a m' := hm.mono s21 fun o e => by rw [e2 a na]; exact e
    obtain ⟨R1, _⟩ := R.putH (m' := m') hk1 hm1.got hi z ha hm1
    have es : ∀ s, ρ[i]? = some s → Toy.set1 ρ i m' = ρ.set i (reSl s m') := fun s h => by unfold Toy.set1; rw [h]
    rw [← es _ hi] at R1
    have ea : adr (Toy.set1 ρ i m') σ = adr ρ σ := (adr_set1).1
    obtain ⟨R2, e3⟩ := Rel.puts R1 (hb.set1 n1) n2 hat (fun x o n e => by rw [e2 x n] at e; exact e) (by rw [ea]; exact hms)
    exact ⟨R2, e3.trans ea⟩
theorem Rel.add {p : Addr} (R : Rel K cl O bs ρ σ H) (hp : H p = none) (o : HO) : Rel K cl (p :: O) bs ρ σ (upd H p o) := by
  refine ⟨R.sl.mono (fun x u e => ?_) fun x u _ e => sub_new hp o x u e, R.nd, fun x hx => ?_, fun x hx z => ?_⟩
  · obtain ⟨n, e⟩ := frz_some.mp e
    refine frz_some.mpr ⟨fun z => ?_, sub_new hp o x u e⟩
    rcases List.mem_cons.mp z with c | c
    · rw [c, hp] at e; cases e
    · exact n c
  · rcases List.mem_cons.mp hx with c | c
    · subst c; exact ⟨o, upd_same⟩
    · obtain ⟨u, e⟩ := R.al x c; exact ⟨u, sub_new hp o x u e⟩
  · rcases List.mem_cons.mp z with c | c
    · subst c
      obtain ⟨u, e⟩ := R.got (List.mem_append_right _ (owa_sub hx))
      rw [hp] at e; cases e
    · exact R.ow x hx c
/-- what stands apart becomes owned -/
theorem Rel.setowP {i : Nat} {mo : MO} {p : Addr} (R : Rel K cl (p :: O) bs ρ σ H) (hn : nad ρ i = true) (np : p ∉ O ++ adr ρ σ) (h : MoIs K cl (frz H (p :: (O ++ adr ρ σ))) H p mo) : Rel K cl O bs (ρ.set i (.ow mo)) (σ.set i (some (.ref p))) H := by
  obtain ⟨e1, e2⟩ := adr_seto (ρ := ρ) (σ := σ) (i := i) (m := mo) (p := p) R.sl.len hn
  have s2 : Sub (frz H (p :: (O ++ adr ρ σ))) (frz H (O ++ adr (ρ.set i (.ow mo)) (σ.set i (some (.ref p))))) := frz_less fun a ha => by
    rcases List.mem_append.mp ha with c | c
    · exact List.mem_cons_of_mem _ (List.mem_append_left _ c)
    · rcases List.mem_cons.mp (e1.mem_iff.mp c) with c | c
      · rw [c]; exact List.mem_cons_self
      · exact List.mem_cons_of_mem _ (List.mem_append_right _ c)
  refine ⟨(R.sl.mono s2 fun _ _ _ e => e).set ⟨p, rfl, h.mono s2 fun _ e => e⟩, e1.nodup_iff.mpr (List.nodup_cons.mpr ⟨fun z => np (List.mem_append_right _ z), R.nd⟩), fun a ha => R.al a (List.mem_cons_of_mem _ ha), fun a ha z => ?_⟩
  rcases List.mem_cons.mp (e2.mem_iff.mp ha) with c | c
  · subst c; exact np (List.mem_append_left _ z)
  · exact R.ow a c (List.mem_cons_of_mem _ z)
end
/-! ### calls of such defs -/
section
variable (K : PySem.W.Frag) (cl : Str → Option Addr)
def EffA {S : Type} (t : TA) (sg : List Bool) (is : List Nat) (ρs : S → Ro) (m : S → Res (List PV × S)) : Prop := ∀ (s : S) (O bs : List Addr) (σ : St) (H : Hp) (Q : List V → Hp → Prop), Rel K cl O bs (ρs s) σ H → (∀ b, b ∈ bs → b ∈ O) →
  wp (m s) (fun r => ∀ vs cs H', Gr (adr (ρs s) σ) H (adr (ρs s) σ) H' → Rel K cl O bs (ρs r.2) σ H' → adr (ρs r.2) σ = adr (ρs s) σ → ArgG K cl (frz H' (O ++ adr (ρs s) σ)) sg vs cs r.1 → AtL σ is cs → Q vs H') (fun _ => False) → t σ H Q
/-- a new thing, made with effects: it stands apart -/
def EffN {S : Type} (t : TE) (ρs : S → Ro) (m : S → Res (MO × S)) : Prop := ∀ (s : S) (O bs : List Addr) (σ : St) (H : Hp) (Q : VK), Rel K cl O bs (ρs s) σ H → (∀ b, b ∈ bs → b ∈ O) →
  wp (m s) (fun r => ∀ p H', Gr (adr (ρs s) σ) H (adr (ρs s) σ) H' → p ∉ O ++ adr (ρs s) σ → H p = none → Rel K cl (p :: O) bs (ρs r.2) σ H' → adr (ρs r.2) σ = adr (ρs s) σ → MoIs K cl (frz H' (p :: (O ++ adr (ρs s) σ))) H' p r.1 → Q (.ref p) H') (fun _ => False) → t σ H Q
end
section
variable {K : PySem.W.Frag} {cl : Str → Option Addr} {W : WX} {bs O A A1 B : List Addr} {F H H' H1 : Hp} {ρ ρ' ρx ρh : Ro} {σ : St} {S S1 S2 L : Type} {ρs : S → Ro} {ρn : S1 → Ro} {ρj : S2 → Ro} {ρl : L → Ro} {D : Ends} {t u v tb : TS} {te ta tc td : TE} {m : S → Res PV} {ma mb mc md : S → Res (PV × S)} {tr : TA} {ml mk : S → Res (List PV × S)} {sg : List Bool} {is : List Nat}
theorem ea_nil : EffA K cl tNil [] [] ρs (fun s => .val ([], s)) := fun s O bs σ H Q R hb q => q [] [] H .refl R rfl .nil .nil
theorem ea_cons (ha : Eff K cl ta ρs ma) (hl : EffA K cl tr sg is ρs ml) : EffA K cl (tCons ta tr) (false :: sg) is ρs (fun s => ma s >>= fun x => ml x.2 >>= fun xs => .val (x.1 :: xs.1, xs.2)) := fun s O bs σ H Q R hb q => by
  refine ha s O bs σ H _ R hb (wp_mono (wp_bind.mp q) (fun x qx v1 H1 g1 R1 e1 i1 => ?_) fun _ z => z)
  refine hl x.2 O bs σ H1 _ R1 hb (wp_mono (wp_bind.mp qx) (fun xs qs vs cs H2 g2 R2 e2 i2 a2 => ?_) fun _ z => z)
  rw [e1] at g2 i2
  exact qs _ cs H2 (g1.trans g2) R2 (e2.trans e1) (.pv (i1.mono (g2.sub R1.al)) i2) a2
theorem ea_box {i : Nat} {sl : S → Slot} (hi : ∀ s, (ρs s)[i]? = some (sl s)) (hs : ∀ s, (∃ mo, sl s = .ow mo) ∨ ∃ k mo, sl s = .rf k mo) (hl : EffA K cl tr sg is ρs ml) : EffA K cl (tCons (tVar i) tr) (true :: sg) (i :: is) ρs ml := fun s O bs σ H Q R hb q => by
  have ha : ∃ a, σ[i]? = some (some (.ref a)) := by
    obtain ⟨x, e, q⟩ := R.sl.get (hi s)
    rcases hs s with ⟨mo, h⟩ | ⟨k, mo, h⟩
    · rw [h] at q; obtain ⟨a, rfl, _⟩ := q; exact ⟨a, e⟩
    · rw [h] at q; obtain ⟨a, rfl, _⟩ := q; exact ⟨a, e⟩
  obtain ⟨a, ha⟩ := ha
  exact ⟨_, ha, hl s O bs σ H _ R hb (wp_mono q (fun xs qs vs cs H2 g2 R2 e2 i2 a2 => qs (.ref a :: vs) (a :: cs) H2 g2 R2 e2 (.bx i2) (.cons ha a2)) fun _ z => z)⟩
theorem BoxL.all (h : BoxL ρ is ms) : ∀ i, i ∈ is → ∃ s, ρ[i]? = some s ∧ ((∃ mo, s = .ow mo) ∨ ∃ k mo, s = .rf k mo) := fun _ hi => h.at_ hi
theorem Rel.mos {cs : List Addr} {ms : List MO} (R : Rel K cl O bs ρ σ H) : BoxL ρ is ms → AtL σ is cs → MosIs K cl (frz H (O ++ adr ρ σ)) H cs ms := by
  intro hb
  induction hb generalizing cs with
  | nil => intro h; cases h; exact .nil
  | @cons i s m is ms hi z hb ih =>
    intro h
    cases h with
    | @cons _ a _ as e r =>
      refine .cons ?_ (ih r)
      obtain ⟨x, e2, q⟩ := R.sl.get hi
      rw [e] at e2
      cases e2
      rcases z with rfl | ⟨k, rfl⟩
      · obtain ⟨b, e, q⟩ := q; cases e; exact q
      · obtain ⟨b, e, _, q⟩ := q; cases e; exact q
theorem ef_callM {mf : List MO → List PV → Res (PV × List MO)} {get : S → List MO} {put : S → List MO → Res S} (nd : is.Nodup) (hi : ∀ s, BoxL (ρs s) is (get s)) (hp : ∀ s mos s', put s mos = .val s' → setsRo (ρs s) is mos = ρs s') (hl : EffA K cl tr sg is ρs ml) :
    Eff K cl (tCallS (spM K cl sg mf) (WE W) tr) ρs (fun s => ml s >>= fun xs => mf (get xs.2) xs.1 >>= fun r => put xs.2 r.2 >>= fun s' => .val (r.1, s')) := fun s O bs σ H Q R hb q => by
  refine hl s O bs σ H _ R hb (wp_mono (wp_bind.mp q) (fun ps qs vs cs H1 g1 R1 e1 i1 a1 => ?_) fun _ z => z)
  have sub := AtL.addrs (ms := get ps.2) (hi ps.2).all a1
  have hA : ∀ a, a ∈ O ++ adr (ρs s) σ → ∃ o, H1 a = some o := fun a h => R1.got (by rw [e1]; exact h)
  have hm := R1.mos (hi ps.2) a1
  rw [e1] at hm sub
  refine ⟨O ++ adr (ρs s) σ, cs, get ps.2, ps.1, i1, a1.nodup R1.nd (hi ps.2).all nd, fun c h => List.mem_append_right _ (sub c h), hA, hm, wp_mono (wp_bind.mp qs) (fun r qr v H' hk hmo iv => ?_) fun _ z => z⟩
  obtain ⟨R2, e2⟩ := R1.puts (hi ps.2) nd a1 hk (by rw [e1]; exact hmo)
  have g2 : Gr (adr (ρs s) σ) H1 (adr (ρs s) σ) H' := ⟨fun x o n e => hk x o (fun z => n (sub x z)) e, fun _ h => .inl h⟩
  cases hpu : put ps.2 r.2 with
  | val s' =>
    rw [hp _ _ _ hpu] at R2 e2
    have qr := wp_bind.mp qr
    rw [hpu] at qr
    have qr' : ∀ v H', Gr (adr (ρs s) σ) H (adr (ρs s) σ) H' → Rel K cl O bs (ρs s') σ H' → adr (ρs s') σ = adr (ρs s) σ → Is K cl (frz H' (O ++ adr (ρs s) σ)) v r.1 → Q v H' := qr
    exact qr' v H' (g1.trans g2) R2 (e2.trans e1) iv
  | exc c =>
    have qr := wp_bind.mp qr
    rw [hpu] at qr
    exact qr.elim
  | stuck =>
    have qr := wp_bind.mp qr
    rw [hpu] at qr
    exact qr.elim
theorem ef_callMN {mf : List MO → List PV → Res (MO × List MO)} {get : S → List MO} {put : S → List MO → Res S} (nd : is.Nodup) (hi : ∀ s, BoxL (ρs s) is (get s)) (hp : ∀ s mos s', put s mos = .val s' → setsRo (ρs s) is mos = ρs s') (hl : EffA K cl tr sg is ρs ml) :
    EffN K cl (tCallS (spMN K cl sg mf) (WE W) tr) ρs (fun s => ml s >>= fun xs => mf (get xs.2) xs.1 >>= fun r => put xs.2 r.2 >>= fun s' => .val (r.1, s')) := fun s O bs σ H Q R hb q => by
  refine hl s O bs σ H _ R hb (wp_mono (wp_bind.mp q) (fun ps qs vs cs H1 g1 R1 e1 i1 a1 => ?_) fun _ z => z)
  have sub := AtL.addrs (ms := get ps.2) (hi ps.2).all a1
  have hA : ∀ a, a ∈ O ++ adr (ρs s) σ → ∃ o, H1 a = some o := fun a h => R1.got (by rw [e1]; exact h)
  have hm := R1.mos (hi ps.2) a1
  rw [e1] at hm sub
  refine ⟨O ++ adr (ρs s) σ, cs, get ps.2, ps.1, i1, a1.nodup R1.nd (hi ps.2).all nd, fun c h => List.mem_append_right _ (sub c h), hA, hm, wp_mono (wp_bind.mp qs) (fun r qr p H' hk hpn hmo iv => ?_) fun _ z => z⟩
  have np : p ∉ O ++ adr (ρs s) σ := fun h => by obtain ⟨o, e⟩ := hA p h; rw [hpn] at e; cases e
  obtain ⟨o, ho⟩ := iv.got
  have R1' := R1.add hpn o
  obtain ⟨R2, e2⟩ := R1'.puts (H2 := H') (hi ps.2) nd a1 (fun x u n e => by
    by_cases c : x = p
    · subst c; rw [upd_same] at e; cases e; exact ho
    · rw [upd_ne c] at e; exact hk x u n e) (by rw [e1]; exact hmo)
  have g2 : Gr (adr (ρs s) σ) H1 (adr (ρs s) σ) H' := ⟨fun x o n e => hk x o (fun z => n (sub x z)) e, fun _ h => .inl h⟩
  have hpH : H p = none := by
    cases e : H p with
    | none => rfl
    | some u => rw [g1.1 p u (fun z => np (List.mem_append_right _ z)) e] at hpn; cases hpn
  cases hpu : put ps.2 r.2 with
  | val s' =>
    rw [hp _ _ _ hpu] at R2 e2
    have qr := wp_bind.mp qr
    rw [hpu] at qr
    have qr' : ∀ p H', Gr (adr (ρs s) σ) H (adr (ρs s) σ) H' → p ∉ O ++ adr (ρs s) σ → H p = none → Rel K cl (p :: O) bs (ρs s') σ H' → adr (ρs s') σ = adr (ρs s) σ → MoIs K cl (frz H' (p :: (O ++ adr (ρs s) σ))) H' p r.1 → Q (.ref p) H' := qr
    exact qr' p H' (g1.trans g2) np hpH R2 (e2.trans e1) iv
  | exc c =>
    have qr := wp_bind.mp qr
    rw [hpu] at qr
    exact qr.elim
  | stuck =>
    have qr := wp_bind.mp qr
    rw [hpu] at qr
    exact qr.elim
theorem run_setoE {i : Nat} {s0 : S} {mn : S → Res (MO × S)} {n : MO → S → Res (Fl S1 L)} (he : EffN K cl te ρs mn) (e0 : ρs s0 = ρ) (hn : ∀ s, nad (ρs s) i = true) (h : ∀ x s, Runs K cl W u ((ρs s).set i (.ow x)) (n x s) ρn ρl ρx) :
    Runs K cl W (tSeq (tAsg te (gName i)) u) ρ (noX (mn s0) >>= fun r => n r.1 r.2) ρn ρl ρx := fun O bs σ H D R hb q => by
  subst e0
  refine he s0 O bs σ H _ R hb (wp_mono (wp_noX (E' := fun _ => False) (wp_bind.mp q)) (fun x qx p H' g1 np hpn R1 e1 hm => ?_) fun _ z => z)
  have np1 : p ∉ O ++ adr (ρs x.2) σ := by rw [e1]; exact np
  obtain ⟨ep, _⟩ := adr_seto (ρ := ρs x.2) (σ := σ) (i := i) (m := x.1) (p := p) R1.sl.len (hn _)
  have R2 := R1.setowP (hn _) np1 (by rw [e1]; exact hm)
  have g : Gr (adr (ρs s0) σ) H (adr ((ρs x.2).set i (.ow x.1)) (σ.set i (some (.ref p)))) H' := ⟨g1.1, fun y hy => by
    rcases List.mem_cons.mp (ep.mem_iff.mp hy) with c | c
    · rw [c]; exact .inr hpn
    · rw [e1] at c; exact .inl c⟩
  exact h x.1 x.2 O bs _ H' D R2 hb (wp_mono qx (fun _ z => z.step g) fun _ z => z.step g)
end
/-! ### such defs -/
def sgRo : List Bool → Nat → List MO → List PV → Ro
  | false :: sg, k, mos, q :: qs => .fz q :: sgRo sg k mos qs
  | true :: sg, k, m :: mos, qs => .rf k m :: sgRo sg (k + 1) mos qs
  | _, _, _, _ => []
def retM (n : Nat) (M : Res (Fl Unit Empty)) : Res (PV × List MO) := M >>= fun f => match f with
  | .rt v r => if r.length = n then .val (v, r) else .stuck
  | .ro _ _ => .stuck
  | .nx _ => .stuck
def retMN (n : Nat) (M : Res (Fl Unit Empty)) : Res (MO × List MO) := M >>= fun f => match f with
  | .ro mo r => if r.length = n then .val (mo, r) else .stuck
  | .rt _ _ => .stuck
  | .nx _ => .stuck
section
variable {P : Program} {w : World} {K : PySem.W.Frag} {mg : Str → Option Value} {base : Heap} {cl : Str → Option Addr}
theorem sg_adr : ∀ {sg : List Bool} {vs : List V} {cs : List Addr} {ps : List PV} {F : Hp} {mos : List MO} (k n : Nat), ArgG K cl F sg vs cs ps → cs.length = mos.length → adr (sgRo sg k mos ps ++ uns n) (vs.map some ++ List.replicate n none) = cs ∧ owa (sgRo sg k mos ps ++ uns n) (vs.map some ++ List.replicate n none) = []
  | _, _, _, _, _, [], k, n, .nil, _ => ⟨uns_adr n _, fz_owa [] n _⟩
  | _, _, _, _, _, mos, k, n, .pv _ r, e => by
    have h := sg_adr (mos := mos) k n r e
    exact h
  | _, _, _, _, _, m :: mos, k, n, .bx r, e => by
    obtain ⟨h1, h2⟩ := sg_adr (k + 1) n r (Nat.succ.inj e)
    exact ⟨congrArg (_ :: ·) h1, h2⟩
theorem uns_rel {bs : List Addr} {F H : Hp} : ∀ n : Nat, RelS K cl bs F H (uns n) (List.replicate n none)
  | 0 => .nil
  | n + 1 => .cons trivial (uns_rel n)
theorem sg_rel {bs : List Addr} {H : Hp} : ∀ {sg : List Bool} {vs : List V} {cs : List Addr} {ps : List PV} {F : Hp} {mos : List MO} (k n : Nat), ArgG K cl F sg vs cs ps → MosIs K cl F H cs mos → (∀ j, bs[k + j]? = cs[j]? ∨ cs[j]? = none) → RelS K cl bs F H (sgRo sg k mos ps ++ uns n) (vs.map some ++ List.replicate n none)
  | _, _, _, _, _, _, k, n, .nil, .nil, _ => uns_rel n
  | _, _, _, _, _, _, k, n, .pv a r, h, e => .cons ⟨_, rfl, a⟩ (sg_rel k n r h e)
  | _, _, _, _, _, _, k, n, .bx (a := a) r, .cons h hs, e => .cons ⟨_, rfl, (by
      rcases e 0 with e | e
      · exact e
      · exact nomatch e), h⟩ (sg_rel (k + 1) n r hs fun j => by
      have := e (j + 1)
      rw [show k + 1 + j = k + (j + 1) by omega]
      simpa using this)
open PySem.Spec PyProof.Rows in
theorem fnM {x qual : Str} {st : Stmt} {f : Addr} {fd : FuncData} {N ps : List Str} {k : Nat} {sg : List Bool} {mf : List MO → List PV → Res (PV × List MO)} (F : Fun K x qual st f fd) (S : FnScope N ps (defScope st)) (hn : ps.length = sg.length)
    (h : ∀ (cdv : Value) (A : Around) (outer : List Env) (s : Shared) (H : Hp) (E : XK), Room k (A.deeper (envOfC qual (defScope st) s.heap.objs.size f cdv)) → ∀ (mos : List MO) (qs : List PV), mos.length = nT sg → qs.length = nF sg → mf mos qs = .stuck ∨
      ∃ t, PSs (cxOf (L2.CX P w) P w K mg base N qual (defScope st) f cdv A outer s H E) (defBody st) t ∧ ∃ M, Runs K cl (fun c d _ H' => E c d H') t (sgRo sg 0 mos qs ++ uns (N.length - sg.length)) M (fun _ : Unit => uns N.length) (fun l : Empty => nomatch l) (uns N.length) ∧ mf mos qs = retM (nT sg) M) :
    FnOk P w K mg base (L2.CX P w) (k + 1) f fd ps (spM K cl sg mf) := by
  have len : ∀ vs H Q E, spM K cl sg mf vs H Q E → vs.length = sg.length := fun vs H Q E ⟨O, cs, mos, qs, ha, _⟩ => ha.len
  refine F.okX S (fun vs H Q E h => (len vs H Q E h).trans hn.symm) (fun cdv A outer s H vs Q E hr hsp => ?_)
  have hvn := len vs H Q E hsp
  obtain ⟨O, cs, mos, qs, ha, nd, hc, hO, hm, hw⟩ := hsp
  rcases h cdv A outer s H E hr mos qs (hm.len.symm.trans ha.lens.1) ha.lens.2 with e | ⟨t, ht, M, hM, e⟩
  · rw [e] at hw; exact hw.elim
  refine ⟨t, ht, ?_⟩
  rw [e] at hw
  have st0 : L2.start N vs = vs.map some ++ List.replicate (N.length - sg.length) none := by unfold L2.start; rw [hvn]
  rw [st0]
  obtain ⟨ea, eo⟩ := sg_adr (mos := mos) 0 (N.length - sg.length) ha hm.len
  have sO : Sub (frz H O) (frz H (O ++ cs)) := frz_less fun a ha => by
    rcases List.mem_append.mp ha with c | c
    · exact c
    · exact hc a c
  have R : Rel K cl O cs (sgRo sg 0 mos qs ++ uns (N.length - sg.length)) (vs.map some ++ List.replicate (N.length - sg.length) none) H := by
    refine ⟨?_, by rw [ea]; exact nd, hO, by rw [eo]; exact fun _ z => nomatch z⟩
    rw [ea]
    exact sg_rel 0 _ (ha.mono sO) (hm.mono sO fun _ _ _ e => e) fun j => by rw [Nat.zero_add]; exact .inl rfl
  refine hM O cs _ H _ R hc (wp_mono (wp_bind.mp hw) (fun fl q => ?_) fun c q => q.elim)
  rw [ea]
  cases fl with
  | nx u => exact q.elim
  | rt v r =>
    have q2 : wp (if r.length = nT sg then (.val (v, r) : Res (PV × List MO)) else .stuck) (fun r => ∀ v H', (∀ x o, x ∉ cs → H x = some o → H' x = some o) → MosIs K cl (frz H' O) H' cs r.2 → Is K cl (frz H' O) v r.1 → Q v H') (fun _ => False) := q
    split at q2
    · next el => exact fun w' H' g i hbm => q2 w' H' (fun x o n e => g.1 x o n e) (MosIs.of (ha.lens.1.trans el.symm) hbm) i
    · exact q2.elim
  | ro mo r => exact q.elim
  | bk l => exact nomatch l
  | ct l => exact nomatch l
open PySem.Spec PyProof.Rows in
theorem fnMN {x qual : Str} {st : Stmt} {f : Addr} {fd : FuncData} {N ps : List Str} {k : Nat} {sg : List Bool} {mf : List MO → List PV → Res (MO × List MO)} (F : Fun K x qual st f fd) (S : FnScope N ps (defScope st)) (hn : ps.length = sg.length)
    (h : ∀ (cdv : Value) (A : Around) (outer : List Env) (s : Shared) (H : Hp) (E : XK), Room k (A.deeper (envOfC qual (defScope st) s.heap.objs.size f cdv)) → ∀ (mos : List MO) (qs : List PV), mos.length = nT sg → qs.length = nF sg → mf mos qs = .stuck ∨
      ∃ t, PSs (cxOf (L2.CX P w) P w K mg base N qual (defScope st) f cdv A outer s H E) (defBody st) t ∧ ∃ M, Runs K cl (fun c d _ H' => E c d H') t (sgRo sg 0 mos qs ++ uns (N.length - sg.length)) M (fun _ : Unit => uns N.length) (fun l : Empty => nomatch l) (uns N.length) ∧ mf mos qs = retMN (nT sg) M) :
    FnOk P w K mg base (L2.CX P w) (k + 1) f fd ps (spMN K cl sg mf) := by
  have len : ∀ vs H Q E, spMN K cl sg mf vs H Q E → vs.length = sg.length := fun vs H Q E ⟨O, cs, mos, qs, ha, _⟩ => ha.len
  refine F.okX S (fun vs H Q E h => (len vs H Q E h).trans hn.symm) (fun cdv A outer s H vs Q E hr hsp => ?_)
  have hvn := len vs H Q E hsp
  obtain ⟨O, cs, mos, qs, ha, nd, hc, hO, hm, hw⟩ := hsp
  rcases h cdv A outer s H E hr mos qs (hm.len.symm.trans ha.lens.1) ha.lens.2 with e | ⟨t, ht, M, hM, e⟩
  · rw [e] at hw; exact hw.elim
  refine ⟨t, ht, ?_⟩
  rw [e] at hw
  have st0 : L2.start N vs = vs.map some ++ List.replicate (N.length - sg.length) none := by unfold L2.start; rw [hvn]
  rw [st0]
  obtain ⟨ea, eo⟩ := sg_adr (mos := mos) 0 (N.length - sg.length) ha hm.len
  have sO : Sub (frz H O) (frz H (O ++ cs)) := frz_less fun a ha => by
    rcases List.mem_append.mp ha with c | c
    · exact c
    · exact hc a c
  have R : Rel K cl O cs (sgRo sg 0 mos qs ++ uns (N.length - sg.length)) (vs.map some ++ List.replicate (N.length - sg.length) none) H := by
    refine ⟨?_, by rw [ea]; exact nd, hO, by rw [eo]; exact fun _ z => nomatch z⟩
    rw [ea]
    exact sg_rel 0 _ (ha.mono sO) (hm.mono sO fun _ _ _ e => e) fun j => by rw [Nat.zero_add]; exact .inl rfl
  refine hM O cs _ H _ R hc (wp_mono (wp_bind.mp hw) (fun fl q => ?_) fun c q => q.elim)
  rw [ea]
  cases fl with
  | nx u => exact q.elim
  | rt v r => exact q.elim
  | ro mo r =>
    have q2 : wp (if r.length = nT sg then (.val (mo, r) : Res (MO × List MO)) else .stuck) (fun r => ∀ p H', (∀ x o, x ∉ cs → H x = some o → H' x = some o) → H p = none → MosIs K cl (frz H' (p :: O)) H' cs r.2 → MoIs K cl (frz H' (p :: O)) H' p r.1 → Q (.ref p) H') (fun _ => False) := q
    split at q2
    · next el =>
      intro p H' g n hm' hbm
      refine q2 p H' (fun x o n e => g.1 x o n e) ?_ (MosIs.of (ha.lens.1.trans el.symm) hbm) hm'
      rcases g.2 p (by simp) with c | c
      · exact absurd (hc p c) n
      · exact c
    · exact q2.elim
  | bk l => exact nomatch l
  | ct l => exact nomatch l
end
/-! ### dicts written out; defs that look at what is owned; properties -/
section
variable (K : PySem.W.Frag) (cl : Str → Option Addr) (W : WX)
inductive VsV (F H : Hp) : List V → List PV → Prop
  | nil : VsV F H [] []
  | cons {v : V} {p : PV} {vs : List V} {ps : List PV} : IsV K cl F H v p → VsV F H vs ps → VsV F H (v :: vs) (p :: ps)
def VwL (t : TA) (ρ : Ro) (m : Res (List PV)) : Prop := ∀ (O bs : List Addr) (σ : St) (H : Hp) (Q : List V → Hp → Prop), Rel K cl O bs ρ σ H →
  wp m (fun r => ∀ vs H', Sub H H' → VsV K cl (frz H' (O ++ adr ρ σ)) H' vs r → Q vs H') (XW cl W σ H) → t σ H Q
def PurP (t : List (TE × TE)) (ρ : Ro) (m : Res (List (Key × PV))) : Prop := ∀ (O bs : List Addr) (σ : St) (H : Hp) (Q : List (V × V) → Hp → Prop), Rel K cl O bs ρ σ H →
  wp m (fun r => ∀ kvs H', Sub H H' → IsK K cl (frz H' (O ++ adr ρ σ)) kvs r → Q (kvs.map fun kv => (kV kv.1, kv.2)) H') (XW cl W σ H) → tPairs t σ H Q
end
def flS : PV → Res PV
  | .int i => .val (.int i)
  | .bl b => .val (.bl b)
  | .non => .val .non
  | .str x => .val (.str x)
  | _ => .stuck
def mergeP (kvs more : List (Key × PV)) : List (Key × PV) := more.foldl (fun acc kv => putP acc kv.1 kv.2) kvs
def upto15 (n : Nat) : Res Unit := if n ≤ 15 then .val () else .stuck
section
variable {K : PySem.W.Frag} {cl : Str → Option Addr} {W : WX} {bs O A A1 B : List Addr} {F F' G H H' H1 : Hp} {ρ ρ' ρx ρh : Ro} {σ : St} {S S1 L : Type} {ρn : S → Ro} {ρl : L → Ro} {D : Ends} {t u v tb tk tv : TS} {te ta tc td : TE} {m ma mb : Res PV} {tr : TA} {ml : Res (List PV)} {md : Res (List (Key × PV))}
theorem flS_move {v : V} {r : PV} {Q : PV → Prop} {E : Str → Prop} (q : wp (flS r) Q E) (h : Is K cl F v r) : Q r ∧ Is K cl G v r := by
  cases r with
  | int i => cases h; exact ⟨q, .int i⟩
  | bl i => cases h; exact ⟨q, .bl i⟩
  | non => cases h; exact ⟨q, .non⟩
  | str x => cases h; exact ⟨q, .str x⟩
  | _ => exact q.elim
theorem VsV.mono (s : Sub F F') (s2 : Sub H H') : ∀ {vs : List V} {ps : List PV}, VsV K cl F H vs ps → VsV K cl F' H' vs ps
  | _, _, .nil => .nil
  | _, _, .cons a r => .cons (a.mono s s2) (r.mono s s2)
theorem vl_nil : VwL K cl W tNil ρ (.val []) := fun O bs σ H Q R q => q [] H .refl .nil
theorem vl_cons (ha : Vw K cl W ta ρ ma) (hl : VwL K cl W tr ρ ml) : VwL K cl W (tCons ta tr) ρ (ma >>= fun x => ml >>= fun xs => .val (x :: xs)) := fun O bs σ H Q R q => by
  refine ha O bs σ H _ R (wp_mono (wp_bind.mp q) (fun x qx v1 H1 s1 i1 => ?_) fun _ z => z)
  refine hl O bs σ H1 _ (R.same s1) (wp_mono (wp_bind.mp qx) (fun xs qs vs H2 s2 i2 => ?_) fun _ z => z.mono s1)
  exact qs _ H2 (s1.trans s2) (.cons (i1.mono (frz_same s2) s2) i2)
open Classical in
theorem VsV.strict {vs0 vs : List V} {ps : List PV} (r : VsV K cl (frz H A) H vs ps) : (∀ v, v ∈ vs → v ∈ vs0) → IsL K cl (frz H (A.filter fun x => decide (V.ref x ∉ vs0))) vs ps := by
  induction r with
  | nil => exact fun _ => .nil
  | @cons v p vs ps a r ih =>
    intro h
    have less : Sub (frz H A) (frz H (A.filter fun x => decide (V.ref x ∉ vs0))) := frz_less fun x hx => (List.mem_filter.mp hx).1
    have hv := h v List.mem_cons_self
    refine .cons ?_ (ih fun v hv => h v (List.mem_cons_of_mem _ hv))
    cases p with
    | lst ps =>
      obtain ⟨a, vs', rfl, h1, r1⟩ := a
      exact .lst (frz_some.mpr ⟨fun z => by have := (List.mem_filter.mp z).2; simp at this; exact this hv, h1⟩) (r1.mono less)
    | dct ps =>
      obtain ⟨a, vs', rfl, h1, r1⟩ := a
      exact .dct (frz_some.mpr ⟨fun z => by have := (List.mem_filter.mp z).2; simp at this; exact this hv, h1⟩) (r1.mono less)
    | non => exact Is.mono less a
    | bl b => exact Is.mono less a
    | int i => exact Is.mono less a
    | str x => exact Is.mono less a
    | tup ps => exact Is.mono less a
    | fls ps => exact Is.mono less a
    | ins C fs => exact Is.mono less a
    | ty n => exact Is.mono less a
open Classical in
/-- a def that looks at owned things and gives a plain value -/
theorem pu_callF {mf : List PV → Res PV} (hl : VwL K cl W tr ρ ml) : Pur K cl W (tCallS (spP K cl mf) (WE W) tr) ρ (ml >>= fun ps => mf ps >>= flS) := fun O bs σ H Q R q => by
  refine hl O bs σ H _ R (wp_mono (wp_bind.mp q) (fun ps qs vs H1 s1 i1 => ?_) fun _ z => z)
  refine ⟨(O ++ adr ρ σ).filter fun x => decide (V.ref x ∉ vs), ps, fun a h => (R.same s1).got (List.mem_filter.mp h).1, i1.strict (fun _ h => h), wp_mono (wp_bind.mp qs) (fun r qr v H' s i => ?_) fun c qc C H' e s => qc C H' e (s1.trans s)⟩
  obtain ⟨q1, i'⟩ := flS_move (G := frz H' (O ++ adr ρ σ)) qr i
  exact q1 v H' (s1.trans s) i'
/-! dicts written out -/
theorem pp_nil : PurP K cl W [] ρ (.val []) := fun O bs σ H Q R q => q [] H .refl .nil
theorem pp_cons {trs : List (TE × TE)} (hk : Pur K cl W ta ρ ma) (hv : Pur K cl W te ρ m) (hr : PurP K cl W trs ρ md) : PurP K cl W ((ta, te) :: trs) ρ (ma >>= fun k => m >>= fun v => keyP k >>= fun k => md >>= fun r => .val ((k, v) :: r)) := fun O bs σ H Q R q => by
  refine hk O bs σ H _ R (wp_mono (wp_bind.mp q) (fun x qx v1 H1 s1 i1 => ?_) fun _ z => z)
  refine hv O bs σ H1 _ (R.same s1) (wp_mono (wp_bind.mp qx) (fun y qy v2 H2 s2 i2 => ?_) fun _ z => z.mono s1)
  obtain ⟨k, rfl, qk⟩ := wp_key (H := H1) (wp_bind.mp qy) (i1.view frz_sub)
  refine hr O bs σ H2 _ ((R.same s1).same s2) (wp_mono (wp_bind.mp qk) (fun r qr kvs H3 s3 i3 => ?_) fun _ z => (z.mono s1).mono s2)
  exact qr ((k, v2) :: kvs) H3 ((s1.trans s2).trans s3) (.cons (i2.mono (frz_same s3)) i3)
theorem IsK.merge : ∀ {ws : List (Key × V)} {qs : List (Key × PV)} {vs : List (Key × V)} {ps : List (Key × PV)}, IsK K cl F ws qs → IsK K cl F vs ps → IsK K cl F (mergeK vs ws) (mergeP ps qs)
  | _, _, _, _, .nil, h => h
  | _, _, _, _, .cons (f := g) a r, h => by
    have q := IsK.merge r (IsK.put (k := g) a h)
    exact q
theorem nd_disp {trs : List (TE × TE)} (h : PurP K cl W trs ρ md) : NewD K cl W (tDisp trs) ρ (md >>= fun kvs => upto15 kvs.length >>= fun _ => .val (mergeP [] kvs)) := fun O bs σ H Q R q p hp => by
  have s0 := sub_new hp (.dK [])
  refine h (p :: O) bs σ _ _ (R.add hp (.dK [])) (wp_mono (wp_bind.mp q) (fun r qr kvs H2 s2 i2 => ?_) fun _ z => z.mono s0)
  have e2 : H2 p = some (.dK []) := s2 _ _ upd_same
  unfold upto15 at qr
  by_cases c : r.length ≤ 15
  · rw [if_pos c] at qr
    have qr' : ∀ p vs H', Sub H H' → H p = none → H' p = some (.dK vs) → IsK K cl (frz H' (p :: (O ++ adr ρ σ))) vs (mergeP [] r) → Q (.ref p) H' := qr
    refine ⟨e2, kvs, rfl, by rw [i2.len]; exact c, qr' p _ _ (fun x o e => ?_) hp upd_same ?_⟩
    · have ne : x ≠ p := fun z => by rw [z, hp] at e; cases e
      rw [upd_ne ne]
      exact s2 _ _ (s0 _ _ e)
    · refine (IsK.merge i2 .nil).mono fun x o e => ?_
      obtain ⟨n, e⟩ := frz_some.mp e
      exact frz_some.mpr ⟨n, by rw [upd_ne fun z => n (by rw [z]; exact List.mem_cons_self)]; exact e⟩
  · rw [if_neg c] at qr; exact qr.elim
theorem run_retNewD {r : List MO} (he : NewD K cl W te ρ md) (hr : rfB 0 ρ = true) (e : brs ρ = r) (w : Wk ρ ρx) : Runs (S := S) K cl W (tSeq (tRet te) u) ρ (md >>= fun l => .val (.ro (.dct l) r)) ρn ρl ρx := fun O bs σ H D R hb q => by
  subst e
  refine he O bs σ H _ R (wp_mono (wp_bind.mp q) (fun l ql p vs H' s hp hv hl => ?_) fun _ z => z.xw R w)
  refine ql p H' ⟨fun x o _ h => s _ _ h, fun x hx => ?_⟩ (fun z => ?_) ⟨vs, hv, hl.mono (frz_less fun b hb => ?_)⟩ fun k b m h1 h2 => (R.byref0 hr h1 h2).mono (frz_gone s hp) fun o e => s _ _ e
  · have : x = p := by simpa using hx
    rw [this]; exact .inr hp
  · obtain ⟨o, e⟩ := R.al p z
    rw [hp] at e; cases e
  · rcases List.mem_cons.mp hb with c | c
    · rw [c]; exact List.mem_cons_self
    · exact List.mem_cons_of_mem _ (List.mem_append_left _ c)
end
/-! properties: their getters raise nothing -/
section
variable {K : PySem.W.Frag} {cl : Str → Option Addr} {W : WX} {ρ : Ro} {ta : TE} {ma : Res PV}
theorem passes_no {X : Cx} : Passes (L2.CX X.prog X.w) X.nox (fun _ _ _ => False) := passes_call (X := X.nox) (W := fun _ _ _ _ => False) takes0 (fun _ _ _ _ h => h)
theorem pu_prop {C : Str} {c : Addr} {mt : Str} {mf : List PV → Res PV} (hc : cl C = some c) (ha : Pur K cl W ta ρ ma) :
    Pur K cl W (tProp c (spP K cl mf) [] (fun _ _ _ => False) ta) ρ (ma >>= fun x => sel [(C, mf)] mt x >>= fun g => noX (g [x])) := fun O bs σ H Q R q => by
  refine ha O bs σ H _ R (wp_mono (wp_bind.mp q) (fun x qx v1 H1 s1 i1 => ?_) fun _ z => z)
  have R1 := R.same s1
  obtain ⟨fs, rfl, e2, hw⟩ := sel_one (wp_bind.mp qx)
  have main : ∃ a dx vs, v1 = .ref a ∧ H1 a = some (.ins c dx vs) := by
    cases i1 with
    | ins h0 h1 h2 =>
      rw [hc] at h0
      cases h0
      exact ⟨_, _, _, rfl, frz_sub _ _ h1⟩
  obtain ⟨a, dx, vs, e3, e4⟩ := main
  subst e3
  refine ⟨a, dx, vs, rfl, e4, ?_⟩
  exact ⟨O ++ adr ρ σ, [.ins C fs], fun a h => (R1.got h), .cons i1 .nil, wp_mono (wp_noX (E' := fun _ => False) hw) (fun r qr v H' s i => qr v H' (s1.trans s) i) fun e qe => qe.elim⟩
end
/-! ### stores in dicts with effects; new things with effects under a name -/
def mos1 {α : Type} (f : MO → Res α) : List MO → Res α
  | [a] => f a
  | _ => .stuck
def mos2 {α β : Type} (f : MO → Res α) (g : MO → Res β) : List MO → Res (α × β)
  | [a, b] => f a >>= fun x => g b >>= fun y => .val (x, y)
  | _ => .stuck
section
variable {K : PySem.W.Frag} {cl : Str → Option Addr} {W : WX} {bs O A A1 B : List Addr} {F H H' H1 : Hp} {ρ ρ' ρx ρh : Ro} {σ : St} {S S1 S2 L : Type} {ρs : S → Ro} {ρn : S1 → Ro} {ρl : L → Ro} {D : Ends} {t u v tb : TS} {te ta tc td : TE} {m : S → Res PV} {ma mb mc md : S → Res (PV × S)} {s0 : S} {mn : S → Res (MO × S)}
theorem run_stuck {M : Res (Fl S1 L)} (h : M = .stuck) : Runs K cl W t ρ M ρn ρl ρx := fun O bs σ H D R hb q => by rw [h] at q; exact q.elim
theorem run_setoEd {i : Nat} {n : List (Key × PV) → S → Res (Fl S1 L)} (he : EffN K cl te ρs mn) (e0 : ρs s0 = ρ) (hn : ∀ s, nad (ρs s) i = true) (h : ∀ x s, Runs K cl W u ((ρs s).set i (.ow (.dct x))) (n x s) ρn ρl ρx) :
    Runs K cl W (tSeq (tAsg te (gName i)) u) ρ (noX (mn s0) >>= fun r => moD r.1 >>= fun d => n d r.2) ρn ρl ρx :=
  run_setoE (n := fun mo s => moD mo >>= fun d => n d s) he e0 hn fun x s => match x with
    | .dct d => h d s
    | .lst _ => run_stuck rfl
    | .ob _ _ => run_stuck rfl
theorem run_setoEl {i : Nat} {n : List PV → S → Res (Fl S1 L)} (he : EffN K cl te ρs mn) (e0 : ρs s0 = ρ) (hn : ∀ s, nad (ρs s) i = true) (h : ∀ x s, Runs K cl W u ((ρs s).set i (.ow (.lst x))) (n x s) ρn ρl ρx) :
    Runs K cl W (tSeq (tAsg te (gName i)) u) ρ (noX (mn s0) >>= fun r => moL r.1 >>= fun d => n d r.2) ρn ρl ρx :=
  run_setoE (n := fun mo s => moL mo >>= fun d => n d s) he e0 hn fun x s => match x with
    | .lst d => h d s
    | .dct _ => run_stuck rfl
    | .ob _ _ => run_stuck rfl
theorem run_dputE {i : Nat} {sl : S → Slot} {get : S → List (Key × PV)} {n : S → List (Key × PV) → Res (Fl S1 L)} (hi : ∀ s, (ρs s)[i]? = some (sl s)) (hs : ∀ s, sl s = .ow (.dct (get s)) ∨ ∃ k, sl s = .rf k (.dct (get s))) (he : Eff K cl te ρs ma) (hk : Eff K cl ta ρs mb) (e0 : ρs s0 = ρ) (h : ∀ s qs, Runs K cl W u ((ρs s).set i (reSl (sl s) (.dct qs))) (n s qs) ρn ρl ρx) :
    Runs K cl W (tSeq (sDPut (tVar i) ta te) u) ρ (noX (ma s0) >>= fun r => noX (mb r.2) >>= fun k => keyP k.1 >>= fun kk => sized ((get k.2).length + 1) >>= fun _ => n k.2 (putP (get k.2) kk r.1)) ρn ρl ρx := fun O bs σ H D R hb q => by
  subst e0
  have got : ∀ s' H', Rel K cl O bs (ρs s') σ H' → ∃ a vs, σ[i]? = some (some (.ref a)) ∧ H' a = some (.dK vs) ∧ IsK K cl (frz H' (O ++ adr (ρs s') σ)) vs (get s') := fun s' H' R => by
    obtain ⟨x, e, q⟩ := R.sl.get (hi s')
    rcases hs s' with h | ⟨k, h⟩
    · rw [h] at q; obtain ⟨a, rfl, vs, h1, h2⟩ := q; exact ⟨a, vs, e, h1, h2⟩
    · rw [h] at q; obtain ⟨a, rfl, _, vs, h1, h2⟩ := q; exact ⟨a, vs, e, h1, h2⟩
  obtain ⟨a, _, ha, _⟩ := got _ _ R
  refine he s0 O bs σ H _ R hb (wp_mono (wp_noX (E' := fun _ => False) (wp_bind.mp q)) (fun x qx v H1 g1 R1 e1 i1 => ?_) fun _ z => z)
  refine ⟨_, ha, hk x.2 O bs σ H1 _ R1 hb (wp_mono (wp_noX (E' := fun _ => False) (wp_bind.mp qx)) (fun k qk v2 H2 g2 R2 e2 i2 => ?_) fun _ z => z)⟩
  obtain ⟨a', vs, ha', hv, hl⟩ := got _ _ R2
  rw [ha] at ha'
  cases ha'
  have g1' : Gr (adr (ρs s0) σ) H (adr (ρs x.2) σ) H1 := by rw [e1]; exact g1
  have g2' : Gr (adr (ρs x.2) σ) H1 (adr (ρs k.2) σ) H2 := by rw [e2]; exact g2
  have ix : Is K cl (frz H2 (O ++ adr (ρs k.2) σ)) v x.1 := by
    rw [e2, e1]
    rw [e1] at g2
    exact i1.mono (g2.sub R1.al)
  obtain ⟨kk, rfl, qk⟩ := wp_key (H := H2) (wp_bind.mp qk) (i2.view frz_sub)
  obtain ⟨hz, qk⟩ := wp_sized (wp_bind.mp qk)
  obtain ⟨R3, g3⟩ := R2.put (m' := .dct (putP (get k.2) kk x.1)) (o := .dK (putK vs kk v)) (hi k.2) (hs k.2) ha ⟨_, upd_same, IsK.put ix hl⟩
  have g := (g1'.trans g2').trans g3
  exact ⟨a, _, rfl, .inl ⟨vs, kk, hv, rfl, by rw [hl.len]; omega, rfl⟩, h k.2 _ O bs σ _ D R3 hb (wp_mono qk (fun _ z => z.step g) fun _ z => z.step g)⟩
end
/-! is True, is not False -/
def isBP : PV → PV → Res PV
  | .bl a, .bl b => .val (.bl (decide (a = b)))
  | _, _ => .stuck
def isnBP : PV → PV → Res PV
  | .bl a, .bl b => .val (.bl (!decide (a = b)))
  | _, _ => .stuck
section
variable {K : PySem.W.Frag} {cl : Str → Option Addr}
theorem o2_isB : Op2 K cl rIsB isBP := fun A H x y p q Q E hA ix iy w => by
  unfold isBP at w
  split at w
  · next a b =>
    cases (show Is K cl (frz H A) x (.bl a) from ix)
    cases (show Is K cl (frz H A) y (.bl b) from iy)
    exact ⟨a, b, rfl, rfl, w _ H .refl (.bl _)⟩
  · exact w.elim
theorem o2_isnB : Op2 K cl rNotB isnBP := fun A H x y p q Q E hA ix iy w => by
  unfold isnBP at w
  split at w
  · next a b =>
    cases (show Is K cl (frz H A) x (.bl a) from ix)
    cases (show Is K cl (frz H A) y (.bl b) from iy)
    exact ⟨a, b, rfl, rfl, w _ H .refl (.bl _)⟩
  · exact w.elim
end
def top (i : Nat) : Stmt := PySem.Challenge.pw_hushpapers_k13_hiding_keys_have_one_blin.main.body.getD i (.Pass ⟨0, 0, 0, 0⟩)
abbrev sfile : Str := "/claim/cut.py"
abbrev s_Lpool : Stmt := top 33
theorem scLpool : FnScope ["script", "seed", "cell", "cells"] ["script"] (defScope s_Lpool) := ⟨rfl, rfl, rfl, by decide +kernel, rfl, by decide +kernel, by decide +kernel⟩
abbrev s_Lmixed : Stmt := top 32
theorem scLmixed : FnScope ["number", "turn", "many", "prime", "once", "twice"] ["number", "turn", "many"] (defScope s_Lmixed) := ⟨rfl, rfl, rfl, by decide +kernel, rfl, by decide +kernel, by decide +kernel⟩
abbrev s_Ltake : Stmt := top 34
theorem scLtake : FnScope ["pool", "many", "drawn"] ["pool", "many"] (defScope s_Ltake) := ⟨rfl, rfl, rfl, by decide +kernel, rfl, by decide +kernel, by decide +kernel⟩
abbrev s_Lis_prime : Stmt := top 35
theorem scLis_prime : FnScope ["n", "d"] ["n"] (defScope s_Lis_prime) := ⟨rfl, rfl, rfl, by decide +kernel, rfl, by decide +kernel, by decide +kernel⟩
abbrev s_Lorder : Stmt := top 37
theorem scLorder : FnScope ["pool", "most", "odd", "n"] ["pool", "most"] (defScope s_Lorder) := ⟨rfl, rfl, rfl, by decide +kernel, rfl, by decide +kernel, by decide +kernel⟩
abbrev s_Lmodulus : Stmt := top 39
theorem scLmodulus : FnScope ["pool", "q", "most", "first", "turn", "p"] ["pool", "q"] (defScope s_Lmodulus) := ⟨rfl, rfl, rfl, by decide +kernel, rfl, by decide +kernel, by decide +kernel⟩
abbrev s_Lpower : Stmt := top 36
theorem scLpower : FnScope ["x", "e", "p", "found", "rest", "square", "bit"] ["x", "e", "p"] (defScope s_Lpower) := ⟨rfl, rfl, rfl, by decide +kernel, rfl, by decide +kernel, by decide +kernel⟩
abbrev s_PowerGroup_multiply : Stmt := inClass (top 25) 1
theorem scPowerGroup_multiply : FnScope ["self", "first", "second"] ["self", "first", "second"] (defScope s_PowerGroup_multiply) := ⟨rfl, rfl, rfl, by decide +kernel, rfl, by decide +kernel, by decide +kernel⟩
abbrev s_TableGroup_multiply : Stmt := inClass (top 30) 1
theorem scTableGroup_multiply : FnScope ["self", "first", "second"] ["self", "first", "second"] (defScope s_TableGroup_multiply) := ⟨rfl, rfl, rfl, by decide +kernel, rfl, by decide +kernel, by decide +kernel⟩
abbrev s_Group__powers_of : Stmt := inClass (top 22) 1
theorem scGroup__powers_of : FnScope ["self", "element", "powers", "_"] ["self", "element"] (defScope s_Group__powers_of) := ⟨rfl, rfl, rfl, by decide +kernel, rfl, by decide +kernel, by decide +kernel⟩
abbrev s_Group___init__ : Stmt := inClass (top 22) 0
theorem scGroup___init__ : FnScope ["self", "order", "unit", "members", "exponent", "member"] ["self", "order", "unit", "members"] (defScope s_Group___init__) := ⟨rfl, rfl, rfl, by decide +kernel, rfl, by decide +kernel, by decide +kernel⟩
abbrev s__is_associative : Stmt := top 28
theorem sc_is_associative : FnScope ["table", "everyone", "a", "b", "c"] ["table"] (defScope s__is_associative) := ⟨rfl, rfl, rfl, by decide +kernel, rfl, by decide +kernel, by decide +kernel⟩
abbrev s_is_prime : Stmt := top 9
theorem scis_prime : FnScope ["n", "divisor"] ["n"] (defScope s_is_prime) := ⟨rfl, rfl, rfl, by decide +kernel, rfl, by decide +kernel, by decide +kernel⟩
abbrev s_is_tuple_of : Stmt := top 11
theorem scis_tuple_of : FnScope ["length", "value"] ["length", "value"] (defScope s_is_tuple_of) := ⟨rfl, rfl, rfl, by decide +kernel, rfl, by decide +kernel, by decide +kernel⟩
abbrev s_is_residue : Stmt := top 10
theorem scis_residue : FnScope ["q", "value"] ["q", "value"] (defScope s_is_residue) := ⟨rfl, rfl, rfl, by decide +kernel, rfl, by decide +kernel, by decide +kernel⟩
abbrev s_is_residue_row : Stmt := top 12
theorem scis_residue_row : FnScope ["q", "length", "value", "item"] ["q", "length", "value"] (defScope s_is_residue_row) := ⟨rfl, rfl, rfl, by decide +kernel, rfl, by decide +kernel, by decide +kernel⟩
abbrev s__is_square : Stmt := top 26
theorem sc_is_square : FnScope ["table", "order", "row"] ["table"] (defScope s__is_square) := ⟨rfl, rfl, rfl, by decide +kernel, rfl, by decide +kernel, by decide +kernel⟩
abbrev s__units : Stmt := top 27
theorem sc_units : FnScope ["table", "everyone", "unit", "a"] ["table"] (defScope s__units) := ⟨rfl, rfl, rfl, by decide +kernel, rfl, by decide +kernel, by decide +kernel⟩
abbrev s__is_group_table : Stmt := top 29
theorem sc_is_group_table : FnScope ["table", "row"] ["table"] (defScope s__is_group_table) := ⟨rfl, rfl, rfl, by decide +kernel, rfl, by decide +kernel, by decide +kernel⟩
abbrev s_TableGroup___init__ : Stmt := inClass (top 30) 0
theorem scTableGroup___init__ : ScopeS ["self", "table"] ["self", "table"] (defScope s_TableGroup___init__) := ⟨rfl, rfl, rfl, by decide +kernel, rfl, by decide +kernel, by decide +kernel⟩
abbrev s_Ltable : Stmt := top 38
theorem scLtable : FnScope ["pool", "q", "rest", "elems", "k", "logs", "rows", "a", "b"] ["pool", "q"] (defScope s_Ltable) := ⟨rfl, rfl, rfl, by decide +kernel, rfl, by decide +kernel, by decide +kernel⟩
abbrev s__has_subgroup : Stmt := top 24
theorem sc_has_subgroup : FnScope ["modulus", "order"] ["modulus", "order"] (defScope s__has_subgroup) := ⟨rfl, rfl, rfl, by decide +kernel, rfl, by decide +kernel, by decide +kernel⟩
abbrev s__power_modulo : Stmt := top 23
theorem sc_power_modulo : FnScope ["number", "exponent", "modulus", "result", "square"] ["number", "exponent", "modulus"] (defScope s__power_modulo) := ⟨rfl, rfl, rfl, by decide +kernel, rfl, by decide +kernel, by decide +kernel⟩
abbrev s_PowerGroup___init__ : Stmt := inClass (top 25) 0
theorem scPowerGroup___init__ : ScopeS ["self", "modulus", "order", "members", "x"] ["self", "modulus", "order"] (defScope s_PowerGroup___init__) := ⟨rfl, rfl, rfl, by decide +kernel, rfl, by decide +kernel, by decide +kernel⟩
abbrev s_Lgroup : Stmt := top 40
theorem scLgroup : FnScope ["pool", "q", "p", "x", "turn", "one", "elems", "k"] ["pool", "q"] (defScope s_Lgroup) := ⟨rfl, rfl, rfl, by decide +kernel, rfl, by decide +kernel, by decide +kernel⟩
abbrev s_Lworld : Stmt := top 41
theorem scLworld : FnScope ["pool", "most", "q", "elems", "group", "logs", "k"] ["pool", "most"] (defScope s_Lworld) := ⟨rfl, rfl, rfl, by decide +kernel, rfl, by decide +kernel, by decide +kernel⟩
abbrev s_inverse : Stmt := top 13
theorem scinverse : FnScope ["a", "q", "larger", "smaller", "larger_factor", "smaller_factor", "times"] ["a", "q"] (defScope s_inverse) := ⟨rfl, rfl, rfl, by decide +kernel, rfl, by decide +kernel, by decide +kernel⟩
abbrev s_Group_log : Stmt := inClass (top 22) 5
theorem scGroup_log : FnScope ["self", "base", "element"] ["self", "base", "element"] (defScope s_Group_log) := ⟨rfl, rfl, rfl, by decide +kernel, rfl, by decide +kernel, by decide +kernel⟩
abbrev s_Group_has : Stmt := inClass (top 22) 7
theorem scGroup_has : FnScope ["self", "value"] ["self", "value"] (defScope s_Group_has) := ⟨rfl, rfl, rfl, by decide +kernel, rfl, by decide +kernel, by decide +kernel⟩
abbrev s_Key___init__ : Stmt := inClass (top 16) 0
theorem scKey___init__ : FnScope ["self", "group", "base", "blind_base"] ["self", "group", "base", "blind_base"] (defScope s_Key___init__) := ⟨rfl, rfl, rfl, by decide +kernel, rfl, by decide +kernel, by decide +kernel⟩
abbrev s_Lmember : Stmt := top 43
theorem scLmember : FnScope ["world", "e"] ["world", "e"] (defScope s_Lmember) := ⟨rfl, rfl, rfl, by decide +kernel, rfl, by decide +kernel, by decide +kernel⟩
abbrev s_Lkey : Stmt := top 42
theorem scLkey : FnScope ["pool", "world", "hiding"] ["pool", "world", "hiding"] (defScope s_Lkey) := ⟨rfl, rfl, rfl, by decide +kernel, rfl, by decide +kernel, by decide +kernel⟩
abbrev s_Lnumber : Stmt := top 46
theorem scLnumber : FnScope ["pool", "q", "way", "number"] ["pool", "q"] (defScope s_Lnumber) := ⟨rfl, rfl, rfl, by decide +kernel, rfl, by decide +kernel, by decide +kernel⟩
abbrev s_Linverse : Stmt := top 45
theorem scLinverse : FnScope ["a", "q", "b"] ["a", "q"] (defScope s_Linverse) := ⟨rfl, rfl, rfl, by decide +kernel, rfl, by decide +kernel, by decide +kernel⟩
abbrev s_Lblind : Stmt := top 48
theorem scLblind : FnScope ["world", "e", "value", "q"] ["world", "e", "value"] (defScope s_Lblind) := ⟨rfl, rfl, rfl, by decide +kernel, rfl, by decide +kernel, by decide +kernel⟩
abbrev s_Lsame : Stmt := top 47
theorem scLsame : FnScope ["actual", "due", "k"] ["actual", "due"] (defScope s_Lsame) := ⟨rfl, rfl, rfl, by decide +kernel, rfl, by decide +kernel, by decide +kernel⟩
abbrev s_Group_combine : Stmt := inClass (top 22) 6
theorem scGroup_combine : FnScope ["self", "factors", "exponents", "total", "factor", "exponent"] ["self", "factors", "exponents"] (defScope s_Group_combine) := ⟨rfl, rfl, rfl, by decide +kernel, rfl, by decide +kernel, by decide +kernel⟩
abbrev s_Key_cover : Stmt := inClass (top 16) 3
theorem scKey_cover : FnScope ["self", "value", "blind"] ["self", "value", "blind"] (defScope s_Key_cover) := ⟨rfl, rfl, rfl, by decide +kernel, rfl, by decide +kernel, by decide +kernel⟩
abbrev s_Key_opens : Stmt := inClass (top 16) 4
theorem scKey_opens : FnScope ["self", "cover", "value", "blind"] ["self", "cover", "value", "blind"] (defScope s_Key_opens) := ⟨rfl, rfl, rfl, by decide +kernel, rfl, by decide +kernel, by decide +kernel⟩
abbrev s_Group_power : Stmt := inClass (top 22) 3
theorem scGroup_power : FnScope ["self", "element", "exponent"] ["self", "element", "exponent"] (defScope s_Group_power) := ⟨rfl, rfl, rfl, by decide +kernel, rfl, by decide +kernel, by decide +kernel⟩
abbrev s_Group_inverse_of : Stmt := inClass (top 22) 4
theorem scGroup_inverse_of : FnScope ["self", "element"] ["self", "element"] (defScope s_Group_inverse_of) := ⟨rfl, rfl, rfl, by decide +kernel, rfl, by decide +kernel, by decide +kernel⟩
abbrev s_divide : Stmt := top 15
theorem scdivide : FnScope ["group", "first", "second"] ["group", "first", "second"] (defScope s_divide) := ⟨rfl, rfl, rfl, by decide +kernel, rfl, by decide +kernel, by decide +kernel⟩
abbrev s_Key_hiding : Stmt := inClass (top 16) 2
theorem scKey_hiding : FnScope ["self"] ["self"] (defScope s_Key_hiding) := ⟨rfl, rfl, rfl, by decide +kernel, rfl, by decide +kernel, by decide +kernel⟩
abbrev s_Key_blind_for : Stmt := inClass (top 16) 5
theorem scKey_blind_for : FnScope ["self", "cover", "value", "blind_part"] ["self", "cover", "value"] (defScope s_Key_blind_for) := ⟨rfl, rfl, rfl, by decide +kernel, rfl, by decide +kernel, by decide +kernel⟩
abbrev s_Key_count_openings : Stmt := inClass (top 16) 6
theorem scKey_count_openings : FnScope ["self", "cover", "value"] ["self", "cover", "value"] (defScope s_Key_count_openings) := ⟨rfl, rfl, rfl, by decide +kernel, rfl, by decide +kernel, by decide +kernel⟩
abbrev s_law : Stmt := top 49
theorem sclaw : FnScope ["script", "pool", "world", "q", "key", "turn", "e", "cover", "value", "due", "blinds", "blind", "told"] ["script"] (defScope s_law) := ⟨rfl, rfl, rfl, by decide +kernel, rfl, by decide +kernel, by decide +kernel⟩
def g_Key_blind_for_1_cover_value {α : Type} (us ws : List α) : List α := match us, ws with | [u0], [w0, w1] => [u0, w0, w1] | _, _ => []
theorem g_Key_blind_for_1_cover_value_rel {vs : List V} {us : List Value} {zs : List V} {ws : List Value} (r : Vals vs us) (q : Vals zs ws) : Vals (g_Key_blind_for_1_cover_value vs zs) (g_Key_blind_for_1_cover_value us ws) := by
  unfold g_Key_blind_for_1_cover_value
  split
  · match r, q with | (.cons r0 .nil), (.cons q0 (.cons q1 .nil)) => exact (.cons r0 (.cons q0 (.cons q1 .nil)))
  · next h =>
    split
    · match r, q with | (.cons r0 .nil), (.cons q0 (.cons q1 .nil)) => exact (h _ _ _ rfl rfl).elim
    · exact .nil
theorem g_Key_blind_for_1_cover_value_rel' : True := True.intro
def g_Key_count_openings_1_cover_value {α : Type} (us ws : List α) : List α := match us, ws with | [u0], [w0, w1] => [u0, w0, w1] | _, _ => []
theorem g_Key_count_openings_1_cover_value_rel {vs : List V} {us : List Value} {zs : List V} {ws : List Value} (r : Vals vs us) (q : Vals zs ws) : Vals (g_Key_count_openings_1_cover_value vs zs) (g_Key_count_openings_1_cover_value us ws) := by
  unfold g_Key_count_openings_1_cover_value
  split
  · match r, q with | (.cons r0 .nil), (.cons q0 (.cons q1 .nil)) => exact (.cons r0 (.cons q0 (.cons q1 .nil)))
  · next h =>
    split
    · match r, q with | (.cons r0 .nil), (.cons q0 (.cons q1 .nil)) => exact (h _ _ _ rfl rfl).elim
    · exact .nil
theorem g_Key_count_openings_1_cover_value_rel' : True := True.intro
def g_Key_opens_1_cover_value_blind {α : Type} (us ws : List α) : List α := match us, ws with | [u0], [w0, w1, w2] => [u0, w0, w1, w2] | _, _ => []
theorem g_Key_opens_1_cover_value_blind_rel {vs : List V} {us : List Value} {zs : List V} {ws : List Value} (r : Vals vs us) (q : Vals zs ws) : Vals (g_Key_opens_1_cover_value_blind vs zs) (g_Key_opens_1_cover_value_blind us ws) := by
  unfold g_Key_opens_1_cover_value_blind
  split
  · match r, q with | (.cons r0 .nil), (.cons q0 (.cons q1 (.cons q2 .nil))) => exact (.cons r0 (.cons q0 (.cons q1 (.cons q2 .nil))))
  · next h =>
    split
    · match r, q with | (.cons r0 .nil), (.cons q0 (.cons q1 (.cons q2 .nil))) => exact (h _ _ _ _ rfl rfl).elim
    · exact .nil
theorem g_Key_opens_1_cover_value_blind_rel' : True := True.intro
structure Top (P : Program) (K : PySem.W.Frag) (mg : Str → Option Value) where
  c_Key : Addr
  c_PowerGroup : Addr
  c_TableGroup : Addr
  f__law_pool : Addr
  d__law_pool : FuncData
  F__law_pool : Fun K "_law_pool" "_law_pool" s_Lpool f__law_pool d__law_pool
  m__law_pool : mg "_law_pool" = some (.ref f__law_pool)
  b__law_pool : Binds K d__law_pool ["script"] []
  f__law_mixed : Addr
  d__law_mixed : FuncData
  F__law_mixed : Fun K "_law_mixed" "_law_mixed" s_Lmixed f__law_mixed d__law_mixed
  m__law_mixed : mg "_law_mixed" = some (.ref f__law_mixed)
  b__law_mixed : Binds K d__law_mixed ["number", "turn", "many"] []
  f__law_take : Addr
  d__law_take : FuncData
  F__law_take : Fun K "_law_take" "_law_take" s_Ltake f__law_take d__law_take
  m__law_take : mg "_law_take" = some (.ref f__law_take)
  b__law_take : Binds K d__law_take ["pool", "many"] []
  f__law_is_prime : Addr
  d__law_is_prime : FuncData
  F__law_is_prime : Fun K "_law_is_prime" "_law_is_prime" s_Lis_prime f__law_is_prime d__law_is_prime
  m__law_is_prime : mg "_law_is_prime" = some (.ref f__law_is_prime)
  b__law_is_prime : Binds K d__law_is_prime ["n"] []
  f__law_order : Addr
  d__law_order : FuncData
  F__law_order : Fun K "_law_order" "_law_order" s_Lorder f__law_order d__law_order
  m__law_order : mg "_law_order" = some (.ref f__law_order)
  b__law_order : Binds K d__law_order ["pool", "most"] []
  f__law_modulus : Addr
  d__law_modulus : FuncData
  F__law_modulus : Fun K "_law_modulus" "_law_modulus" s_Lmodulus f__law_modulus d__law_modulus
  m__law_modulus : mg "_law_modulus" = some (.ref f__law_modulus)
  b__law_modulus : Binds K d__law_modulus ["pool", "q"] []
  f__law_power : Addr
  d__law_power : FuncData
  F__law_power : Fun K "_law_power" "_law_power" s_Lpower f__law_power d__law_power
  m__law_power : mg "_law_power" = some (.ref f__law_power)
  b__law_power : Binds K d__law_power ["x", "e", "p"] []
  f_PowerGroup_multiply : Addr
  d_PowerGroup_multiply : FuncData
  F_PowerGroup_multiply : Fun K "multiply" "PowerGroup.multiply" s_PowerGroup_multiply f_PowerGroup_multiply d_PowerGroup_multiply
  b_PowerGroup_multiply : Binds K d_PowerGroup_multiply ["self", "first", "second"] []
  f_TableGroup_multiply : Addr
  d_TableGroup_multiply : FuncData
  F_TableGroup_multiply : Fun K "multiply" "TableGroup.multiply" s_TableGroup_multiply f_TableGroup_multiply d_TableGroup_multiply
  b_TableGroup_multiply : Binds K d_TableGroup_multiply ["self", "first", "second"] []
  f_Group__powers_of : Addr
  d_Group__powers_of : FuncData
  F_Group__powers_of : Fun K "_powers_of" "Group._powers_of" s_Group__powers_of f_Group__powers_of d_Group__powers_of
  b_Group__powers_of : Binds K d_Group__powers_of ["self", "element"] []
  f_Group___init__ : Addr
  d_Group___init__ : FuncData
  F_Group___init__ : Fun K "__init__" "Group.__init__" s_Group___init__ f_Group___init__ d_Group___init__
  b_Group___init__ : Binds K d_Group___init__ ["self", "order", "unit", "members"] []
  f__is_associative : Addr
  d__is_associative : FuncData
  F__is_associative : Fun K "_is_associative" "_is_associative" s__is_associative f__is_associative d__is_associative
  m__is_associative : mg "_is_associative" = some (.ref f__is_associative)
  b__is_associative : Binds K d__is_associative ["table"] []
  f_is_prime : Addr
  d_is_prime : FuncData
  F_is_prime : Fun K "is_prime" "is_prime" s_is_prime f_is_prime d_is_prime
  m_is_prime : mg "is_prime" = some (.ref f_is_prime)
  b_is_prime : Binds K d_is_prime ["n"] []
  f_is_tuple_of : Addr
  d_is_tuple_of : FuncData
  F_is_tuple_of : Fun K "is_tuple_of" "is_tuple_of" s_is_tuple_of f_is_tuple_of d_is_tuple_of
  m_is_tuple_of : mg "is_tuple_of" = some (.ref f_is_tuple_of)
  b_is_tuple_of : Binds K d_is_tuple_of ["length", "value"] []
  f_is_residue : Addr
  d_is_residue : FuncData
  F_is_residue : Fun K "is_residue" "is_residue" s_is_residue f_is_residue d_is_residue
  m_is_residue : mg "is_residue" = some (.ref f_is_residue)
  b_is_residue : Binds K d_is_residue ["q", "value"] []
  f_is_residue_row : Addr
  d_is_residue_row : FuncData
  F_is_residue_row : Fun K "is_residue_row" "is_residue_row" s_is_residue_row f_is_residue_row d_is_residue_row
  m_is_residue_row : mg "is_residue_row" = some (.ref f_is_residue_row)
  b_is_residue_row : Binds K d_is_residue_row ["q", "length", "value"] []
  f__is_square : Addr
  d__is_square : FuncData
  F__is_square : Fun K "_is_square" "_is_square" s__is_square f__is_square d__is_square
  m__is_square : mg "_is_square" = some (.ref f__is_square)
  b__is_square : Binds K d__is_square ["table"] []
  f__units : Addr
  d__units : FuncData
  F__units : Fun K "_units" "_units" s__units f__units d__units
  m__units : mg "_units" = some (.ref f__units)
  b__units : Binds K d__units ["table"] []
  f__is_group_table : Addr
  d__is_group_table : FuncData
  F__is_group_table : Fun K "_is_group_table" "_is_group_table" s__is_group_table f__is_group_table d__is_group_table
  m__is_group_table : mg "_is_group_table" = some (.ref f__is_group_table)
  b__is_group_table : Binds K d__is_group_table ["table"] []
  f_TableGroup___init__ : Addr
  d_TableGroup___init__ : FuncData
  cc_TableGroup___init__ : Addr
  cda_TableGroup___init__ : Addr
  F_TableGroup___init__ : FunS K "__init__" "TableGroup.__init__" s_TableGroup___init__ f_TableGroup___init__ c_TableGroup cc_TableGroup___init__ cda_TableGroup___init__ d_TableGroup___init__
  su_TableGroup___init__ : Sup K f_TableGroup___init__ c_TableGroup cc_TableGroup___init__ cda_TableGroup___init__ f_Group___init__ d_TableGroup___init__ "self" "__init__" sfile
  sg_TableGroup___init__ : PySem.W.fnIn K f_Group___init__ = true
  b_TableGroup___init__ : Binds K d_TableGroup___init__ ["self", "table"] []
  f__law_table : Addr
  d__law_table : FuncData
  F__law_table : Fun K "_law_table" "_law_table" s_Ltable f__law_table d__law_table
  m__law_table : mg "_law_table" = some (.ref f__law_table)
  b__law_table : Binds K d__law_table ["pool", "q"] []
  f__has_subgroup : Addr
  d__has_subgroup : FuncData
  F__has_subgroup : Fun K "_has_subgroup" "_has_subgroup" s__has_subgroup f__has_subgroup d__has_subgroup
  m__has_subgroup : mg "_has_subgroup" = some (.ref f__has_subgroup)
  b__has_subgroup : Binds K d__has_subgroup ["modulus", "order"] []
  f__power_modulo : Addr
  d__power_modulo : FuncData
  F__power_modulo : Fun K "_power_modulo" "_power_modulo" s__power_modulo f__power_modulo d__power_modulo
  m__power_modulo : mg "_power_modulo" = some (.ref f__power_modulo)
  b__power_modulo : Binds K d__power_modulo ["number", "exponent", "modulus"] []
  f_PowerGroup___init__ : Addr
  d_PowerGroup___init__ : FuncData
  cc_PowerGroup___init__ : Addr
  cda_PowerGroup___init__ : Addr
  F_PowerGroup___init__ : FunS K "__init__" "PowerGroup.__init__" s_PowerGroup___init__ f_PowerGroup___init__ c_PowerGroup cc_PowerGroup___init__ cda_PowerGroup___init__ d_PowerGroup___init__
  su_PowerGroup___init__ : Sup K f_PowerGroup___init__ c_PowerGroup cc_PowerGroup___init__ cda_PowerGroup___init__ f_Group___init__ d_PowerGroup___init__ "self" "__init__" sfile
  sg_PowerGroup___init__ : PySem.W.fnIn K f_Group___init__ = true
  b_PowerGroup___init__ : Binds K d_PowerGroup___init__ ["self", "modulus", "order"] []
  f__law_group : Addr
  d__law_group : FuncData
  F__law_group : Fun K "_law_group" "_law_group" s_Lgroup f__law_group d__law_group
  m__law_group : mg "_law_group" = some (.ref f__law_group)
  b__law_group : Binds K d__law_group ["pool", "q"] []
  f__law_world : Addr
  d__law_world : FuncData
  F__law_world : Fun K "_law_world" "_law_world" s_Lworld f__law_world d__law_world
  m__law_world : mg "_law_world" = some (.ref f__law_world)
  b__law_world : Binds K d__law_world ["pool", "most"] []
  f_inverse : Addr
  d_inverse : FuncData
  F_inverse : Fun K "inverse" "inverse" s_inverse f_inverse d_inverse
  m_inverse : mg "inverse" = some (.ref f_inverse)
  b_inverse : Binds K d_inverse ["a", "q"] []
  f_Group_log : Addr
  d_Group_log : FuncData
  F_Group_log : Fun K "log" "Group.log" s_Group_log f_Group_log d_Group_log
  b_Group_log : Binds K d_Group_log ["self", "base", "element"] []
  f_Group_has : Addr
  d_Group_has : FuncData
  F_Group_has : Fun K "has" "Group.has" s_Group_has f_Group_has d_Group_has
  b_Group_has : Binds K d_Group_has ["self", "value"] []
  f_Key___init__ : Addr
  d_Key___init__ : FuncData
  F_Key___init__ : Fun K "__init__" "Key.__init__" s_Key___init__ f_Key___init__ d_Key___init__
  b_Key___init__ : Binds K d_Key___init__ ["self", "group", "base", "blind_base"] []
  f__law_member : Addr
  d__law_member : FuncData
  F__law_member : Fun K "_law_member" "_law_member" s_Lmember f__law_member d__law_member
  m__law_member : mg "_law_member" = some (.ref f__law_member)
  b__law_member : Binds K d__law_member ["world", "e"] []
  f__law_key : Addr
  d__law_key : FuncData
  F__law_key : Fun K "_law_key" "_law_key" s_Lkey f__law_key d__law_key
  m__law_key : mg "_law_key" = some (.ref f__law_key)
  b__law_key : Binds K d__law_key ["pool", "world", "hiding"] []
  f__law_number : Addr
  d__law_number : FuncData
  F__law_number : Fun K "_law_number" "_law_number" s_Lnumber f__law_number d__law_number
  m__law_number : mg "_law_number" = some (.ref f__law_number)
  b__law_number : Binds K d__law_number ["pool", "q"] []
  f__law_inverse : Addr
  d__law_inverse : FuncData
  F__law_inverse : Fun K "_law_inverse" "_law_inverse" s_Linverse f__law_inverse d__law_inverse
  m__law_inverse : mg "_law_inverse" = some (.ref f__law_inverse)
  b__law_inverse : Binds K d__law_inverse ["a", "q"] []
  f__law_blind : Addr
  d__law_blind : FuncData
  F__law_blind : Fun K "_law_blind" "_law_blind" s_Lblind f__law_blind d__law_blind
  m__law_blind : mg "_law_blind" = some (.ref f__law_blind)
  b__law_blind : Binds K d__law_blind ["world", "e", "value"] []
  f__law_same : Addr
  d__law_same : FuncData
  F__law_same : Fun K "_law_same" "_law_same" s_Lsame f__law_same d__law_same
  m__law_same : mg "_law_same" = some (.ref f__law_same)
  b__law_same : Binds K d__law_same ["actual", "due"] []
  f_Group_combine : Addr
  d_Group_combine : FuncData
  F_Group_combine : Fun K "combine" "Group.combine" s_Group_combine f_Group_combine d_Group_combine
  b_Group_combine : Binds K d_Group_combine ["self", "factors", "exponents"] []
  f_Key_cover : Addr
  d_Key_cover : FuncData
  F_Key_cover : Fun K "cover" "Key.cover" s_Key_cover f_Key_cover d_Key_cover
  b_Key_cover : Binds K d_Key_cover ["self", "value", "blind"] []
  f_Key_opens : Addr
  d_Key_opens : FuncData
  F_Key_opens : Fun K "opens" "Key.opens" s_Key_opens f_Key_opens d_Key_opens
  b_Key_opens : Binds K d_Key_opens ["self", "cover", "value", "blind"] []
  f_Group_power : Addr
  d_Group_power : FuncData
  F_Group_power : Fun K "power" "Group.power" s_Group_power f_Group_power d_Group_power
  b_Group_power : Binds K d_Group_power ["self", "element", "exponent"] []
  f_Group_inverse_of : Addr
  d_Group_inverse_of : FuncData
  F_Group_inverse_of : Fun K "inverse_of" "Group.inverse_of" s_Group_inverse_of f_Group_inverse_of d_Group_inverse_of
  b_Group_inverse_of : Binds K d_Group_inverse_of ["self", "element"] []
  f_divide : Addr
  d_divide : FuncData
  F_divide : Fun K "divide" "divide" s_divide f_divide d_divide
  m_divide : mg "divide" = some (.ref f_divide)
  b_divide : Binds K d_divide ["group", "first", "second"] []
  f_Key_hiding : Addr
  d_Key_hiding : FuncData
  F_Key_hiding : Fun K "hiding" "Key.hiding" s_Key_hiding f_Key_hiding d_Key_hiding
  b_Key_hiding : Binds K d_Key_hiding ["self"] []
  f_Key_blind_for : Addr
  d_Key_blind_for : FuncData
  F_Key_blind_for : Fun K "blind_for" "Key.blind_for" s_Key_blind_for f_Key_blind_for d_Key_blind_for
  b_Key_blind_for : Binds K d_Key_blind_for ["self", "cover", "value"] []
  f_Key_count_openings : Addr
  d_Key_count_openings : FuncData
  F_Key_count_openings : Fun K "count_openings" "Key.count_openings" s_Key_count_openings f_Key_count_openings d_Key_count_openings
  b_Key_count_openings : Binds K d_Key_count_openings ["self", "cover", "value"] []
  f_law : Addr
  d_law : FuncData
  F_law : Fun K "law" "law" s_law f_law d_law
  m_law : mg "law" = some (.ref f_law)
  b_law : Binds K d_law ["script"] []
  k_Key_blind_for_1_cover_value : KBinds K d_Key_blind_for ["self", "cover", "value"] ["cover", "value"] (g_Key_blind_for_1_cover_value) (g_Key_blind_for_1_cover_value)
  k_Key_count_openings_1_cover_value : KBinds K d_Key_count_openings ["self", "cover", "value"] ["cover", "value"] (g_Key_count_openings_1_cover_value) (g_Key_count_openings_1_cover_value)
  k_Key_opens_1_cover_value_blind : KBinds K d_Key_opens ["self", "cover", "value", "blind"] ["cover", "value", "blind"] (g_Key_opens_1_cover_value_blind) (g_Key_opens_1_cover_value_blind)
  hfile : (P.main.file == sfile) = true
  htop : (P.main.scope.names.lookup ("super" : Str)).isSome = false
  m_Key : mg "Key" = some (.ref c_Key)
  cls_Key : Cls K c_Key
  mk_Key : Mk K c_Key f_Key___init__
  me_Key_blind_for : Meth K c_Key "blind_for" f_Key_blind_for
  me_Key_count_openings : Meth K c_Key "count_openings" f_Key_count_openings
  me_Key_cover : Meth K c_Key "cover" f_Key_cover
  me_Key_opens : Meth K c_Key "opens" f_Key_opens
  p_Key_hiding : Addr
  po_Key_hiding : PropOf K c_Key "hiding" p_Key_hiding f_Key_hiding
  na_Key__relation : NoAttr K c_Key "_relation"
  na_Key_base : NoAttr K c_Key "base"
  na_Key_blind_base : NoAttr K c_Key "blind_base"
  na_Key_group : NoAttr K c_Key "group"
  m_PowerGroup : mg "PowerGroup" = some (.ref c_PowerGroup)
  cls_PowerGroup : Cls K c_PowerGroup
  mk_PowerGroup : Mk K c_PowerGroup f_PowerGroup___init__
  me_PowerGroup__powers_of : Meth K c_PowerGroup "_powers_of" f_Group__powers_of
  me_PowerGroup_combine : Meth K c_PowerGroup "combine" f_Group_combine
  me_PowerGroup_has : Meth K c_PowerGroup "has" f_Group_has
  me_PowerGroup_inverse_of : Meth K c_PowerGroup "inverse_of" f_Group_inverse_of
  me_PowerGroup_log : Meth K c_PowerGroup "log" f_Group_log
  me_PowerGroup_multiply : Meth K c_PowerGroup "multiply" f_PowerGroup_multiply
  me_PowerGroup_power : Meth K c_PowerGroup "power" f_Group_power
  na_PowerGroup__exponents : NoAttr K c_PowerGroup "_exponents"
  na_PowerGroup__powers : NoAttr K c_PowerGroup "_powers"
  na_PowerGroup_generator : NoAttr K c_PowerGroup "generator"
  na_PowerGroup_members : NoAttr K c_PowerGroup "members"
  na_PowerGroup_modulus : NoAttr K c_PowerGroup "modulus"
  na_PowerGroup_order : NoAttr K c_PowerGroup "order"
  na_PowerGroup_unit : NoAttr K c_PowerGroup "unit"
  m_TableGroup : mg "TableGroup" = some (.ref c_TableGroup)
  cls_TableGroup : Cls K c_TableGroup
  mk_TableGroup : Mk K c_TableGroup f_TableGroup___init__
  me_TableGroup__powers_of : Meth K c_TableGroup "_powers_of" f_Group__powers_of
  me_TableGroup_combine : Meth K c_TableGroup "combine" f_Group_combine
  me_TableGroup_has : Meth K c_TableGroup "has" f_Group_has
  me_TableGroup_inverse_of : Meth K c_TableGroup "inverse_of" f_Group_inverse_of
  me_TableGroup_log : Meth K c_TableGroup "log" f_Group_log
  me_TableGroup_multiply : Meth K c_TableGroup "multiply" f_TableGroup_multiply
  me_TableGroup_power : Meth K c_TableGroup "power" f_Group_power
  na_TableGroup__exponents : NoAttr K c_TableGroup "_exponents"
  na_TableGroup__powers : NoAttr K c_TableGroup "_powers"
  na_TableGroup_generator : NoAttr K c_TableGroup "generator"
  na_TableGroup_members : NoAttr K c_TableGroup "members"
  na_TableGroup_order : NoAttr K c_TableGroup "order"
  na_TableGroup_table : NoAttr K c_TableGroup "table"
  na_TableGroup_unit : NoAttr K c_TableGroup "unit"
  z_all : mg "all" = none
  z_bool : mg "bool" = none
  z_enumerate : mg "enumerate" = none
  z_int : mg "int" = none
  z_isinstance : mg "isinstance" = none
  z_len : mg "len" = none
  z_list : mg "list" = none
  z_range : mg "range" = none
  z_set : mg "set" = none
  z_str : mg "str" = none
  z_super : mg "super" = none
  z_tuple : mg "tuple" = none
  z_zip : mg "zip" = none
  c_BadGroup : Addr
  m_BadGroup : mg "BadGroup" = some (.ref c_BadGroup)
  kc_BadGroup : PySem.W.keepIn K (.ref c_BadGroup) = true
  s_BadGroup : PySem.W.subIn K (.ref c_BadGroup) (.type "BaseException") = some true
  t_BadGroup : PySem.W.typeIn K (.ref c_BadGroup) = some (.type "type")
  i_BadGroup : PySem.W.isClsIn K c_BadGroup = true
  hd_BadGroup : PySem.W.hasDictIn K c_BadGroup = true
  x_BadGroup : PySem.W.excIn K c_BadGroup [.type "ValueError", .type "Exception", .type "BaseException", .type "object"] "ValueError.__new__" = true
  c_BadKey : Addr
  m_BadKey : mg "BadKey" = some (.ref c_BadKey)
  kc_BadKey : PySem.W.keepIn K (.ref c_BadKey) = true
  s_BadKey : PySem.W.subIn K (.ref c_BadKey) (.type "BaseException") = some true
  t_BadKey : PySem.W.typeIn K (.ref c_BadKey) = some (.type "type")
  i_BadKey : PySem.W.isClsIn K c_BadKey = true
  hd_BadKey : PySem.W.hasDictIn K c_BadKey = true
  x_BadKey : PySem.W.excIn K c_BadKey [.type "ValueError", .type "Exception", .type "BaseException", .type "object"] "ValueError.__new__" = true
  c_NoInverse : Addr
  m_NoInverse : mg "NoInverse" = some (.ref c_NoInverse)
  kc_NoInverse : PySem.W.keepIn K (.ref c_NoInverse) = true
  s_NoInverse : PySem.W.subIn K (.ref c_NoInverse) (.type "BaseException") = some true
  t_NoInverse : PySem.W.typeIn K (.ref c_NoInverse) = some (.type "type")
  i_NoInverse : PySem.W.isClsIn K c_NoInverse = true
  hd_NoInverse : PySem.W.hasDictIn K c_NoInverse = true
  x_NoInverse : PySem.W.excIn K c_NoInverse [.type "ValueError", .type "Exception", .type "BaseException", .type "object"] "ValueError.__new__" = true
  c_NoLogarithm : Addr
  m_NoLogarithm : mg "NoLogarithm" = some (.ref c_NoLogarithm)
  kc_NoLogarithm : PySem.W.keepIn K (.ref c_NoLogarithm) = true
  s_NoLogarithm : PySem.W.subIn K (.ref c_NoLogarithm) (.type "BaseException") = some true
  t_NoLogarithm : PySem.W.typeIn K (.ref c_NoLogarithm) = some (.type "type")
  i_NoLogarithm : PySem.W.isClsIn K c_NoLogarithm = true
  hd_NoLogarithm : PySem.W.hasDictIn K c_NoLogarithm = true
  x_NoLogarithm : PySem.W.excIn K c_NoLogarithm [.type "ValueError", .type "Exception", .type "BaseException", .type "object"] "ValueError.__new__" = true
  c_OpenKey : Addr
  m_OpenKey : mg "OpenKey" = some (.ref c_OpenKey)
  kc_OpenKey : PySem.W.keepIn K (.ref c_OpenKey) = true
  s_OpenKey : PySem.W.subIn K (.ref c_OpenKey) (.type "BaseException") = some true
  t_OpenKey : PySem.W.typeIn K (.ref c_OpenKey) = some (.type "type")
  i_OpenKey : PySem.W.isClsIn K c_OpenKey = true
  hd_OpenKey : PySem.W.hasDictIn K c_OpenKey = true
  x_OpenKey : PySem.W.excIn K c_OpenKey [.type "ValueError", .type "Exception", .type "BaseException", .type "object"] "ValueError.__new__" = true
  n_LARGEST_MODULUS : ∃ t, mg "LARGEST_MODULUS" = some (.int 1000 t)
  n_LARGEST_POWER_ORDER : ∃ t, mg "LARGEST_POWER_ORDER" = some (.int 127 t)
  n_LARGEST_TABLE_ORDER : ∃ t, mg "LARGEST_TABLE_ORDER" = some (.int 13 t)
  n_SMALLEST_ORDER : ∃ t, mg "SMALLEST_ORDER" = some (.int 3 t)
def clT {P : Program} {K : PySem.W.Frag} {mg : Str → Option Value} (T : Top P K mg) : Str → Option Addr := fun s => if s = "BadGroup" then some T.c_BadGroup else if s = "BadKey" then some T.c_BadKey else if s = "NoInverse" then some T.c_NoInverse else if s = "NoLogarithm" then some T.c_NoLogarithm else if s = "OpenKey" then some T.c_OpenKey else if s = "Key" then some T.c_Key else if s = "PowerGroup" then some T.c_PowerGroup else if s = "TableGroup" then some T.c_TableGroup else none
theorem Top.ce_BadGroup {P : Program} {K : PySem.W.Frag} {mg : Str → Option Value} (T : Top P K mg) : clT T "BadGroup" = some T.c_BadGroup := by
  unfold clT
  simp (config := { decide := true }) only [if_true, if_false]
theorem Top.ce_BadKey {P : Program} {K : PySem.W.Frag} {mg : Str → Option Value} (T : Top P K mg) : clT T "BadKey" = some T.c_BadKey := by
  unfold clT
  simp (config := { decide := true }) only [if_true, if_false]
theorem Top.ce_NoInverse {P : Program} {K : PySem.W.Frag} {mg : Str → Option Value} (T : Top P K mg) : clT T "NoInverse" = some T.c_NoInverse := by
  unfold clT
  simp (config := { decide := true }) only [if_true, if_false]
theorem Top.ce_NoLogarithm {P : Program} {K : PySem.W.Frag} {mg : Str → Option Value} (T : Top P K mg) : clT T "NoLogarithm" = some T.c_NoLogarithm := by
  unfold clT
  simp (config := { decide := true }) only [if_true, if_false]
theorem Top.ce_OpenKey {P : Program} {K : PySem.W.Frag} {mg : Str → Option Value} (T : Top P K mg) : clT T "OpenKey" = some T.c_OpenKey := by
  unfold clT
  simp (config := { decide := true }) only [if_true, if_false]
theorem Top.ce_Key {P : Program} {K : PySem.W.Frag} {mg : Str → Option Value} (T : Top P K mg) : clT T "Key" = some T.c_Key := by
  unfold clT
  simp (config := { decide := true }) only [if_true, if_false]
theorem Top.ce_PowerGroup {P : Program} {K : PySem.W.Frag} {mg : Str → Option Value} (T : Top P K mg) : clT T "PowerGroup" = some T.c_PowerGroup := by
  unfold clT
  simp (config := { decide := true }) only [if_true, if_false]
theorem Top.ce_TableGroup {P : Program} {K : PySem.W.Frag} {mg : Str → Option Value} (T : Top P K mg) : clT T "TableGroup" = some T.c_TableGroup := by
  unfold clT
  simp (config := { decide := true }) only [if_true, if_false]
def cs__exponents : List Str := ["PowerGroup", "TableGroup"]
theorem Top.fl__exponents {P : Program} {K : PySem.W.Frag} {mg : Str → Option Value} (T : Top P K mg) : ∀ C, C ∈ cs__exponents → ∀ c, clT T C = some c → Cls K c ∧ NoAttr K c "_exponents" := by
  intro C hC c hc
  simp only [cs__exponents, List.mem_cons, List.not_mem_nil, or_false] at hC
  rcases hC with rfl | rfl
  · rw [T.ce_PowerGroup] at hc
    cases hc
    exact ⟨T.cls_PowerGroup, T.na_PowerGroup__exponents⟩
  · rw [T.ce_TableGroup] at hc
    cases hc
    exact ⟨T.cls_TableGroup, T.na_TableGroup__exponents⟩
def cs__powers : List Str := ["PowerGroup", "TableGroup"]
theorem Top.fl__powers {P : Program} {K : PySem.W.Frag} {mg : Str → Option Value} (T : Top P K mg) : ∀ C, C ∈ cs__powers → ∀ c, clT T C = some c → Cls K c ∧ NoAttr K c "_powers" := by
  intro C hC c hc
  simp only [cs__powers, List.mem_cons, List.not_mem_nil, or_false] at hC
  rcases hC with rfl | rfl
  · rw [T.ce_PowerGroup] at hc
    cases hc
    exact ⟨T.cls_PowerGroup, T.na_PowerGroup__powers⟩
  · rw [T.ce_TableGroup] at hc
    cases hc
    exact ⟨T.cls_TableGroup, T.na_TableGroup__powers⟩
def cs__relation : List Str := ["Key"]
theorem Top.fl__relation {P : Program} {K : PySem.W.Frag} {mg : Str → Option Value} (T : Top P K mg) : ∀ C, C ∈ cs__relation → ∀ c, clT T C = some c → Cls K c ∧ NoAttr K c "_relation" := by
  intro C hC c hc
  simp only [cs__relation, List.mem_cons, List.not_mem_nil, or_false] at hC
  rcases hC with rfl
  · rw [T.ce_Key] at hc
    cases hc
    exact ⟨T.cls_Key, T.na_Key__relation⟩
def cs_base : List Str := ["Key"]
theorem Top.fl_base {P : Program} {K : PySem.W.Frag} {mg : Str → Option Value} (T : Top P K mg) : ∀ C, C ∈ cs_base → ∀ c, clT T C = some c → Cls K c ∧ NoAttr K c "base" := by
  intro C hC c hc
  simp only [cs_base, List.mem_cons, List.not_mem_nil, or_false] at hC
  rcases hC with rfl
  · rw [T.ce_Key] at hc
    cases hc
    exact ⟨T.cls_Key, T.na_Key_base⟩
def cs_blind_base : List Str := ["Key"]
theorem Top.fl_blind_base {P : Program} {K : PySem.W.Frag} {mg : Str → Option Value} (T : Top P K mg) : ∀ C, C ∈ cs_blind_base → ∀ c, clT T C = some c → Cls K c ∧ NoAttr K c "blind_base" := by
  intro C hC c hc
  simp only [cs_blind_base, List.mem_cons, List.not_mem_nil, or_false] at hC
  rcases hC with rfl
  · rw [T.ce_Key] at hc
    cases hc
    exact ⟨T.cls_Key, T.na_Key_blind_base⟩
def cs_generator : List Str := ["PowerGroup", "TableGroup"]
theorem Top.fl_generator {P : Program} {K : PySem.W.Frag} {mg : Str → Option Value} (T : Top P K mg) : ∀ C, C ∈ cs_generator → ∀ c, clT T C = some c → Cls K c ∧ NoAttr K c "generator" := by
  intro C hC c hc
  simp only [cs_generator, List.mem_cons, List.not_mem_nil, or_false] at hC
  rcases hC with rfl | rfl
  · rw [T.ce_PowerGroup] at hc
    cases hc
    exact ⟨T.cls_PowerGroup, T.na_PowerGroup_generator⟩
  · rw [T.ce_TableGroup] at hc
    cases hc
    exact ⟨T.cls_TableGroup, T.na_TableGroup_generator⟩
def cs_group : List Str := ["Key"]
theorem Top.fl_group {P : Program} {K : PySem.W.Frag} {mg : Str → Option Value} (T : Top P K mg) : ∀ C, C ∈ cs_group → ∀ c, clT T C = some c → Cls K c ∧ NoAttr K c "group" := by
  intro C hC c hc
  simp only [cs_group, List.mem_cons, List.not_mem_nil, or_false] at hC
  rcases hC with rfl
  · rw [T.ce_Key] at hc
    cases hc
    exact ⟨T.cls_Key, T.na_Key_group⟩
def cs_members : List Str := ["PowerGroup", "TableGroup"]
theorem Top.fl_members {P : Program} {K : PySem.W.Frag} {mg : Str → Option Value} (T : Top P K mg) : ∀ C, C ∈ cs_members → ∀ c, clT T C = some c → Cls K c ∧ NoAttr K c "members" := by
  intro C hC c hc
  simp only [cs_members, List.mem_cons, List.not_mem_nil, or_false] at hC
  rcases hC with rfl | rfl
  · rw [T.ce_PowerGroup] at hc
    cases hc
    exact ⟨T.cls_PowerGroup, T.na_PowerGroup_members⟩
  · rw [T.ce_TableGroup] at hc
    cases hc
    exact ⟨T.cls_TableGroup, T.na_TableGroup_members⟩
def cs_modulus : List Str := ["PowerGroup"]
theorem Top.fl_modulus {P : Program} {K : PySem.W.Frag} {mg : Str → Option Value} (T : Top P K mg) : ∀ C, C ∈ cs_modulus → ∀ c, clT T C = some c → Cls K c ∧ NoAttr K c "modulus" := by
  intro C hC c hc
  simp only [cs_modulus, List.mem_cons, List.not_mem_nil, or_false] at hC
  rcases hC with rfl
  · rw [T.ce_PowerGroup] at hc
    cases hc
    exact ⟨T.cls_PowerGroup, T.na_PowerGroup_modulus⟩
def cs_order : List Str := ["PowerGroup", "TableGroup"]
theorem Top.fl_order {P : Program} {K : PySem.W.Frag} {mg : Str → Option Value} (T : Top P K mg) : ∀ C, C ∈ cs_order → ∀ c, clT T C = some c → Cls K c ∧ NoAttr K c "order" := by
  intro C hC c hc
  simp only [cs_order, List.mem_cons, List.not_mem_nil, or_false] at hC
  rcases hC with rfl | rfl
  · rw [T.ce_PowerGroup] at hc
    cases hc
    exact ⟨T.cls_PowerGroup, T.na_PowerGroup_order⟩
  · rw [T.ce_TableGroup] at hc
    cases hc
    exact ⟨T.cls_TableGroup, T.na_TableGroup_order⟩
def cs_table : List Str := ["TableGroup"]
theorem Top.fl_table {P : Program} {K : PySem.W.Frag} {mg : Str → Option Value} (T : Top P K mg) : ∀ C, C ∈ cs_table → ∀ c, clT T C = some c → Cls K c ∧ NoAttr K c "table" := by
  intro C hC c hc
  simp only [cs_table, List.mem_cons, List.not_mem_nil, or_false] at hC
  rcases hC with rfl
  · rw [T.ce_TableGroup] at hc
    cases hc
    exact ⟨T.cls_TableGroup, T.na_TableGroup_table⟩
def cs_unit : List Str := ["PowerGroup", "TableGroup"]
theorem Top.fl_unit {P : Program} {K : PySem.W.Frag} {mg : Str → Option Value} (T : Top P K mg) : ∀ C, C ∈ cs_unit → ∀ c, clT T C = some c → Cls K c ∧ NoAttr K c "unit" := by
  intro C hC c hc
  simp only [cs_unit, List.mem_cons, List.not_mem_nil, or_false] at hC
  rcases hC with rfl | rfl
  · rw [T.ce_PowerGroup] at hc
    cases hc
    exact ⟨T.cls_PowerGroup, T.na_PowerGroup_unit⟩
  · rw [T.ce_TableGroup] at hc
    cases hc
    exact ⟨T.cls_TableGroup, T.na_TableGroup_unit⟩
section
variable {P : Program} {w : World} {K : PySem.W.Frag} {mg : Str → Option Value} {base : Heap}
theorem g_Key_blind_for_1_cover_value_is {K : PySem.W.Frag} {cl : Str → Option Addr} {F : Hp} {vs : List V} {ps : List PV} {ws : List V} {zs : List PV} (r : IsL K cl F vs ps) (q : IsL K cl F ws zs) : IsL K cl F (g_Key_blind_for_1_cover_value vs ws) (g_Key_blind_for_1_cover_value ps zs) := by
  unfold g_Key_blind_for_1_cover_value
  split
  · match r, q with | (.cons r0 .nil), (.cons q0 (.cons q1 .nil)) => exact (.cons r0 (.cons q0 (.cons q1 .nil)))
  · next h =>
    split
    · match r, q with | (.cons r0 .nil), (.cons q0 (.cons q1 .nil)) => exact (h _ _ _ rfl rfl).elim
    · exact .nil
theorem g_Key_count_openings_1_cover_value_is {K : PySem.W.Frag} {cl : Str → Option Addr} {F : Hp} {vs : List V} {ps : List PV} {ws : List V} {zs : List PV} (r : IsL K cl F vs ps) (q : IsL K cl F ws zs) : IsL K cl F (g_Key_count_openings_1_cover_value vs ws) (g_Key_count_openings_1_cover_value ps zs) := by
  unfold g_Key_count_openings_1_cover_value
  split
  · match r, q with | (.cons r0 .nil), (.cons q0 (.cons q1 .nil)) => exact (.cons r0 (.cons q0 (.cons q1 .nil)))
  · next h =>
    split
    · match r, q with | (.cons r0 .nil), (.cons q0 (.cons q1 .nil)) => exact (h _ _ _ rfl rfl).elim
    · exact .nil
theorem g_Key_opens_1_cover_value_blind_is {K : PySem.W.Frag} {cl : Str → Option Addr} {F : Hp} {vs : List V} {ps : List PV} {ws : List V} {zs : List PV} (r : IsL K cl F vs ps) (q : IsL K cl F ws zs) : IsL K cl F (g_Key_opens_1_cover_value_blind vs ws) (g_Key_opens_1_cover_value_blind ps zs) := by
  unfold g_Key_opens_1_cover_value_blind
  split
  · match r, q with | (.cons r0 .nil), (.cons q0 (.cons q1 (.cons q2 .nil))) => exact (.cons r0 (.cons q0 (.cons q1 (.cons q2 .nil))))
  · next h =>
    split
    · match r, q with | (.cons r0 .nil), (.cons q0 (.cons q1 (.cons q2 .nil))) => exact (h _ _ _ _ rfl rfl).elim
    · exact .nil
def m__law_pool (a_script : PV) : Res MO := retN ((Res.val (PV.int 7)) >>= fun x1 => (seqF (S1 := PV) (((Res.val a_script) >>= asSq) >>= fun ps11 => forF (fun (x12 : PV) (s2 : PV) => (fun x => Res.val x) x12 >>= fun (a3 : PV) => ((((((Res.val s2) >>= fun x4 => (Res.val (PV.int 1000003)) >>= fun x5 => mulP x4 x5) >>= fun x6 => (Res.val a3) >>= fun x7 => addP x6 x7) >>= intP) >>= fun x8 => (Res.val (PV.int 2305843009213693951)) >>= fun x9 => modP x8 x9) >>= fun x10 => (Res.val (.nx x10)))) ps11 x1) fun s13 => (((Res.val a_script) >>= asSq) >>= fun l14 => (seqF (S1 := List PV) ((((((Res.val (PV.lst l14)) >>= lenP) >>= fun x21 => (Res.val (PV.int 0)) >>= fun x22 => gtP x21 x22) >>= asB) >>= fun b23 => if b23 = true then ((((((Res.val (PV.lst l14)) >>= fun x15 => (Res.val (PV.int 0)) >>= fun x16 => ixP x15 x16) >>= intP) >>= fun x17 => (Res.val (PV.int 2)) >>= fun x18 => modP x17 x18) >>= fun x19 => (Res.val (PV.int 1)) >>= fun x20 => eqP x19 x20) >>= asB) else Res.val false) >>= fun b24 => if b24 = true then (((Res.val []) >>= mkN) >>= fun l26 => (Res.val (.nx l26))) else (Res.val (.nx l14))) fun s25 => (seqF (S1 := List PV) (((((Res.val (PV.lst s25)) >>= lenP) >>= fun x27 => (Res.val (PV.int 0)) >>= fun x28 => gtP x27 x28) >>= asB) >>= fun b29 => if b29 = true then ((((Res.val (PV.lst s25)) >>= fun x31 => (Res.val (PV.int 0)) >>= fun x32 => ixP x31 x32) >>= fun x33 => (Res.val (PV.int 2)) >>= fun x34 => fdivP x33 x34) >>= fun x35 => (Res.val (PV.int 0)) >>= fun k36 => setL s25 k36 x35 >>= fun qs37 => (Res.val (.nx qs37))) else (Res.val (.nx s25))) fun s30 => ((((Res.val (PV.str "cells")) >>= fun k62 => (Res.val (PV.lst s30)) >>= fun x63 => keyP k62 >>= fun k64 => ((Res.val (PV.str "at")) >>= fun k58 => (Res.val (PV.int 0)) >>= fun x59 => keyP k58 >>= fun k60 => ((Res.val (PV.str "rest")) >>= fun k54 => (Res.val (PV.int 0)) >>= fun x55 => keyP k54 >>= fun k56 => ((Res.val (PV.str "left")) >>= fun k50 => (Res.val (PV.int 0)) >>= fun x51 => keyP k50 >>= fun k52 => ((Res.val (PV.str "small")) >>= fun k46 => (Res.val (PV.bl true)) >>= fun x47 => keyP k46 >>= fun k48 => ((Res.val (PV.str "seed")) >>= fun k42 => (Res.val s13) >>= fun x43 => keyP k42 >>= fun k44 => ((Res.val (PV.str "turn")) >>= fun k38 => (Res.val (PV.int 0)) >>= fun x39 => keyP k38 >>= fun k40 => (Res.val []) >>= fun r41 => Res.val ((k40, x39) :: r41)) >>= fun r45 => Res.val ((k44, x43) :: r45)) >>= fun r49 => Res.val ((k48, x47) :: r49)) >>= fun r53 => Res.val ((k52, x51) :: r53)) >>= fun r57 => Res.val ((k56, x55) :: r57)) >>= fun r61 => Res.val ((k60, x59) :: r61)) >>= fun r65 => Res.val ((k64, x63) :: r65)) >>= fun kv66 => upto15 kv66.length >>= fun _ => Res.val (mergeP [] kv66)) >>= fun l67 => Res.val (.ro (.dct l67) [])))))))
theorem ok__law_pool (T : Top P K mg) : FnOk P w K mg base (L2.CX P w) 1 T.f__law_pool T.d__law_pool ["script"] (spN K (clT T) (apN1 m__law_pool)) := by
  refine fnN T.F__law_pool scLpool rfl taknN1 fun cdv A outer s H E hr qs hq => ?_
  match qs, hq with
  | [a_script], _ => exact ⟨_, (pss_cons (ps_set (i := 1) scLpool.nd rfl (Or.inl rfl) pe_int)
      (pss_cons (ps_for (passes_of rfl) rfl (pi_seqV K rfl (pv 0)) (pg_name (i := 2) scLpool.nd rfl (Or.inl rfl)) (pss_one (ps_set (i := 1) scLpool.nd rfl (Or.inl rfl) (pe_op op_modN (pe_callTy call_intV (by rfl) T.z_int (by decide +kernel) (pa_cons (pe_op (op_addV K rfl) (pe_op op_mulV (pv 1) pe_int) (pv 2)) pa_nil)) pe_int))))
      (pss_cons (ps_set (i := 3) scLpool.nd rfl (Or.inl rfl) (pe_callTy (call_listV K rfl) (by rfl) T.z_list (by decide +kernel) (pa_cons (pv 0) pa_nil)))
      (pss_cons (ps_if (PW.pt (pw_and (pt_cmpR op_gt (pe_callB (call_lenVK K rfl) (by rfl) T.z_len PySem.boot_len (pa_cons (pv 3) pa_nil)) pe_int (nomark _)) (pw_and1 (pt_cmpR (op_eqV K rfl hr.units) (pe_op op_modN (pe_callTy call_intV (by rfl) T.z_int (by decide +kernel) (pa_cons (pe_ix (ix_VK K rfl) (pv 3) pe_int (fun _ _ => rfl)) pa_nil)) pe_int) pe_int (nomark _))))) (pss_one (ps_set (i := 3) scLpool.nd rfl (Or.inl rfl) (pe_lst pa_nil))) pss_nil)
      (pss_cons (ps_if (pt_cmpR op_gt (pe_callB (call_lenVK K rfl) (by rfl) T.z_len PySem.boot_len (pa_cons (pv 3) pa_nil)) pe_int (nomark _)) (pss_one (ps_asg (pe_op op_fdivV (pe_ix (ix_VK K rfl) (pv 3) pe_int (fun _ _ => rfl)) pe_int) (pg_sub (pv 3) pe_int set_list))) pss_nil)
      (pss_one (ps_ret (pe_disp (pps_cons pe_str (pv 3) (pps_cons pe_str pe_int (pps_cons pe_str pe_int (pps_cons pe_str pe_int (pps_cons pe_str pe_bl (pps_cons pe_str (pv 1) (pps_cons pe_str pe_int pps_nil))))))) rfl rfl (List.cons_ne_nil _ _) (Nat.le_of_ble_eq_true rfl))))))))),
    _, run_one (run_assoc (run_set (i := 1) pu_int rfl (wk_uns rfl) fun x1 => (run_assoc (run_seq (ρj := fun (s13 : PV) => [(.fz a_script), (.fz s13), .un, .un]) (run_for (ρs := fun (s2 : PV) => [(.fz a_script), (.fz s2), .un, .un]) (s0 := x1) (ρe := fun (s2 : PV) (a3 : PV) => [(.fz a_script), (.fz s2), (.fz a3), .un]) (it_seq (pu_var rfl)) (.keep (.keep (.keep (.keep .nil)))) (wk_uns rfl) (fun s2 => (tg_name (i := 2) rfl (Or.inl rfl))) (fun a3 s2 => run_one (run_set (i := 1) (pu_op o2_mod (Pur.vw (pu_cb1 b1_int (Pur.vw (pu_op o2_add (Pur.vw (pu_op o2_mul (Pur.vw (pu_var rfl)) (Pur.vw pu_int))) (Pur.vw (pu_var rfl)))))) (Pur.vw pu_int)) rfl (wk_uns rfl) fun x10 => (run_next (s := x10) (.keep (.keep (.drop (.keep .nil)))))))) fun s13 => (run_assoc (run_setow (i := 3) (nw_list (Pur.vw (pu_var rfl))) rfl (wk_uns rfl) fun l14 => (run_assoc (run_seq (ρj := fun (s25 : List PV) => [(.fz a_script), (.fz s13), .un, (.ow (.lst s25))]) (run_one (run_if (ts_and (ts_cmp (Pur.vw (pu_op o2_gt (Pur.vw (pu_cb1 b1_len (vw_own rfl))) (Pur.vw pu_int)))) (ts_cmp (Pur.vw (pu_op o2_eq (Pur.vw (pu_op o2_mod (Pur.vw (pu_cb1 b1_int (Pur.vw (pu_op o2_ix (vw_own rfl) (Pur.vw pu_int))))) (Pur.vw pu_int))) (Pur.vw pu_int))))) (wk_uns rfl) (run_wk (.keep (.keep (.keep (.drop .nil)))) (run_setow (i := 3) (nw_lst pl_nil) rfl (wk_uns rfl) fun l26 => (run_next (s := l26) (.keep (.keep (.keep (.keep .nil))))))) (run_skip (run_next (s := l14) (.keep (.keep (.keep (.keep .nil)))))))) fun s25 => (run_assoc (run_seq (ρj := fun (s30 : List PV) => [(.fz a_script), (.fz s13), .un, (.ow (.lst s30))]) (run_one (run_if (ts_cmp (Pur.vw (pu_op o2_gt (Pur.vw (pu_cb1 b1_len (vw_own rfl))) (Pur.vw pu_int)))) (wk_uns rfl) (run_setitem (i := 3) rfl (Or.inl rfl) (pu_op o2_fdiv (Pur.vw (pu_op o2_ix (vw_own rfl) (Pur.vw pu_int))) (Pur.vw pu_int)) (Pur.vw pu_int) (wk_uns rfl) fun qs37 => (run_next (s := qs37) (.keep (.keep (.keep (.keep .nil)))))) (run_skip (run_next (s := s25) (.keep (.keep (.keep (.keep .nil)))))))) fun s30 => (run_wk (.keep (.keep (.keep (.ice .nil)))) (run_retNewD (nd_disp (pp_cons pu_str (pu_var rfl) (pp_cons pu_str pu_int (pp_cons pu_str pu_int (pp_cons pu_str pu_int (pp_cons pu_str pu_bl (pp_cons pu_str (pu_var rfl) (pp_cons pu_str pu_int pp_nil)))))))) rfl rfl (wk_uns rfl))))))))))))), rfl⟩
def m__law_mixed (a_number a_turn a_many : PV) : Res PV := retF ((Res.val (PV.int 2305843009213693951)) >>= fun x1 => (((((((Res.val a_number) >>= fun x2 => (Res.val (PV.int 48271)) >>= fun x3 => mulP x2 x3) >>= fun x6 => ((Res.val a_turn) >>= fun x4 => (Res.val (PV.int 1000000000039)) >>= fun x5 => mulP x4 x5) >>= fun x7 => addP x6 x7) >>= fun x8 => (Res.val (PV.int 12345678910111213)) >>= fun x9 => addP x8 x9) >>= intP) >>= fun x10 => (Res.val x1) >>= fun x11 => modP x10 x11) >>= fun x12 => (((((((Res.val x12) >>= fun x13 => (Res.val x12) >>= fun x14 => mulP x13 x14) >>= fun x15 => (Res.val a_turn) >>= fun x16 => addP x15 x16) >>= intP) >>= fun x17 => (Res.val (PV.int 7046029254386353)) >>= fun x18 => mulP x17 x18) >>= fun x19 => (Res.val x1) >>= fun x20 => modP x19 x20) >>= fun x21 => ((((Res.val x21) >>= fun x22 => (Res.val (PV.int 8)) >>= fun x23 => fdivP x22 x23) >>= fun x24 => (Res.val a_many) >>= fun x25 => modP x24 x25) >>= fun v26 => Res.val (.rt v26 [])))))
theorem ok__law_mixed (T : Top P K mg) : FnOk P w K mg base (L2.CX P w) 1 T.f__law_mixed T.d__law_mixed ["number", "turn", "many"] (spP K (clT T) (ap3 m__law_mixed)) := by
  refine fnP T.F__law_mixed scLmixed rfl takn3 fun cdv A outer s H E hr qs hq => ?_
  match qs, hq with
  | [a_number, a_turn, a_many], _ => exact ⟨_, (pss_cons (ps_set (i := 3) scLmixed.nd rfl (Or.inl rfl) pe_int)
      (pss_cons (ps_set (i := 4) scLmixed.nd rfl (Or.inl rfl) (pe_op op_modN (pe_callTy call_intV (by rfl) T.z_int (by decide +kernel) (pa_cons (pe_op (op_addV K rfl) (pe_op (op_addV K rfl) (pe_op op_mulV (pv 0) pe_int) (pe_op op_mulV (pv 1) pe_int)) pe_int) pa_nil)) (pv 3)))
      (pss_cons (ps_set (i := 5) scLmixed.nd rfl (Or.inl rfl) (pe_op op_modN (pe_op op_mulV (pe_callTy call_intV (by rfl) T.z_int (by decide +kernel) (pa_cons (pe_op (op_addV K rfl) (pe_op op_mulV (pv 4) (pv 4)) (pv 1)) pa_nil)) pe_int) (pv 3)))
      (pss_one (ps_ret (pe_op op_modN (pe_op op_fdivV (pv 5) pe_int) (pv 2))))))),
    _, run_one (run_assoc (run_set (i := 3) pu_int rfl (wk_uns rfl) fun x1 => (run_assoc (run_set (i := 4) (pu_op o2_mod (Pur.vw (pu_cb1 b1_int (Pur.vw (pu_op o2_add (Pur.vw (pu_op o2_add (Pur.vw (pu_op o2_mul (Pur.vw (pu_var rfl)) (Pur.vw pu_int))) (Pur.vw (pu_op o2_mul (Pur.vw (pu_var rfl)) (Pur.vw pu_int))))) (Pur.vw pu_int))))) (Pur.vw (pu_var rfl))) rfl (wk_uns rfl) fun x12 => (run_assoc (run_set (i := 5) (pu_op o2_mod (Pur.vw (pu_op o2_mul (Pur.vw (pu_cb1 b1_int (Pur.vw (pu_op o2_add (Pur.vw (pu_op o2_mul (Pur.vw (pu_var rfl)) (Pur.vw (pu_var rfl)))) (Pur.vw (pu_var rfl)))))) (Pur.vw pu_int))) (Pur.vw (pu_var rfl))) rfl (wk_uns rfl) fun x21 => (run_ret (pu_op o2_mod (Pur.vw (pu_op o2_fdiv (Pur.vw (pu_var rfl)) (Pur.vw pu_int))) (Pur.vw (pu_var rfl))) rfl rfl (wk_uns rfl)))))))), rfl⟩
def m__law_take (mo : MO) (a_many : PV) : Res (PV × MO) := match mo with
  | .dct a_pool => retR ((((Res.val (PV.dct a_pool)) >>= fun x1 => (Res.val (PV.str "turn")) >>= fun x2 => dgetP x1 x2) >>= fun x3 => (Res.val (PV.int 1)) >>= fun x4 => addP x3 x4) >>= fun x5 => (Res.val (PV.str "turn")) >>= fun k6 => keyP k6 >>= fun k8 => sized (a_pool.length + 1) >>= fun _ => (fun (qs7 : List (Key × PV)) => (seqF (S1 := List (Key × PV)) ((((((Res.val (PV.dct qs7)) >>= fun x15 => (Res.val (PV.str "left")) >>= fun x16 => dgetP x15 x16) >>= fun x17 => (Res.val (PV.int 0)) >>= fun x18 => eqP x17 x18) >>= asB) >>= fun b19 => if b19 = true then ((((Res.val (PV.dct qs7)) >>= fun x9 => (Res.val (PV.str "at")) >>= fun x10 => dgetP x9 x10) >>= fun x13 => (((Res.val (PV.dct qs7)) >>= fun x11 => (Res.val (PV.str "cells")) >>= fun x12 => dgetP x11 x12) >>= lenP) >>= fun x14 => ltP x13 x14) >>= asB) else Res.val false) >>= fun b20 => if b20 = true then ((((Res.val (PV.dct qs7)) >>= fun x22 => (Res.val (PV.str "cells")) >>= fun x23 => dgetP x22 x23) >>= fun x26 => ((Res.val (PV.dct qs7)) >>= fun x24 => (Res.val (PV.str "at")) >>= fun x25 => dgetP x24 x25) >>= fun x27 => ixP x26 x27) >>= fun x28 => (Res.val (PV.str "rest")) >>= fun k29 => keyP k29 >>= fun k31 => sized (qs7.length + 1) >>= fun _ => (fun (qs30 : List (Key × PV)) => ((((Res.val (PV.dct qs30)) >>= fun x32 => (Res.val (PV.str "at")) >>= fun x33 => dgetP x32 x33) >>= fun x34 => (Res.val (PV.int 1)) >>= fun x35 => addP x34 x35) >>= fun x36 => (Res.val (PV.str "at")) >>= fun k37 => keyP k37 >>= fun k39 => sized (qs30.length + 1) >>= fun _ => (fun (qs38 : List (Key × PV)) => ((((Res.val (PV.dct qs38)) >>= fun x40 => (Res.val (PV.str "rest")) >>= fun x41 => dgetP x40 x41) >>= fun x44 => ((Res.val (PV.int 10)) >>= fun x42 => (Res.val (PV.int 18)) >>= fun x43 => powP x42 x43) >>= fun x45 => ltP x44 x45) >>= fun x46 => (Res.val (PV.str "small")) >>= fun k47 => keyP k47 >>= fun k49 => sized (qs38.length + 1) >>= fun _ => (fun (qs48 : List (Key × PV)) => (((((Res.val (PV.int 60)) >>= fun x52 => ((Res.val (PV.int 2)) >>= fun x50 => (Res.val []) >>= fun xs51 => Res.val (x50 :: xs51)) >>= fun xs53 => Res.val (x52 :: xs53)) >>= mkL) >>= fun x56 => (((Res.val (PV.dct qs48)) >>= fun x54 => (Res.val (PV.str "small")) >>= fun x55 => dgetP x54 x55) >>= intP) >>= fun x57 => ixP x56 x57) >>= fun x58 => (Res.val (PV.str "left")) >>= fun k59 => keyP k59 >>= fun k61 => sized (qs48.length + 1) >>= fun _ => (fun (qs60 : List (Key × PV)) => (Res.val (.nx qs60))) (putP qs48 k61 x58))) (putP qs38 k49 x46))) (putP qs30 k39 x36))) (putP qs7 k31 x28)) else (Res.val (.nx qs7))) fun s21 => (((((Res.val (PV.dct s21)) >>= fun x62 => (Res.val (PV.str "left")) >>= fun x63 => dgetP x62 x63) >>= fun x64 => (Res.val (PV.int 0)) >>= fun x65 => eqP x64 x65) >>= asB) >>= fun b66 => if b66 = true then ((((Res.val (PV.dct s21)) >>= fun x67 => (Res.val (PV.str "seed")) >>= fun x68 => dgetP x67 x68) >>= fun x71 => ((Res.val (PV.dct s21)) >>= fun x69 => (Res.val (PV.str "turn")) >>= fun x70 => dgetP x69 x70) >>= fun x72 => (Res.val a_many) >>= fun x73 => m__law_mixed x71 x72 x73) >>= fun v74 => Res.val (.rt v74 [.dct s21])) else ((((Res.val (PV.dct s21)) >>= fun x75 => (Res.val (PV.str "left")) >>= fun x76 => dgetP x75 x76) >>= fun x77 => (Res.val (PV.int 1)) >>= fun x78 => subP x77 x78) >>= fun x79 => (Res.val (PV.str "left")) >>= fun k80 => keyP k80 >>= fun k82 => sized (s21.length + 1) >>= fun _ => (fun (qs81 : List (Key × PV)) => ((((Res.val (PV.dct qs81)) >>= fun x83 => (Res.val (PV.str "small")) >>= fun x84 => dgetP x83 x84) >>= asB) >>= fun b85 => if b85 = true then ((((Res.val (PV.dct qs81)) >>= fun x86 => (Res.val (PV.str "rest")) >>= fun x87 => dgetP x86 x87) >>= fun x90 => ((Res.val (PV.dct qs81)) >>= fun x88 => (Res.val (PV.str "turn")) >>= fun x89 => dgetP x88 x89) >>= fun x91 => (Res.val a_many) >>= fun x92 => m__law_mixed x90 x91 x92) >>= fun v93 => Res.val (.rt v93 [.dct qs81])) else (((((Res.val (PV.dct qs81)) >>= fun x94 => (Res.val (PV.str "rest")) >>= fun x95 => dgetP x94 x95) >>= intP) >>= fun x96 => (Res.val a_many) >>= fun x97 => modP x96 x97) >>= fun x98 => ((((Res.val (PV.dct qs81)) >>= fun x99 => (Res.val (PV.str "rest")) >>= fun x100 => dgetP x99 x100) >>= fun x101 => (Res.val a_many) >>= fun x102 => fdivP x101 x102) >>= fun x103 => (Res.val (PV.str "rest")) >>= fun k104 => keyP k104 >>= fun k106 => sized (qs81.length + 1) >>= fun _ => (fun (qs105 : List (Key × PV)) => (seqF (S1 := List (Key × PV)) (((((Res.val (PV.dct qs105)) >>= fun x107 => (Res.val (PV.str "rest")) >>= fun x108 => dgetP x107 x108) >>= fun x109 => (Res.val (PV.int 0)) >>= fun x110 => eqP x109 x110) >>= asB) >>= fun b111 => if b111 = true then ((Res.val (PV.int 0)) >>= fun x113 => (Res.val (PV.str "left")) >>= fun k114 => keyP k114 >>= fun k116 => sized (qs105.length + 1) >>= fun _ => (fun (qs115 : List (Key × PV)) => (Res.val (.nx qs115))) (putP qs105 k116 x113)) else (Res.val (.nx qs105))) fun s112 => ((Res.val x98) >>= fun v117 => Res.val (.rt v117 [.dct s112])))) (putP qs81 k106 x103))))) (putP s21 k82 x79))))) (putP a_pool k8 x5))
  | _ => .stuck
theorem ok__law_take (T : Top P K mg) : FnOk P w K mg base (L2.CX P w) 2 T.f__law_take T.d__law_take ["pool", "many"] (spR K (clT T) (apR1 m__law_take)) := by
  have G__law_mixed := ok__law_mixed (P := P) (w := w) (base := base) T
  refine fnR T.F__law_take scLtake rfl taknR1 fun cdv A outer s H E hr mo qs hq => ?_
  match mo, qs, hq with
  | .lst _, [_], _ => exact .inl rfl
  | .ob _ _, [_], _ => exact .inl rfl
  | .dct a_pool, [a_many], _ => exact .inr ⟨_, (pss_cons (ps_dput (hu_of hr) (pv 0) pe_str (pe_op (op_addV K rfl) (pe_dget (hu_of hr) (pv 0) pe_str (fun _ _ => rfl)) pe_int) rfl)
      (pss_cons (ps_if (PW.pt (pw_and (pt_cmpR (op_eqV K rfl hr.units) (pe_dget (hu_of hr) (pv 0) pe_str (fun _ _ => rfl)) pe_int (nomark _)) (pw_and1 (pt_cmpR op_lt (pe_dget (hu_of hr) (pv 0) pe_str (fun _ _ => rfl)) (pe_callB (call_lenVK K rfl) (by rfl) T.z_len PySem.boot_len (pa_cons (pe_dget (hu_of hr) (pv 0) pe_str (fun _ _ => rfl)) pa_nil)) (nomark _))))) (pss_cons (ps_dput (hu_of hr) (pv 0) pe_str (pe_ix (ix_VK K rfl) (pe_dget (hu_of hr) (pv 0) pe_str (fun _ _ => rfl)) (pe_dget (hu_of hr) (pv 0) pe_str (fun _ _ => rfl)) (fun _ _ => rfl)) rfl)
      (pss_cons (ps_dput (hu_of hr) (pv 0) pe_str (pe_op (op_addV K rfl) (pe_dget (hu_of hr) (pv 0) pe_str (fun _ _ => rfl)) pe_int) rfl)
      (pss_cons (ps_dput (hu_of hr) (pv 0) pe_str (pe_cmpR op_lt (pe_dget (hu_of hr) (pv 0) pe_str (fun _ _ => rfl)) (pe_op op_pow pe_int pe_int) (nomark _)) rfl)
      (pss_one (ps_dput (hu_of hr) (pv 0) pe_str (pe_ix (ix_VK K rfl) (pe_lst (pa_cons pe_int (pa_cons pe_int pa_nil))) (pe_callTy call_intV (by rfl) T.z_int (by decide +kernel) (pa_cons (pe_dget (hu_of hr) (pv 0) pe_str (fun _ _ => rfl)) pa_nil)) (fun _ _ => rfl)) rfl))))) pss_nil)
      (pss_cons (ps_if (pt_cmpR (op_eqV K rfl hr.units) (pe_dget (hu_of hr) (pv 0) pe_str (fun _ _ => rfl)) pe_int (nomark _)) (pss_one (ps_ret (pe_callS G__law_mixed (hr.mono (by decide)) (by rfl) T.m__law_mixed T.F__law_mixed.kp T.b__law_mixed (fun σ => passAt (takes_of rfl rfl rfl rfl) σ) (pa_cons (pe_dget (hu_of hr) (pv 0) pe_str (fun _ _ => rfl)) (pa_cons (pe_dget (hu_of hr) (pv 0) pe_str (fun _ _ => rfl)) (pa_cons (pv 1) pa_nil)))))) pss_nil)
      (pss_cons (ps_dput (hu_of hr) (pv 0) pe_str (pe_op op_sub (pe_dget (hu_of hr) (pv 0) pe_str (fun _ _ => rfl)) pe_int) rfl)
      (pss_cons (ps_if (pt_val (pe_dget (hu_of hr) (pv 0) pe_str (fun _ _ => rfl))) (pss_one (ps_ret (pe_callS G__law_mixed (hr.mono (by decide)) (by rfl) T.m__law_mixed T.F__law_mixed.kp T.b__law_mixed (fun σ => passAt (takes_of rfl rfl rfl rfl) σ) (pa_cons (pe_dget (hu_of hr) (pv 0) pe_str (fun _ _ => rfl)) (pa_cons (pe_dget (hu_of hr) (pv 0) pe_str (fun _ _ => rfl)) (pa_cons (pv 1) pa_nil)))))) pss_nil)
      (pss_cons (ps_set (i := 2) scLtake.nd rfl (Or.inl rfl) (pe_op op_modN (pe_callTy call_intV (by rfl) T.z_int (by decide +kernel) (pa_cons (pe_dget (hu_of hr) (pv 0) pe_str (fun _ _ => rfl)) pa_nil)) (pv 1)))
      (pss_cons (ps_dput (hu_of hr) (pv 0) pe_str (pe_op op_fdivV (pe_dget (hu_of hr) (pv 0) pe_str (fun _ _ => rfl)) (pv 1)) rfl)
      (pss_cons (ps_if (pt_cmpR (op_eqV K rfl hr.units) (pe_dget (hu_of hr) (pv 0) pe_str (fun _ _ => rfl)) pe_int (nomark _)) (pss_one (ps_dput (hu_of hr) (pv 0) pe_str pe_int rfl)) pss_nil)
      (pss_one (ps_ret (pv 2))))))))))),
    _, run_one (run_assoc (run_dput (i := 0) rfl (Or.inr ⟨_, rfl⟩) (pu_op o2_add (Pur.vw (pu_dget (vw_rfd rfl) (Pur.vw pu_str))) (Pur.vw pu_int)) (Pur.vw pu_str) (wk_uns rfl) fun qs7 => (run_assoc (run_seq (ρj := fun (s21 : List (Key × PV)) => [(.rf 0 (.dct s21)), (.fz a_many), .un]) (run_one (run_if (ts_and (ts_cmp (Pur.vw (pu_op o2_eq (Pur.vw (pu_dget (vw_rfd rfl) (Pur.vw pu_str))) (Pur.vw pu_int)))) (ts_cmp (Pur.vw (pu_op o2_lt (Pur.vw (pu_dget (vw_rfd rfl) (Pur.vw pu_str))) (Pur.vw (pu_cb1 b1_len (Pur.vw (pu_dget (vw_rfd rfl) (Pur.vw pu_str))))))))) (wk_uns rfl) (run_assoc (run_dput (i := 0) rfl (Or.inr ⟨_, rfl⟩) (pu_op o2_ix (Pur.vw (pu_dget (vw_rfd rfl) (Pur.vw pu_str))) (Pur.vw (pu_dget (vw_rfd rfl) (Pur.vw pu_str)))) (Pur.vw pu_str) (wk_uns rfl) fun qs30 => (run_assoc (run_dput (i := 0) rfl (Or.inr ⟨_, rfl⟩) (pu_op o2_add (Pur.vw (pu_dget (vw_rfd rfl) (Pur.vw pu_str))) (Pur.vw pu_int)) (Pur.vw pu_str) (wk_uns rfl) fun qs38 => (run_assoc (run_dput (i := 0) rfl (Or.inr ⟨_, rfl⟩) (pu_op o2_lt (Pur.vw (pu_dget (vw_rfd rfl) (Pur.vw pu_str))) (Pur.vw (pu_op o2_pow (Pur.vw pu_int) (Pur.vw pu_int)))) (Pur.vw pu_str) (wk_uns rfl) fun qs48 => (run_dput (i := 0) rfl (Or.inr ⟨_, rfl⟩) (pu_op o2_ix (Pur.vw (pu_lst (pl_cons pu_int (pl_cons pu_int pl_nil)))) (Pur.vw (pu_cb1 b1_int (Pur.vw (pu_dget (vw_rfd rfl) (Pur.vw pu_str)))))) (Pur.vw pu_str) (wk_uns rfl) fun qs60 => (run_next (s := qs60) (.keep (.keep (.keep .nil))))))))))) (run_skip (run_next (s := qs7) (.keep (.keep (.keep .nil))))))) fun s21 => (run_assoc (run_if (ts_cmp (Pur.vw (pu_op o2_eq (Pur.vw (pu_dget (vw_rfd rfl) (Pur.vw pu_str))) (Pur.vw pu_int)))) (wk_uns rfl) (run_ret (pu_call3 (pu_dget (vw_rfd rfl) (Pur.vw pu_str)) (pu_dget (vw_rfd rfl) (Pur.vw pu_str)) (pu_var rfl)) rfl rfl (wk_uns rfl)) (run_skip (run_assoc (run_dput (i := 0) rfl (Or.inr ⟨_, rfl⟩) (pu_op o2_sub (Pur.vw (pu_dget (vw_rfd rfl) (Pur.vw pu_str))) (Pur.vw pu_int)) (Pur.vw pu_str) (wk_uns rfl) fun qs81 => (run_assoc (run_if (ts_val (Pur.vw (pu_dget (vw_rfd rfl) (Pur.vw pu_str)))) (wk_uns rfl) (run_ret (pu_call3 (pu_dget (vw_rfd rfl) (Pur.vw pu_str)) (pu_dget (vw_rfd rfl) (Pur.vw pu_str)) (pu_var rfl)) rfl rfl (wk_uns rfl)) (run_skip (run_assoc (run_set (i := 2) (pu_op o2_mod (Pur.vw (pu_cb1 b1_int (Pur.vw (pu_dget (vw_rfd rfl) (Pur.vw pu_str))))) (Pur.vw (pu_var rfl))) rfl (wk_uns rfl) fun x98 => (run_assoc (run_dput (i := 0) rfl (Or.inr ⟨_, rfl⟩) (pu_op o2_fdiv (Pur.vw (pu_dget (vw_rfd rfl) (Pur.vw pu_str))) (Pur.vw (pu_var rfl))) (Pur.vw pu_str) (wk_uns rfl) fun qs105 => (run_assoc (run_seq (ρj := fun (s112 : List (Key × PV)) => [(.rf 0 (.dct s112)), (.fz a_many), (.fz x98)]) (run_one (run_if (ts_cmp (Pur.vw (pu_op o2_eq (Pur.vw (pu_dget (vw_rfd rfl) (Pur.vw pu_str))) (Pur.vw pu_int)))) (wk_uns rfl) (run_dput (i := 0) rfl (Or.inr ⟨_, rfl⟩) pu_int (Pur.vw pu_str) (wk_uns rfl) fun qs115 => (run_next (s := qs115) (.keep (.keep (.keep .nil))))) (run_skip (run_next (s := qs105) (.keep (.keep (.keep .nil))))))) fun s112 => (run_ret (pu_var rfl) rfl rfl (wk_uns rfl)))))))))))))))))))), rfl⟩
def m__law_is_prime (a_n : PV) : Res PV := retF (seqF (S1 := Unit) (((Res.val (PV.int 2)) >>= fun x1 => (Res.val (PV.int 32)) >>= fun x2 => rng2 x1 x2) >>= fun ps16 => forF (fun (x17 : PV) (s3 : Unit) => (fun x => Res.val x) x17 >>= fun (a4 : PV) => (((((Res.val a4) >>= fun x5 => (Res.val a4) >>= fun x6 => mulP x5 x6) >>= fun x7 => (Res.val a_n) >>= fun x8 => gtP x7 x8) >>= asB) >>= fun b9 => if b9 = true then (Res.val (.bk ())) else ((((((Res.val a_n) >>= intP) >>= fun x10 => (Res.val a4) >>= fun x11 => modP x10 x11) >>= fun x12 => (Res.val (PV.int 0)) >>= fun x13 => eqP x12 x13) >>= asB) >>= fun b14 => if b14 = true then ((Res.val (PV.bl false)) >>= fun v15 => Res.val (.rt v15 [])) else (Res.val (.nx ()))))) ps16 ()) fun s18 => (((Res.val a_n) >>= fun x19 => (Res.val (PV.int 1)) >>= fun x20 => gtP x19 x20) >>= fun v21 => Res.val (.rt v21 [])))
theorem ok__law_is_prime (T : Top P K mg) : FnOk P w K mg base (L2.CX P w) 1 T.f__law_is_prime T.d__law_is_prime ["n"] (spP K (clT T) (ap1 m__law_is_prime)) := by
  refine fnP T.F__law_is_prime scLis_prime rfl takn1 fun cdv A outer s H E hr qs hq => ?_
  match qs, hq with
  | [a_n], _ => exact ⟨_, (pss_cons (ps_for (passes_of rfl) rfl (pi_range2 (by rfl) T.z_range (pa_cons pe_int (pa_cons pe_int pa_nil))) (pg_name (i := 1) scLis_prime.nd rfl (Or.inl rfl)) (pss_cons (ps_if (pt_cmpR op_gt (pe_op op_mulV (pv 1) (pv 1)) (pv 0) (nomark _)) (pss_one ps_break) pss_nil)
      (pss_one (ps_if (pt_cmpR (op_eqV K rfl hr.units) (pe_op op_modN (pe_callTy call_intV (by rfl) T.z_int (by decide +kernel) (pa_cons (pv 0) pa_nil)) (pv 1)) pe_int (nomark _)) (pss_one (ps_ret pe_bl)) pss_nil))))
      (pss_one (ps_ret (pe_cmpR op_gt (pv 0) pe_int (nomark _))))),
    _, run_one (run_assoc (run_seq (ρj := fun (s18 : Unit) => [(.fz a_n), .un]) (run_for (ρs := fun (s3 : Unit) => [(.fz a_n), .un]) (s0 := ()) (ρe := fun (s3 : Unit) (a4 : PV) => [(.fz a_n), (.fz a4)]) (it_rng2 (Pur.vw pu_int) (Pur.vw pu_int)) (.keep (.keep .nil)) (wk_uns rfl) (fun s3 => (tg_name (i := 1) rfl (Or.inl rfl))) (fun a4 s3 => run_one (run_assoc (run_if (ts_cmp (Pur.vw (pu_op o2_gt (Pur.vw (pu_op o2_mul (Pur.vw (pu_var rfl)) (Pur.vw (pu_var rfl)))) (Pur.vw (pu_var rfl))))) (wk_uns rfl) (run_break (s := ()) (.keep (.drop .nil))) (run_skip (run_if (ts_cmp (Pur.vw (pu_op o2_eq (Pur.vw (pu_op o2_mod (Pur.vw (pu_cb1 b1_int (Pur.vw (pu_var rfl)))) (Pur.vw (pu_var rfl)))) (Pur.vw pu_int)))) (wk_uns rfl) (run_ret pu_bl rfl rfl (wk_uns rfl)) (run_skip (run_next (s := ()) (.keep (.drop .nil)))))))))) fun s18 => (run_ret (pu_op o2_gt (Pur.vw (pu_var rfl)) (Pur.vw pu_int)) rfl rfl (wk_uns rfl)))), rfl⟩
def m__law_order (mo : MO) (a_most : PV) : Res (PV × MO) := match mo with
  | .dct a_pool => retR (((((Res.val (PV.int 3)) >>= fun x3 => ((Res.val a_most) >>= fun x1 => (Res.val (PV.int 1)) >>= fun x2 => addP x1 x2) >>= fun x4 => rng2 x3 x4) >>= fun ps7 => sized ps7.length >>= fun _ => lcF (fun x => Res.val x) (fun (a5 : PV) => (((Res.val a5) >>= m__law_is_prime) >>= asB)) (fun (a5 : PV) => (Res.val a5)) ps7) >>= fun ps8 => Res.val (PV.lst ps8)) >>= fun x9 => (noX ((fun (s10 : List (Key × PV)) => (fun (s11 : List (Key × PV)) => (fun (s63 : List (Key × PV)) => (fun (s12 : List (Key × PV)) => noX (Res.val (PV.int 3)) >>= fun v13 => Res.val (v13, s12)) s63 >>= fun x64 => (fun (s60 : List (Key × PV)) => (fun (s14 : List (Key × PV)) => noX (Res.val (PV.int 5)) >>= fun v15 => Res.val (v15, s14)) s60 >>= fun x61 => (fun (s57 : List (Key × PV)) => (fun (s16 : List (Key × PV)) => noX (Res.val (PV.int 7)) >>= fun v17 => Res.val (v17, s16)) s57 >>= fun x58 => (fun (s54 : List (Key × PV)) => (fun (s18 : List (Key × PV)) => (fun (s19 : List (Key × PV)) => noX (Res.val x9) >>= fun v20 => Res.val (v20, s19)) s18 >>= fun x31 => (fun (s21 : List (Key × PV)) => (fun (s25 : List (Key × PV)) => (fun (s22 : List (Key × PV)) => noX ((Res.val x9) >>= lenP) >>= fun v23 => Res.val (v23, s22)) s25 >>= fun x26 => (fun (s24 : List (Key × PV)) => Res.val (([] : List PV), s24)) x26.2 >>= fun xs27 => Res.val (x26.1 :: xs27.1, xs27.2)) s21 >>= fun x28 => (apR1 m__law_take) (MO.dct x28.2) x28.1 >>= fun r29 => ((fun (s21 : List (Key × PV)) (mo : MO) => moD mo >>= fun l => Res.val l) x28.2 r29.2) >>= fun s30 => Res.val (r29.1, s30)) x31.2 >>= fun x32 => noX (ixP x31.1 x32.1) >>= fun z33 => Res.val (z33, x32.2)) s54 >>= fun x55 => (fun (s51 : List (Key × PV)) => (fun (s34 : List (Key × PV)) => (fun (s35 : List (Key × PV)) => noX (Res.val x9) >>= fun v36 => Res.val (v36, s35)) s34 >>= fun x47 => (fun (s37 : List (Key × PV)) => (fun (s41 : List (Key × PV)) => (fun (s38 : List (Key × PV)) => noX ((Res.val x9) >>= lenP) >>= fun v39 => Res.val (v39, s38)) s41 >>= fun x42 => (fun (s40 : List (Key × PV)) => Res.val (([] : List PV), s40)) x42.2 >>= fun xs43 => Res.val (x42.1 :: xs43.1, xs43.2)) s37 >>= fun x44 => (apR1 m__law_take) (MO.dct x44.2) x44.1 >>= fun r45 => ((fun (s37 : List (Key × PV)) (mo : MO) => moD mo >>= fun l => Res.val l) x44.2 r45.2) >>= fun s46 => Res.val (r45.1, s46)) x47.2 >>= fun x48 => noX (ixP x47.1 x48.1) >>= fun z49 => Res.val (z49, x48.2)) s51 >>= fun x52 => (fun (s50 : List (Key × PV)) => Res.val (([] : List PV), s50)) x52.2 >>= fun xs53 => Res.val (x52.1 :: xs53.1, xs53.2)) x55.2 >>= fun xs56 => Res.val (x55.1 :: xs56.1, xs56.2)) x58.2 >>= fun xs59 => Res.val (x58.1 :: xs59.1, xs59.2)) x61.2 >>= fun xs62 => Res.val (x61.1 :: xs62.1, xs62.2)) x64.2 >>= fun xs65 => Res.val (x64.1 :: xs65.1, xs65.2)) s11 >>= fun x66 => mkL x66.1 >>= fun z67 => Res.val (z67, x66.2)) s10 >>= fun x78 => (fun (s68 : List (Key × PV)) => (fun (s72 : List (Key × PV)) => (fun (s69 : List (Key × PV)) => noX (Res.val (PV.int 5)) >>= fun v70 => Res.val (v70, s69)) s72 >>= fun x73 => (fun (s71 : List (Key × PV)) => Res.val (([] : List PV), s71)) x73.2 >>= fun xs74 => Res.val (x73.1 :: xs74.1, xs74.2)) s68 >>= fun x75 => (apR1 m__law_take) (MO.dct x75.2) x75.1 >>= fun r76 => ((fun (s68 : List (Key × PV)) (mo : MO) => moD mo >>= fun l => Res.val l) x75.2 r76.2) >>= fun s77 => Res.val (r76.1, s77)) x78.2 >>= fun x79 => noX (ixP x78.1 x79.1) >>= fun z80 => Res.val (z80, x79.2)) a_pool) >>= fun r81 => Res.val (.rt r81.1 ((fun (s82 : List (Key × PV)) => [.dct s82]) r81.2))))
  | _ => .stuck
theorem ok__law_order (T : Top P K mg) : FnOk P w K mg base (L2.CX P w) 3 T.f__law_order T.d__law_order ["pool", "most"] (spR K (clT T) (apR1 m__law_order)) := by
  have G__law_take := ok__law_take (P := P) (w := w) (base := base) T
  have G__law_is_prime := ok__law_is_prime (P := P) (w := w) (base := base) T
  refine fnR T.F__law_order scLorder rfl taknR1 fun cdv A outer s H E hr mo qs hq => ?_
  match mo, qs, hq with
  | .lst _, [_], _ => exact .inl rfl
  | .ob _ _, [_], _ => exact .inl rfl
  | .dct a_pool, [a_most], _ => exact .inr ⟨_, (pss_cons (ps_setLc (i := 2) (own := [("n", 3)]) (g := gName 3)  rfl scLorder.nd rfl rfl (sw_true rfl rfl rfl (by decide +kernel)) (pi_range2 (by rfl) T.z_range (pa_cons pe_int (pa_cons (pe_op (op_addV K rfl) (pv 1) pe_int) pa_nil))) (blkOk_by (own := [("n", 3)]) (N := ["pool", "most", "odd", "n"]) (sc := defScope s_Lorder) (by decide +kernel)) (fun _ _ _ _ _ => (pg_name (i := 3) scLorder.nd rfl (Or.inl rfl))) (fun _ _ _ _ _ => (pts_one (pt_val (pe_callS G__law_is_prime (hr.mono (by decide)) (by rfl) T.m__law_is_prime T.F__law_is_prime.kp T.b__law_is_prime (fun σ => passAt takes0 σ) (pa_cons (pv 3) pa_nil))))) (fun _ _ _ _ _ => (pv 3)))
      (pss_one (ps_ret (pe_ix (ix_VK K rfl) (pe_lst (pa_cons pe_int (pa_cons pe_int (pa_cons pe_int (pa_cons (pe_ix (ix_VK K rfl) (pv 2) (pe_callS G__law_take (hr.mono (by decide)) (by rfl) T.m__law_take T.F__law_take.kp T.b__law_take (fun σ => passAt (takes_of rfl rfl rfl rfl) σ) (pa_cons (pv 0) (pa_cons (pe_callB (call_lenVK K rfl) (by rfl) T.z_len PySem.boot_len (pa_cons (pv 2) pa_nil)) pa_nil))) (fun _ _ => rfl)) (pa_cons (pe_ix (ix_VK K rfl) (pv 2) (pe_callS G__law_take (hr.mono (by decide)) (by rfl) T.m__law_take T.F__law_take.kp T.b__law_take (fun σ => passAt (takes_of rfl rfl rfl rfl) σ) (pa_cons (pv 0) (pa_cons (pe_callB (call_lenVK K rfl) (by rfl) T.z_len PySem.boot_len (pa_cons (pv 2) pa_nil)) pa_nil))) (fun _ _ => rfl)) pa_nil)))))) (pe_callS G__law_take (hr.mono (by decide)) (by rfl) T.m__law_take T.F__law_take.kp T.b__law_take (fun σ => passAt (takes_of rfl rfl rfl rfl) σ) (pa_cons (pv 0) (pa_cons pe_int pa_nil))) (fun _ _ => rfl))))),
    _, run_one (run_assoc (run_set (i := 2) (New.pur (nw_lc (ρe := fun (a5 : PV) => [(.rf 0 (.dct a_pool)), (.fz a_most), .un, (.fz a5)]) (Iter.view (it_rng2 (Pur.vw pu_int) (Pur.vw (pu_op o2_add (Pur.vw (pu_var rfl)) (Pur.vw pu_int))))) rfl (by decide) (tg_name (i := 3) rfl (Or.inr (by decide))) (fun a5 => (ts_val (Pur.vw (pu_call1 (pu_var rfl))))) (fun a5 => (pu_var rfl)))) rfl (wk_uns rfl) fun x9 => (run_retE (ρs := (fun (s83 : List (Key × PV)) => [(.rf 0 (.dct s83)), (.fz a_most), (.fz x9), .un])) (s0 := a_pool) (r := fun (s82 : List (Key × PV)) => [.dct s82]) (ef_op o2_ix (ef_lst (el_cons (ef_pure (W := (fun c d _ H' => E c d H')) fun s12 => pu_int) (el_cons (ef_pure (W := (fun c d _ H' => E c d H')) fun s14 => pu_int) (el_cons (ef_pure (W := (fun c d _ H' => E c d H')) fun s16 => pu_int) (el_cons (ef_op o2_ix (ef_pure (W := (fun c d _ H' => E c d H')) fun s19 => (pu_var rfl)) (ef_callR (i := 0) (sl := (fun (s21 : List (Key × PV)) => (.rf 0 (.dct s21)))) (get := (fun (s21 : List (Key × PV)) => MO.dct s21)) (put := (fun (s21 : List (Key × PV)) (mo : MO) => moD mo >>= fun l => Res.val l)) (fun _ => rfl) (fun _ => Or.inr ⟨_, rfl⟩) (fun s mo s' h => by cases mo <;> first | (cases h; rfl) | cases h) (el_cons (ef_pure (W := (fun c d _ H' => E c d H')) fun s22 => (pu_cb1 b1_len (Pur.vw (pu_var rfl)))) el_nil))) (el_cons (ef_op o2_ix (ef_pure (W := (fun c d _ H' => E c d H')) fun s35 => (pu_var rfl)) (ef_callR (i := 0) (sl := (fun (s37 : List (Key × PV)) => (.rf 0 (.dct s37)))) (get := (fun (s37 : List (Key × PV)) => MO.dct s37)) (put := (fun (s37 : List (Key × PV)) (mo : MO) => moD mo >>= fun l => Res.val l)) (fun _ => rfl) (fun _ => Or.inr ⟨_, rfl⟩) (fun s mo s' h => by cases mo <;> first | (cases h; rfl) | cases h) (el_cons (ef_pure (W := (fun c d _ H' => E c d H')) fun s38 => (pu_cb1 b1_len (Pur.vw (pu_var rfl)))) el_nil))) el_nil)))))) (ef_callR (i := 0) (sl := (fun (s68 : List (Key × PV)) => (.rf 0 (.dct s68)))) (get := (fun (s68 : List (Key × PV)) => MO.dct s68)) (put := (fun (s68 : List (Key × PV)) (mo : MO) => moD mo >>= fun l => Res.val l)) (fun _ => rfl) (fun _ => Or.inr ⟨_, rfl⟩) (fun s mo s' h => by cases mo <;> first | (cases h; rfl) | cases h) (el_cons (ef_pure (W := (fun c d _ H' => E c d H')) fun s69 => pu_int) el_nil))) rfl (fun _ => rfl) (fun _ => rfl)))), rfl⟩
def m__law_modulus (mo : MO) (a_q : PV) : Res (PV × MO) := match mo with
  | .dct a_pool => retR (((Res.val (PV.int 999)) >>= fun x1 => (Res.val a_q) >>= fun x2 => fdivP x1 x2) >>= fun x3 => (noX ((fun (s4 : List (Key × PV)) => (fun (s8 : List (Key × PV)) => (fun (s5 : List (Key × PV)) => noX (Res.val x3) >>= fun v6 => Res.val (v6, s5)) s8 >>= fun x9 => (fun (s7 : List (Key × PV)) => Res.val (([] : List PV), s7)) x9.2 >>= fun xs10 => Res.val (x9.1 :: xs10.1, xs10.2)) s4 >>= fun x11 => (apR1 m__law_take) (MO.dct x11.2) x11.1 >>= fun r12 => ((fun (s4 : List (Key × PV)) (mo : MO) => moD mo >>= fun l => Res.val l) x11.2 r12.2) >>= fun s13 => Res.val (r12.1, s13)) a_pool) >>= fun r16 => (fun (x14 : PV) (s15 : List (Key × PV)) => (seqF (S1 := Unit) (((Res.val x3) >>= rng1) >>= fun ps33 => forF (fun (x34 : PV) (s17 : Unit) => (fun x => Res.val x) x34 >>= fun (a18 : PV) => (((((Res.val (PV.int 1)) >>= fun x23 => ((((Res.val x14) >>= fun x19 => (Res.val a18) >>= fun x20 => addP x19 x20) >>= intP) >>= fun x21 => (Res.val x3) >>= fun x22 => modP x21 x22) >>= fun x24 => addP x23 x24) >>= fun x25 => (Res.val a_q) >>= fun x26 => mulP x25 x26) >>= fun x27 => (Res.val (PV.int 1)) >>= fun x28 => addP x27 x28) >>= fun x29 => ((((Res.val x29) >>= m__law_is_prime) >>= asB) >>= fun b31 => if b31 = true then ((Res.val x29) >>= fun v32 => Res.val (.rt v32 [.dct s15])) else (Res.val (.nx ()))))) ps33 ()) fun s35 => ((Res.val (PV.int 0)) >>= fun v36 => Res.val (.rt v36 [.dct s15])))) r16.1 r16.2))
  | _ => .stuck
theorem ok__law_modulus (T : Top P K mg) : FnOk P w K mg base (L2.CX P w) 3 T.f__law_modulus T.d__law_modulus ["pool", "q"] (spR K (clT T) (apR1 m__law_modulus)) := by
  have G__law_take := ok__law_take (P := P) (w := w) (base := base) T
  have G__law_is_prime := ok__law_is_prime (P := P) (w := w) (base := base) T
  refine fnR T.F__law_modulus scLmodulus rfl taknR1 fun cdv A outer s H E hr mo qs hq => ?_
  match mo, qs, hq with
  | .lst _, [_], _ => exact .inl rfl
  | .ob _ _, [_], _ => exact .inl rfl
  | .dct a_pool, [a_q], _ => exact .inr ⟨_, (pss_cons (ps_set (i := 2) scLmodulus.nd rfl (Or.inl rfl) (pe_op op_fdivV pe_int (pv 1)))
      (pss_cons (ps_set (i := 3) scLmodulus.nd rfl (Or.inl rfl) (pe_callS G__law_take (hr.mono (by decide)) (by rfl) T.m__law_take T.F__law_take.kp T.b__law_take (fun σ => passAt (takes_of rfl rfl rfl rfl) σ) (pa_cons (pv 0) (pa_cons (pv 2) pa_nil))))
      (pss_cons (ps_for (passes_of rfl) rfl (pi_range1 (by rfl) T.z_range (pa_cons (pv 2) pa_nil)) (pg_name (i := 4) scLmodulus.nd rfl (Or.inl rfl)) (pss_cons (ps_set (i := 5) scLmodulus.nd rfl (Or.inl rfl) (pe_op (op_addV K rfl) (pe_op op_mulV (pe_op (op_addV K rfl) pe_int (pe_op op_modN (pe_callTy call_intV (by rfl) T.z_int (by decide +kernel) (pa_cons (pe_op (op_addV K rfl) (pv 3) (pv 4)) pa_nil)) (pv 2))) (pv 1)) pe_int))
      (pss_one (ps_if (pt_val (pe_callS G__law_is_prime (hr.mono (by decide)) (by rfl) T.m__law_is_prime T.F__law_is_prime.kp T.b__law_is_prime (fun σ => passAt (takes_of rfl rfl rfl rfl) σ) (pa_cons (pv 5) pa_nil))) (pss_one (ps_ret (pv 5))) pss_nil))))
      (pss_one (ps_ret pe_int))))),
    _, run_one (run_assoc (run_set (i := 2) (pu_op o2_fdiv (Pur.vw pu_int) (Pur.vw (pu_var rfl))) rfl (wk_uns rfl) fun x3 => (run_assoc (run_setE (i := 3) (ρs := (fun (s37 : List (Key × PV)) => [(.rf 0 (.dct s37)), (.fz a_q), (.fz x3), .un, .un, .un])) (s0 := a_pool) (ef_callR (i := 0) (sl := (fun (s4 : List (Key × PV)) => (.rf 0 (.dct s4)))) (get := (fun (s4 : List (Key × PV)) => MO.dct s4)) (put := (fun (s4 : List (Key × PV)) (mo : MO) => moD mo >>= fun l => Res.val l)) (fun _ => rfl) (fun _ => Or.inr ⟨_, rfl⟩) (fun s mo s' h => by cases mo <;> first | (cases h; rfl) | cases h) (el_cons (ef_pure (W := (fun c d _ H' => E c d H')) fun s5 => (pu_var rfl)) el_nil)) rfl (fun _ => rfl) fun x14 s15 => (run_assoc (run_seq (ρj := fun (s35 : Unit) => [(.rf 0 (.dct s15)), (.fz a_q), (.fz x3), (.fz x14), .un, .un]) (run_for (ρs := fun (s17 : Unit) => [(.rf 0 (.dct s15)), (.fz a_q), (.fz x3), (.fz x14), .un, .un]) (s0 := ()) (ρe := fun (s17 : Unit) (a18 : PV) => [(.rf 0 (.dct s15)), (.fz a_q), (.fz x3), (.fz x14), (.fz a18), .un]) (it_rng1 (Pur.vw (pu_var rfl))) (.keep (.keep (.keep (.keep (.keep (.keep .nil)))))) (wk_uns rfl) (fun s17 => (tg_name (i := 4) rfl (Or.inl rfl))) (fun a18 s17 => run_one (run_assoc (run_set (i := 5) (pu_op o2_add (Pur.vw (pu_op o2_mul (Pur.vw (pu_op o2_add (Pur.vw pu_int) (Pur.vw (pu_op o2_mod (Pur.vw (pu_cb1 b1_int (Pur.vw (pu_op o2_add (Pur.vw (pu_var rfl)) (Pur.vw (pu_var rfl)))))) (Pur.vw (pu_var rfl)))))) (Pur.vw (pu_var rfl)))) (Pur.vw pu_int)) rfl (wk_uns rfl) fun x29 => (run_if (ts_val (Pur.vw (pu_call1 (pu_var rfl)))) (wk_uns rfl) (run_ret (pu_var rfl) rfl rfl (wk_uns rfl)) (run_skip (run_next (s := ()) (.keep (.keep (.keep (.keep (.drop (.drop .nil))))))))))))) fun s35 => (run_ret pu_int rfl rfl (wk_uns rfl)))))))), rfl⟩
def m__law_power (a_x a_e a_p : PV) : Res PV := retF ((Res.val (PV.int 1)) >>= fun x1 => ((Res.val a_e) >>= fun x2 => ((Res.val a_x) >>= fun x3 => (seqF (S1 := PV × PV × PV) (((Res.val (PV.int 10)) >>= rng1) >>= fun ps25 => forF (fun (x26 : PV) (s4 : PV × PV × PV) => (fun x => Res.val x) x26 >>= fun (a5 : PV) => (seqF (S1 := PV) ((((((Res.val s4.2.1) >>= intP) >>= fun x6 => (Res.val (PV.int 2)) >>= fun x7 => modP x6 x7) >>= fun x8 => (Res.val (PV.int 1)) >>= fun x9 => eqP x8 x9) >>= asB) >>= fun b10 => if b10 = true then (((((Res.val s4.1) >>= fun x12 => (Res.val s4.2.2) >>= fun x13 => mulP x12 x13) >>= intP) >>= fun x14 => (Res.val a_p) >>= fun x15 => modP x14 x15) >>= fun x16 => (Res.val (.nx x16))) else (Res.val (.nx s4.1))) fun s11 => (((Res.val s4.2.1) >>= fun x17 => (Res.val (PV.int 2)) >>= fun x18 => fdivP x17 x18) >>= fun x19 => (((((Res.val s4.2.2) >>= fun x20 => (Res.val s4.2.2) >>= fun x21 => mulP x20 x21) >>= intP) >>= fun x22 => (Res.val a_p) >>= fun x23 => modP x22 x23) >>= fun x24 => (Res.val (.nx (s11, x19, x24))))))) ps25 (x1, x2, x3)) fun s27 => ((Res.val s27.1) >>= fun v28 => Res.val (.rt v28 []))))))
theorem ok__law_power (T : Top P K mg) : FnOk P w K mg base (L2.CX P w) 1 T.f__law_power T.d__law_power ["x", "e", "p"] (spP K (clT T) (ap3 m__law_power)) := by
  refine fnP T.F__law_power scLpower rfl takn3 fun cdv A outer s H E hr qs hq => ?_
  match qs, hq with
  | [a_x, a_e, a_p], _ => exact ⟨_, (pss_cons (ps_set (i := 3) scLpower.nd rfl (Or.inl rfl) pe_int)
      (pss_cons (ps_set (i := 4) scLpower.nd rfl (Or.inl rfl) (pv 1))
      (pss_cons (ps_set (i := 5) scLpower.nd rfl (Or.inl rfl) (pv 0))
      (pss_cons (ps_for (passes_of rfl) rfl (pi_range1 (by rfl) T.z_range (pa_cons pe_int pa_nil)) (pg_name (i := 6) scLpower.nd rfl (Or.inl rfl)) (pss_cons (ps_if (pt_cmpR (op_eqV K rfl hr.units) (pe_op op_modN (pe_callTy call_intV (by rfl) T.z_int (by decide +kernel) (pa_cons (pv 4) pa_nil)) pe_int) pe_int (nomark _)) (pss_one (ps_set (i := 3) scLpower.nd rfl (Or.inl rfl) (pe_op op_modN (pe_callTy call_intV (by rfl) T.z_int (by decide +kernel) (pa_cons (pe_op op_mulV (pv 3) (pv 5)) pa_nil)) (pv 2)))) pss_nil)
      (pss_cons (ps_set (i := 4) scLpower.nd rfl (Or.inl rfl) (pe_op op_fdivV (pv 4) pe_int))
      (pss_one (ps_set (i := 5) scLpower.nd rfl (Or.inl rfl) (pe_op op_modN (pe_callTy call_intV (by rfl) T.z_int (by decide +kernel) (pa_cons (pe_op op_mulV (pv 5) (pv 5)) pa_nil)) (pv 2)))))))
      (pss_one (ps_ret (pv 3))))))),
    _, run_one (run_assoc (run_set (i := 3) pu_int rfl (wk_uns rfl) fun x1 => (run_assoc (run_set (i := 4) (pu_var rfl) rfl (wk_uns rfl) fun x2 => (run_assoc (run_set (i := 5) (pu_var rfl) rfl (wk_uns rfl) fun x3 => (run_assoc (run_seq (ρj := fun (s27 : PV × PV × PV) => [(.fz a_x), (.fz a_e), (.fz a_p), (.fz s27.1), (.fz s27.2.1), (.fz s27.2.2), .un]) (run_for (ρs := fun (s4 : PV × PV × PV) => [(.fz a_x), (.fz a_e), (.fz a_p), (.fz s4.1), (.fz s4.2.1), (.fz s4.2.2), .un]) (s0 := (x1, x2, x3)) (ρe := fun (s4 : PV × PV × PV) (a5 : PV) => [(.fz a_x), (.fz a_e), (.fz a_p), (.fz s4.1), (.fz s4.2.1), (.fz s4.2.2), (.fz a5)]) (it_rng1 (Pur.vw pu_int)) (.keep (.keep (.keep (.keep (.keep (.keep (.keep .nil))))))) (wk_uns rfl) (fun s4 => (tg_name (i := 6) rfl (Or.inl rfl))) (fun a5 s4 => run_one (run_assoc (run_seq (ρj := fun (s11 : PV) => [(.fz a_x), (.fz a_e), (.fz a_p), (.fz s11), (.fz s4.2.1), (.fz s4.2.2), (.fz a5)]) (run_one (run_if (ts_cmp (Pur.vw (pu_op o2_eq (Pur.vw (pu_op o2_mod (Pur.vw (pu_cb1 b1_int (Pur.vw (pu_var rfl)))) (Pur.vw pu_int))) (Pur.vw pu_int)))) (wk_uns rfl) (run_set (i := 3) (pu_op o2_mod (Pur.vw (pu_cb1 b1_int (Pur.vw (pu_op o2_mul (Pur.vw (pu_var rfl)) (Pur.vw (pu_var rfl)))))) (Pur.vw (pu_var rfl))) rfl (wk_uns rfl) fun x16 => (run_next (s := x16) (.keep (.keep (.keep (.keep (.keep (.keep (.keep .nil))))))))) (run_skip (run_next (s := s4.1) (.keep (.keep (.keep (.keep (.keep (.keep (.keep .nil))))))))))) fun s11 => (run_assoc (run_set (i := 4) (pu_op o2_fdiv (Pur.vw (pu_var rfl)) (Pur.vw pu_int)) rfl (wk_uns rfl) fun x19 => (run_set (i := 5) (pu_op o2_mod (Pur.vw (pu_cb1 b1_int (Pur.vw (pu_op o2_mul (Pur.vw (pu_var rfl)) (Pur.vw (pu_var rfl)))))) (Pur.vw (pu_var rfl))) rfl (wk_uns rfl) fun x24 => (run_next (s := (s11, x19, x24)) (.keep (.keep (.keep (.keep (.keep (.keep (.drop .nil))))))))))))))) fun s27 => (run_ret (pu_var rfl) rfl rfl (wk_uns rfl)))))))))), rfl⟩
def m_PowerGroup_multiply (a_self a_first a_second : PV) : Res PV := retF ((((Res.val a_first) >>= fun x1 => (Res.val a_second) >>= fun x2 => mulP x1 x2) >>= fun x3 => ((Res.val a_self) >>= (fldP cs_modulus "modulus")) >>= fun x4 => modP x3 x4) >>= fun v5 => Res.val (.rt v5 []))
theorem ok_PowerGroup_multiply (T : Top P K mg) : FnOk P w K mg base (L2.CX P w) 1 T.f_PowerGroup_multiply T.d_PowerGroup_multiply ["self", "first", "second"] (spP K (clT T) (ap3 m_PowerGroup_multiply)) := by
  refine fnP T.F_PowerGroup_multiply scPowerGroup_multiply rfl takn3 fun cdv A outer s H E hr qs hq => ?_
  match qs, hq with
  | [a_self, a_first, a_second], _ => exact ⟨_, (pss_one (ps_ret (pe_op op_modN (pe_op op_mulV (pv 1) (pv 2)) (pe_fldV K rfl (pv 0) rfl)))),
    _, run_one (run_ret (pu_op o2_mod (Pur.vw (pu_op o2_mul (Pur.vw (pu_var rfl)) (Pur.vw (pu_var rfl)))) (Pur.vw (pu_fld T.fl_modulus (Pur.vw (pu_var rfl))))) rfl rfl (wk_uns rfl)), rfl⟩
def m_TableGroup_multiply (a_self a_first a_second : PV) : Res PV := retF (((((Res.val a_self) >>= (fldP cs_table "table")) >>= fun x1 => (Res.val a_first) >>= fun x2 => ixP x1 x2) >>= fun x3 => (Res.val a_second) >>= fun x4 => ixP x3 x4) >>= fun v5 => Res.val (.rt v5 []))
theorem ok_TableGroup_multiply (T : Top P K mg) : FnOk P w K mg base (L2.CX P w) 1 T.f_TableGroup_multiply T.d_TableGroup_multiply ["self", "first", "second"] (spP K (clT T) (ap3 m_TableGroup_multiply)) := by
  refine fnP T.F_TableGroup_multiply scTableGroup_multiply rfl takn3 fun cdv A outer s H E hr qs hq => ?_
  match qs, hq with
  | [a_self, a_first, a_second], _ => exact ⟨_, (pss_one (ps_ret (pe_ix (ix_VK K rfl) (pe_ix (ix_VK K rfl) (pe_fldV K rfl (pv 0) rfl) (pv 1) (fun _ _ => rfl)) (pv 2) (fun _ _ => rfl)))),
    _, run_one (run_ret (pu_op o2_ix (Pur.vw (pu_op o2_ix (Pur.vw (pu_fld T.fl_table (Pur.vw (pu_var rfl)))) (Pur.vw (pu_var rfl)))) (Pur.vw (pu_var rfl))) rfl rfl (wk_uns rfl)), rfl⟩
def m_Group__powers_of (a_self a_element : PV) : Res PV := retF (((((Res.val a_self) >>= (fldP cs_unit "unit")) >>= fun x1 => (Res.val []) >>= fun xs2 => Res.val (x1 :: xs2)) >>= mkN) >>= fun l3 => (seqF (S1 := List PV) (((((Res.val a_self) >>= (fldP cs_order "order")) >>= fun x4 => (Res.val (PV.int 1)) >>= fun x5 => subP x4 x5) >>= rng1) >>= fun ps18 => forF (fun (x19 : PV) (s6 : List PV) => (fun x => Res.val x) x19 >>= fun (a7 : PV) => (((Res.val a_self) >>= fun x14 => sel [("PowerGroup", ap3 m_PowerGroup_multiply), ("TableGroup", ap3 m_TableGroup_multiply)] "multiply" x14 >>= fun g15 => (((Res.val (PV.lst s6)) >>= fun x10 => ((Res.val (PV.int 1)) >>= negP) >>= fun x11 => ixP x10 x11) >>= fun x12 => ((Res.val a_element) >>= fun x8 => (Res.val []) >>= fun xs9 => Res.val (x8 :: xs9)) >>= fun xs13 => Res.val (x12 :: xs13)) >>= fun ps16 => g15 (x14 :: ps16)) >>= fun x17 => sized (s6.length + 1) >>= fun _ => (Res.val (.nx (s6 ++ [x17]))))) ps18 l3) fun s20 => (((Res.val (PV.lst s20)) >>= tupleP) >>= fun v21 => Res.val (.rt v21 []))))
theorem ok_Group__powers_of (T : Top P K mg) : FnOk P w K mg base (L2.CX P w) 2 T.f_Group__powers_of T.d_Group__powers_of ["self", "element"] (spP K (clT T) (ap2 m_Group__powers_of)) := by
  have G_PowerGroup_multiply := ok_PowerGroup_multiply (P := P) (w := w) (base := base) T
  have G_TableGroup_multiply := ok_TableGroup_multiply (P := P) (w := w) (base := base) T
  refine fnP T.F_Group__powers_of scGroup__powers_of rfl takn2 fun cdv A outer s H E hr qs hq => ?_
  match qs, hq with
  | [a_self, a_element], _ => exact ⟨_, (pss_cons (ps_set (i := 2) scGroup__powers_of.nd rfl (Or.inl rfl) (pe_lst (pa_cons (pe_fldV K rfl (pv 0) rfl) pa_nil)))
      (pss_cons (ps_for (passes_of rfl) rfl (pi_range1 (by rfl) T.z_range (pa_cons (pe_op op_sub (pe_fldV K rfl (pv 0) rfl) pe_int) pa_nil)) (pg_name (i := 3) scGroup__powers_of.nd rfl (Or.inl rfl)) (pss_one (ps_expr (pe_bm PySem.F.plainAttrs_list PySem.F.slot_list_append PySem.F.type_list_append mt_append (pv 2) (pa_cons (PE.either (pe_methT (pv 0) T.cls_PowerGroup T.me_PowerGroup_multiply G_PowerGroup_multiply (hr.mono (by decide)) T.b_PowerGroup_multiply (fun σ => passAt (takes_of rfl rfl rfl rfl) σ) (pa_cons (pe_ix (ix_VK K rfl) (pv 2) (pe_un un_neg pe_int) (fun _ _ => rfl)) (pa_cons (pv 1) pa_nil))) (pe_methT (pv 0) T.cls_TableGroup T.me_TableGroup_multiply G_TableGroup_multiply (hr.mono (by decide)) T.b_TableGroup_multiply (fun σ => passAt (takes_of rfl rfl rfl rfl) σ) (pa_cons (pe_ix (ix_VK K rfl) (pv 2) (pe_un un_neg pe_int) (fun _ _ => rfl)) (pa_cons (pv 1) pa_nil)))) pa_nil)))))
      (pss_one (ps_ret (pe_callTy (call_tupleV K rfl) (by rfl) T.z_tuple (by decide +kernel) (pa_cons (pv 2) pa_nil)))))),
    _, run_one (run_assoc (run_setow (i := 2) (nw_lst (pl_cons (pu_fld T.fl_unit (Pur.vw (pu_var rfl))) pl_nil)) rfl (wk_uns rfl) fun l3 => (run_assoc (run_seq (ρj := fun (s20 : List PV) => [(.fz a_self), (.fz a_element), (.ow (.lst s20)), .un]) (run_for (ρs := fun (s6 : List PV) => [(.fz a_self), (.fz a_element), (.ow (.lst s6)), .un]) (s0 := l3) (ρe := fun (s6 : List PV) (a7 : PV) => [(.fz a_self), (.fz a_element), (.ow (.lst s6)), (.fz a7)]) (it_rng1 (Pur.vw (pu_op o2_sub (Pur.vw (pu_fld T.fl_order (Pur.vw (pu_var rfl)))) (Pur.vw pu_int)))) (.keep (.keep (.keep (.keep .nil)))) (wk_uns rfl) (fun s6 => (tg_name (i := 3) rfl (Or.inl rfl))) (fun a7 s6 => run_one (run_append (i := 2) rfl (Or.inl rfl) (pu_meths (pu_meth T.ce_PowerGroup (pu_var rfl) (pl_cons (pu_op o2_ix (vw_own rfl) (Pur.vw (pu_un o1_neg (Pur.vw pu_int)))) (pl_cons (pu_var rfl) pl_nil))) (pu_meth T.ce_TableGroup (pu_var rfl) (pl_cons (pu_op o2_ix (vw_own rfl) (Pur.vw (pu_un o1_neg (Pur.vw pu_int)))) (pl_cons (pu_var rfl) pl_nil)))) (wk_uns rfl) fun x17 => (run_next (s := (s6 ++ [x17])) (.keep (.keep (.keep (.drop .nil)))))))) fun s20 => (run_ret (pu_cb1 b1_tuple (vw_own rfl)) rfl rfl (wk_uns rfl)))))), rfl⟩
def m_Group___init__ (mo : MO) (a_order : PV) (a_unit : PV) (a_members : PV) : Res (PV × MO) := match mo with
  | .ob a_C a_self => retR ((Res.val a_order) >>= fun x1 => setF cs_order a_C a_self "order" x1 >>= fun gs2 => ((Res.val a_unit) >>= fun x3 => setF cs_unit a_C gs2 "unit" x3 >>= fun gs4 => ((Res.val a_members) >>= fun x5 => setF cs_members a_C gs4 "members" x5 >>= fun gs6 => ((((((Res.val a_members) >>= fun x7 => (Res.val (PV.int 0)) >>= fun x8 => ixP x7 x8) >>= fun x9 => (Res.val a_unit) >>= fun x10 => eqP x9 x10) >>= asB) >>= fun b15 => if b15 = true then ((Res.val a_members) >>= fun x11 => (Res.val (PV.int 1)) >>= fun x12 => ixP x11 x12) else ((Res.val a_members) >>= fun x13 => (Res.val (PV.int 0)) >>= fun x14 => ixP x13 x14)) >>= fun x16 => setF cs_generator a_C gs6 "generator" x16 >>= fun gs17 => (((Res.val (.ins a_C gs17)) >>= fun x20 => sel [("PowerGroup", ap2 m_Group__powers_of), ("TableGroup", ap2 m_Group__powers_of)] "_powers_of" x20 >>= fun g21 => ((fldP cs_generator "generator" (.ins a_C gs17)) >>= fun x18 => (Res.val []) >>= fun xs19 => Res.val (x18 :: xs19)) >>= fun ps22 => g21 (x20 :: ps22) >>= flR) >>= fun x23 => setF cs__powers a_C gs17 "_powers" x23 >>= fun gs24 => (((((fldP cs__powers "_powers" (.ins a_C gs24)) >>= asTu >>= fun ps25 => Res.val (enumP ps25)) >>= fun ps27 => sized ps27.length >>= fun _ => dcF un2 (fun (a26 : PV × PV) => (Res.val true)) (fun (a26 : PV × PV) => (Res.val a26.2)) (fun (a26 : PV × PV) => (Res.val a26.1)) ps27 []) >>= fun ps28 => Res.val (PV.dct ps28)) >>= fun x29 => setF cs__exponents a_C gs24 "_exponents" x29 >>= fun gs30 => (Res.val (.nx (MO.ob a_C gs30)))))))))
  | _ => .stuck
theorem ok_Group___init__ (T : Top P K mg) : FnOk P w K mg base (L2.CX P w) 3 T.f_Group___init__ T.d_Group___init__ ["self", "order", "unit", "members"] (spI K (clT T) (apR3 m_Group___init__)) := by
  have G_Group__powers_of := ok_Group__powers_of (P := P) (w := w) (base := base) T
  refine fnI T.F_Group___init__ scGroup___init__ rfl taknR3 fun cdv A outer s H E hr mo qs hq => ?_
  match mo, qs, hq with
  | .lst _, [_, _, _], _ => exact .inl rfl
  | .dct _, [_, _, _], _ => exact .inl rfl
  | .ob a_C a_self, [a_order, a_unit, a_members], _ => exact .inr ⟨_, (pss_cons (ps_fld (pv 0) (pv 1) rfl)
      (pss_cons (ps_fld (pv 0) (pv 2) rfl)
      (pss_cons (ps_fld (pv 0) (pv 3) rfl)
      (pss_cons (ps_fld (pv 0) (pe_ifExp (pt_cmpR (op_eqV K rfl hr.units) (pe_ix (ix_VK K rfl) (pv 3) pe_int (fun _ _ => rfl)) (pv 2) (nomark _)) (pe_ix (ix_VK K rfl) (pv 3) pe_int (fun _ _ => rfl)) (pe_ix (ix_VK K rfl) (pv 3) pe_int (fun _ _ => rfl))) rfl)
      (pss_cons (ps_fld (pv 0) (PE.either (pe_methT (pv 0) T.cls_PowerGroup T.me_PowerGroup__powers_of G_Group__powers_of (hr.mono (by decide)) T.b_Group__powers_of (fun σ => passAt (takes_of rfl rfl rfl rfl) σ) (pa_cons (pe_fldV K rfl (pv 0) rfl) pa_nil)) (pe_methT (pv 0) T.cls_TableGroup T.me_TableGroup__powers_of G_Group__powers_of (hr.mono (by decide)) T.b_Group__powers_of (fun σ => passAt (takes_of rfl rfl rfl rfl) σ) (pa_cons (pe_fldV K rfl (pv 0) rfl) pa_nil))) rfl)
      (pss_one (ps_fld (pv 0) (pe_dc (own := [("exponent", 4), ("member", 5)]) (g := gTup K 2 (gCons (gName 4) (gCons (gName 5) gNil))) (tt := tYes) rfl scGroup___init__.nd (pi_enTV K rfl (by rfl) T.z_enumerate (pa_cons (pe_fldV K rfl (pv 0) rfl) pa_nil)) (blkOk_by (own := [("exponent", 4), ("member", 5)]) (N := ["self", "order", "unit", "members", "exponent", "member"]) (sc := defScope s_Group___init__) (by decide +kernel)) (fun _ _ _ _ _ => (pg_tup (by rfl) (pgs_cons (pg_name (i := 4) scGroup___init__.nd rfl (Or.inl rfl)) (pgs_cons (pg_name (i := 5) scGroup___init__.nd rfl (Or.inl rfl)) pgs_nil)))) (fun _ _ _ _ _ => pts_nil) (fun _ _ _ _ _ => (pv 5)) (fun _ _ _ _ _ => (pv 4))) rfl))))))),
    _, run_one (run_assoc (run_setfld (i := 0) T.fl_order rfl (.inr ⟨_, rfl⟩) (pu_var rfl) (wk_uns rfl) fun gs2 => (run_assoc (run_setfld (i := 0) T.fl_unit rfl (.inr ⟨_, rfl⟩) (pu_var rfl) (wk_uns rfl) fun gs4 => (run_assoc (run_setfld (i := 0) T.fl_members rfl (.inr ⟨_, rfl⟩) (pu_var rfl) (wk_uns rfl) fun gs6 => (run_assoc (run_setfld (i := 0) T.fl_generator rfl (.inr ⟨_, rfl⟩) (pu_if (ts_cmp (Pur.vw (pu_op o2_eq (Pur.vw (pu_op o2_ix (Pur.vw (pu_var rfl)) (Pur.vw pu_int))) (Pur.vw (pu_var rfl))))) (pu_op o2_ix (Pur.vw (pu_var rfl)) (Pur.vw pu_int)) (pu_op o2_ix (Pur.vw (pu_var rfl)) (Pur.vw pu_int))) (wk_uns rfl) fun gs17 => (run_assoc (run_setfld (i := 0) T.fl__powers rfl (.inr ⟨_, rfl⟩) (pu_meths (pu_methO (i := 0) T.ce_PowerGroup rfl (.inr ⟨_, rfl⟩) (pl_cons (pu_fldO (i := 0) T.fl_generator rfl (.inr ⟨_, rfl⟩)) pl_nil)) (pu_methO (i := 0) T.ce_TableGroup rfl (.inr ⟨_, rfl⟩) (pl_cons (pu_fldO (i := 0) T.fl_generator rfl (.inr ⟨_, rfl⟩)) pl_nil))) (wk_uns rfl) fun gs24 => (run_setfld (i := 0) T.fl__exponents rfl (.inr ⟨_, rfl⟩) (NewD.pur (nd_dc (ρe := fun (a26 : PV × PV) => [(.rf 0 (.ob a_C gs24)), (.fz a_order), (.fz a_unit), (.fz a_members), (.fz a26.1), (.fz a26.2)]) (Iter.view (it_enT (pu_fldO (i := 0) T.fl__powers rfl (.inr ⟨_, rfl⟩)))) rfl (by decide) (tg_2 (i := 4) (j := 5) rfl rfl (Or.inr (by decide))) (fun a26 => ts_yes) (fun a26 => (pu_var rfl)) (fun a26 => (pu_var rfl)))) (wk_uns rfl) fun gs30 => (run_next (s := MO.ob a_C gs30) (.keep (.drop (.drop (.drop (.keep (.keep .nil)))))))))))))))))), rfl⟩
def m__is_associative (a_table : PV) : Res PV := retF (((((Res.val a_table) >>= lenP) >>= partP >>= fun i1 => Res.val ((0 : Int), i1)) >>= fun x3 => rgL x3.1 x3.2 >>= fun l4 => Res.val (PV.lst l4)) >>= fun x5 => (seqF (S1 := Unit) (((Res.val x5) >>= asSq) >>= fun ps37 => forF (fun (x38 : PV) (s6 : Unit) => (fun x => Res.val x) x38 >>= fun (a7 : PV) => (seqF (S1 := Unit) (((Res.val x5) >>= asSq) >>= fun ps34 => forF (fun (x35 : PV) (s8 : Unit) => (fun x => Res.val x) x35 >>= fun (a9 : PV) => ((((((((Res.val x5) >>= asSq) >>= fun ps29 => sized ps29.length >>= fun _ => lcF (fun x => Res.val x) (fun (a10 : PV) => (Res.val true)) (fun (a10 : PV) => ((((Res.val a_table) >>= fun x15 => (((Res.val a_table) >>= fun x11 => (Res.val a7) >>= fun x12 => ixP x11 x12) >>= fun x13 => (Res.val a9) >>= fun x14 => ixP x13 x14) >>= fun x16 => ixP x15 x16) >>= fun x17 => (Res.val a10) >>= fun x18 => ixP x17 x18) >>= fun x27 => (((Res.val a_table) >>= fun x19 => (Res.val a7) >>= fun x20 => ixP x19 x20) >>= fun x25 => (((Res.val a_table) >>= fun x21 => (Res.val a9) >>= fun x22 => ixP x21 x22) >>= fun x23 => (Res.val a10) >>= fun x24 => ixP x23 x24) >>= fun x26 => ixP x25 x26) >>= fun x28 => eqP x27 x28)) ps29) >>= fun ps30 => Res.val (PV.lst ps30)) >>= allP) >>= asB) >>= fun b31 => Res.val (!b31)) >>= fun b32 => if b32 = true then ((Res.val (PV.bl false)) >>= fun v33 => Res.val (.rt v33 [])) else (Res.val (.nx ())))) ps34 ()) fun s36 => (Res.val (.nx ())))) ps37 ()) fun s39 => ((Res.val (PV.bl true)) >>= fun v40 => Res.val (.rt v40 []))))
theorem ok__is_associative (T : Top P K mg) : FnOk P w K mg base (L2.CX P w) 1 T.f__is_associative T.d__is_associative ["table"] (spP K (clT T) (ap1 m__is_associative)) := by
  refine fnP T.F__is_associative sc_is_associative rfl takn1 fun cdv A outer s H E hr qs hq => ?_
  match qs, hq with
  | [a_table], _ => exact ⟨_, (pss_cons (ps_set (i := 1) sc_is_associative.nd rfl (Or.inl rfl) (pe_listRg rfl (by rfl) T.z_list (prg_1 (by rfl) T.z_range (pe_callB (call_lenVK K rfl) (by rfl) T.z_len PySem.boot_len (pa_cons (pv 0) pa_nil)))))
      (pss_cons (ps_for (passes_of rfl) rfl (pi_seqV K rfl (pv 1)) (pg_name (i := 2) sc_is_associative.nd rfl (Or.inr rfl)) (pss_one (ps_for (passes_of rfl) rfl (pi_seqV K rfl (pv 1)) (pg_name (i := 3) sc_is_associative.nd rfl (Or.inr rfl)) (pss_one (ps_if (pt_not (pt_val (pe_callB (cr_allV K rfl rfl) (by rfl) T.z_all (by decide +kernel) (pa_cons (pe_lc (own := [("c", 4)]) (g := gName 4) (tt := tYes) rfl sc_is_associative.nd (pi_seqV K rfl (pv 1)) (blkOk_by (own := [("c", 4)]) (N := ["table", "everyone", "a", "b", "c"]) (sc := defScope s__is_associative) (by decide +kernel)) (fun _ _ _ _ _ => (pg_name (i := 4) sc_is_associative.nd rfl (Or.inl rfl))) (fun _ _ _ _ _ => pts_nil) (fun _ _ _ _ _ => (pe_cmpR (op_eqV K rfl hr.units) (pe_ix (ix_VK K rfl) (pe_ix (ix_VK K rfl) (pv 0) (pe_ix (ix_VK K rfl) (pe_ix (ix_VK K rfl) (pv 0) (pv 2) (fun _ _ => rfl)) (pv 3) (fun _ _ => rfl)) (fun _ _ => rfl)) (pv 4) (fun _ _ => rfl)) (pe_ix (ix_VK K rfl) (pe_ix (ix_VK K rfl) (pv 0) (pv 2) (fun _ _ => rfl)) (pe_ix (ix_VK K rfl) (pe_ix (ix_VK K rfl) (pv 0) (pv 3) (fun _ _ => rfl)) (pv 4) (fun _ _ => rfl)) (fun _ _ => rfl)) (nomark _)))) pa_nil)))) (pss_one (ps_ret pe_bl)) pss_nil)))))
      (pss_one (ps_ret pe_bl)))),
    _, run_one (run_assoc (run_set (i := 1) (New.pur' (nw_listRg (rg_1 (Pur.vw (pu_cb1 b1_len (Pur.vw (pu_var rfl))))))) rfl (wk_uns rfl) fun x5 => (run_assoc (run_seq (ρj := fun (s39 : Unit) => [(.fz a_table), (.fz x5), .un, .un, .un]) (run_for (ρs := fun (s6 : Unit) => [(.fz a_table), (.fz x5), .un, .un, .un]) (s0 := ()) (ρe := fun (s6 : Unit) (a7 : PV) => [(.fz a_table), (.fz x5), (.fz a7), .un, .un]) (it_seq (pu_var rfl)) (.keep (.keep (.keep (.keep (.keep .nil))))) (wk_uns rfl) (fun s6 => (tg_name (i := 2) rfl (Or.inl rfl))) (fun a7 s6 => run_one (run_seq (ρj := fun (s36 : Unit) => [(.fz a_table), (.fz x5), (.fz a7), .un, .un]) (run_for (ρs := fun (s8 : Unit) => [(.fz a_table), (.fz x5), (.fz a7), .un, .un]) (s0 := ()) (ρe := fun (s8 : Unit) (a9 : PV) => [(.fz a_table), (.fz x5), (.fz a7), (.fz a9), .un]) (it_seq (pu_var rfl)) (.keep (.keep (.keep (.keep (.keep .nil))))) (wk_uns rfl) (fun s8 => (tg_name (i := 3) rfl (Or.inl rfl))) (fun a9 s8 => run_one (run_if (ts_not (ts_val (Pur.vw (pu_cb1 b1_all (Pur.vw (New.pur (nw_lc (ρe := fun (a10 : PV) => [(.fz a_table), (.fz x5), (.fz a7), (.fz a9), (.fz a10)]) (Iter.view (it_seq (pu_var rfl))) rfl (by decide) (tg_name (i := 4) rfl (Or.inr (by decide))) (fun a10 => ts_yes) (fun a10 => (pu_op o2_eq (Pur.vw (pu_op o2_ix (Pur.vw (pu_op o2_ix (Pur.vw (pu_var rfl)) (Pur.vw (pu_op o2_ix (Pur.vw (pu_op o2_ix (Pur.vw (pu_var rfl)) (Pur.vw (pu_var rfl)))) (Pur.vw (pu_var rfl)))))) (Pur.vw (pu_var rfl)))) (Pur.vw (pu_op o2_ix (Pur.vw (pu_op o2_ix (Pur.vw (pu_var rfl)) (Pur.vw (pu_var rfl)))) (Pur.vw (pu_op o2_ix (Pur.vw (pu_op o2_ix (Pur.vw (pu_var rfl)) (Pur.vw (pu_var rfl)))) (Pur.vw (pu_var rfl))))))))))))))) (wk_uns rfl) (run_ret pu_bl rfl rfl (wk_uns rfl)) (run_skip (run_next (s := ()) (.keep (.keep (.keep (.drop (.keep .nil)))))))))) fun s36 => (run_next (s := ()) (.keep (.keep (.drop (.keep (.keep .nil))))))))) fun s39 => (run_ret pu_bl rfl rfl (wk_uns rfl)))))), rfl⟩
def m_is_prime (a_n : PV) : Res PV := retF ((((Res.val a_n) >>= fun x1 => (Res.val (PV.int 2)) >>= fun x2 => ltP x1 x2) >>= asB) >>= fun b3 => if b3 = true then ((Res.val (PV.bl false)) >>= fun v4 => Res.val (.rt v4 [])) else ((Res.val (PV.int 2)) >>= fun x5 => (seqF (S1 := PV) (whileF (fun (s6 : PV) => ((((Res.val s6) >>= fun x7 => (Res.val s6) >>= fun x8 => mulP x7 x8) >>= fun x9 => (Res.val a_n) >>= fun x10 => leP x9 x10) >>= asB)) (fun (s6 : PV) => (((((Res.val a_n) >>= fun x11 => (Res.val s6) >>= fun x12 => modP x11 x12) >>= fun x13 => (Res.val (PV.int 0)) >>= fun x14 => eqP x13 x14) >>= asB) >>= fun b15 => if b15 = true then ((Res.val (PV.bl false)) >>= fun v16 => Res.val (.rt v16 [])) else ((Res.val (PV.int 1)) >>= fun y17 => ints2 (fun i j => Res.val (PV.int (i + j))) s6 y17 >>= fun x18 => (Res.val (.nx x18))))) FUEL x5) fun s19 => ((Res.val (PV.bl true)) >>= fun v20 => Res.val (.rt v20 [])))))
theorem ok_is_prime (T : Top P K mg) : FnOk P w K mg base (L2.CX P w) 1 T.f_is_prime T.d_is_prime ["n"] (spP K (clT T) (ap1 m_is_prime)) := by
  refine fnP T.F_is_prime scis_prime rfl takn1 fun cdv A outer s H E hr qs hq => ?_
  match qs, hq with
  | [a_n], _ => exact ⟨_, (pss_cons (ps_if (pt_cmpR op_lt (pv 0) pe_int (nomark _)) (pss_one (ps_ret pe_bl)) pss_nil)
      (pss_cons (ps_set (i := 1) scis_prime.nd rfl (Or.inl rfl) pe_int)
      (pss_cons (ps_while (passes_of rfl) (pt_cmpR op_le (pe_op op_mulV (pv 1) (pv 1)) (pv 0) (nomark _)) (pss_cons (ps_if (pt_cmpR (op_eqV K rfl hr.units) (pe_op op_modN (pv 0) (pv 1)) pe_int (nomark _)) (pss_one (ps_ret pe_bl)) pss_nil)
      (pss_one (ps_aug (i := 1) scis_prime.nd rfl (Or.inl rfl) pe_int ip_add))))
      (pss_one (ps_ret pe_bl))))),
    _, run_one (run_assoc (run_if (ts_cmp (Pur.vw (pu_op o2_lt (Pur.vw (pu_var rfl)) (Pur.vw pu_int)))) (wk_uns rfl) (run_ret pu_bl rfl rfl (wk_uns rfl)) (run_skip (run_assoc (run_set (i := 1) pu_int rfl (wk_uns rfl) fun x5 => (run_assoc (run_seq (ρj := fun (s19 : PV) => [(.fz a_n), (.fz s19)]) (run_while (ρs := fun (s6 : PV) => [(.fz a_n), (.fz s6)]) (s0 := x5) (.keep (.keep .nil)) (fun s6 => (wk_uns rfl)) (fun s6 => (ts_cmp (Pur.vw (pu_op o2_le (Pur.vw (pu_op o2_mul (Pur.vw (pu_var rfl)) (Pur.vw (pu_var rfl)))) (Pur.vw (pu_var rfl)))))) (fun s6 => run_one (run_assoc (run_if (ts_cmp (Pur.vw (pu_op o2_eq (Pur.vw (pu_op o2_mod (Pur.vw (pu_var rfl)) (Pur.vw (pu_var rfl)))) (Pur.vw pu_int)))) (wk_uns rfl) (run_ret pu_bl rfl rfl (wk_uns rfl)) (run_skip (run_aug (i := 1) rfl (Pur.vw pu_int) rfl (wk_uns rfl) fun x18 => (run_next (s := x18) (.keep (.keep .nil))))))))) fun s19 => (run_ret pu_bl rfl rfl (wk_uns rfl))))))))), rfl⟩
def m_is_tuple_of (a_length a_value : PV) : Res PV := retF ((((Res.val a_value) >>= fun x3 => (Res.val (PV.ty "tuple")) >>= fun x4 => isiP x3 x4) >>= asB >>= fun b5 => if b5 = true then (((Res.val a_value) >>= lenP) >>= fun x1 => (Res.val a_length) >>= fun x2 => eqP x1 x2) else Res.val (PV.bl false)) >>= fun v6 => Res.val (.rt v6 []))
theorem ok_is_tuple_of (T : Top P K mg) : FnOk P w K mg base (L2.CX P w) 1 T.f_is_tuple_of T.d_is_tuple_of ["length", "value"] (spP K (clT T) (ap2 m_is_tuple_of)) := by
  refine fnP T.F_is_tuple_of scis_tuple_of rfl takn2 fun cdv A outer s H E hr qs hq => ?_
  match qs, hq with
  | [a_length, a_value], _ => exact ⟨_, (pss_one (ps_ret (pe_and (pe_callB (call_isiV K rfl) (by rfl) T.z_isinstance (by decide +kernel) (pa_cons (pv 1) (pa_cons (pe_bltn (v := .ty "tuple") (by rfl) T.z_tuple (by decide +kernel) rfl) pa_nil))) (pe_one (pe_cmpR (op_eqV K rfl hr.units) (pe_callB (call_lenVK K rfl) (by rfl) T.z_len PySem.boot_len (pa_cons (pv 1) pa_nil)) (pv 0) (nomark _)))))),
    _, run_one (run_ret (pu_andV (Pur.vw (pu_cb2 b2_isi (Pur.vw (pu_var rfl)) (Pur.vw pu_ty))) (pu_op o2_eq (Pur.vw (pu_cb1 b1_len (Pur.vw (pu_var rfl)))) (Pur.vw (pu_var rfl)))) rfl rfl (wk_uns rfl)), rfl⟩
def m_is_residue (a_q a_value : PV) : Res PV := retF ((((Res.val a_value) >>= fun x5 => (Res.val (PV.ty "int")) >>= fun x6 => isiP x5 x6) >>= asB >>= fun b7 => if b7 = true then ((Res.val (PV.int 0)) >>= fun x1 => (Res.val a_value) >>= fun x2 => leP x1 x2 >>= asB >>= fun b4 => if b4 = true then (Res.val a_q) >>= fun x3 => ltP x2 x3 else Res.val (PV.bl false)) else Res.val (PV.bl false)) >>= fun v8 => Res.val (.rt v8 []))
theorem ok_is_residue (T : Top P K mg) : FnOk P w K mg base (L2.CX P w) 1 T.f_is_residue T.d_is_residue ["q", "value"] (spP K (clT T) (ap2 m_is_residue)) := by
  refine fnP T.F_is_residue scis_residue rfl takn2 fun cdv A outer s H E hr qs hq => ?_
  match qs, hq with
  | [a_q, a_value], _ => exact ⟨_, (pss_one (ps_ret (pe_and (pe_callB (call_isiV K rfl) (by rfl) T.z_isinstance (by decide +kernel) (pa_cons (pv 1) (pa_cons (pe_bltn (v := .ty "int") (by rfl) T.z_int (by decide +kernel) rfl) pa_nil))) (pe_one (pe_chain op_le op_lt pe_int (pv 1) (pv 0)))))),
    _, run_one (run_ret (pu_andV (Pur.vw (pu_cb2 b2_isi (Pur.vw (pu_var rfl)) (Pur.vw pu_ty))) (pu_chain o2_le o2_lt (Pur.vw pu_int) (Pur.vw (pu_var rfl)) (Pur.vw (pu_var rfl)))) rfl rfl (wk_uns rfl)), rfl⟩
def m_is_residue_row (a_q a_length a_value : PV) : Res PV := retF ((((Res.val a_length) >>= fun x6 => (Res.val a_value) >>= fun x7 => m_is_tuple_of x6 x7) >>= asB >>= fun b8 => if b8 = true then (((((Res.val a_value) >>= asSq) >>= fun ps4 => sized ps4.length >>= fun _ => lcF (fun x => Res.val x) (fun (a1 : PV) => (Res.val true)) (fun (a1 : PV) => ((Res.val a_q) >>= fun x2 => (Res.val a1) >>= fun x3 => m_is_residue x2 x3)) ps4) >>= fun ps5 => Res.val (PV.lst ps5)) >>= allP) else Res.val (PV.bl false)) >>= fun v9 => Res.val (.rt v9 []))
theorem ok_is_residue_row (T : Top P K mg) : FnOk P w K mg base (L2.CX P w) 2 T.f_is_residue_row T.d_is_residue_row ["q", "length", "value"] (spP K (clT T) (ap3 m_is_residue_row)) := by
  have G_is_tuple_of := ok_is_tuple_of (P := P) (w := w) (base := base) T
  have G_is_residue := ok_is_residue (P := P) (w := w) (base := base) T
  refine fnP T.F_is_residue_row scis_residue_row rfl takn3 fun cdv A outer s H E hr qs hq => ?_
  match qs, hq with
  | [a_q, a_length, a_value], _ => exact ⟨_, (pss_one (ps_ret (pe_and (pe_callS G_is_tuple_of (hr.mono (by decide)) (by rfl) T.m_is_tuple_of T.F_is_tuple_of.kp T.b_is_tuple_of (fun σ => passAt (takes_of rfl rfl rfl rfl) σ) (pa_cons (pv 1) (pa_cons (pv 2) pa_nil))) (pe_one (pe_callB (cr_allV K rfl rfl) (by rfl) T.z_all (by decide +kernel) (pa_cons (pe_lc (own := [("item", 3)]) (g := gName 3) (tt := tYes) rfl scis_residue_row.nd (pi_seqV K rfl (pv 2)) (blkOk_by (own := [("item", 3)]) (N := ["q", "length", "value", "item"]) (sc := defScope s_is_residue_row) (by decide +kernel)) (fun _ _ _ _ _ => (pg_name (i := 3) scis_residue_row.nd rfl (Or.inl rfl))) (fun _ _ _ _ _ => pts_nil) (fun _ _ _ _ _ => (pe_callS G_is_residue (hr.mono (by decide)) (by rfl) T.m_is_residue T.F_is_residue.kp T.b_is_residue (fun σ => passAt takes0 σ) (pa_cons (pv 0) (pa_cons (pv 3) pa_nil))))) pa_nil)))))),
    _, run_one (run_ret (pu_andV (Pur.vw (pu_call2 (pu_var rfl) (pu_var rfl))) (pu_cb1 b1_all (Pur.vw (New.pur (nw_lc (ρe := fun (a1 : PV) => [(.fz a_q), (.fz a_length), (.fz a_value), (.fz a1)]) (Iter.view (it_seq (pu_var rfl))) rfl (by decide) (tg_name (i := 3) rfl (Or.inr (by decide))) (fun a1 => ts_yes) (fun a1 => (pu_call2 (pu_var rfl) (pu_var rfl)))))))) rfl rfl (wk_uns rfl)), rfl⟩
def m__is_square (a_table : PV) : Res PV := retF (((((Res.val a_table) >>= fun x1 => (Res.val (PV.ty "tuple")) >>= fun x2 => isiP x1 x2) >>= asB) >>= fun b3 => Res.val (!b3)) >>= fun b4 => if b4 = true then ((Res.val (PV.bl false)) >>= fun v5 => Res.val (.rt v5 [])) else (((Res.val a_table) >>= lenP) >>= fun x6 => ((((((Res.val (PV.int 3)) >>= fun x9 => (Res.val x6) >>= fun x10 => leP x9 x10 >>= asB >>= fun b12 => if b12 = true then (Res.val (PV.int 13)) >>= fun x11 => leP x10 x11 else Res.val (PV.bl false)) >>= asB) >>= fun b13 => Res.val (!b13)) >>= fun b14 => if b14 = true then Res.val true else ((((Res.val x6) >>= m_is_prime) >>= asB) >>= fun b8 => Res.val (!b8))) >>= fun b15 => if b15 = true then ((Res.val (PV.bl false)) >>= fun v16 => Res.val (.rt v16 [])) else ((((((Res.val a_table) >>= asSq) >>= fun ps21 => sized ps21.length >>= fun _ => lcF (fun x => Res.val x) (fun (a17 : PV) => (Res.val true)) (fun (a17 : PV) => ((Res.val x6) >>= fun x18 => (Res.val x6) >>= fun x19 => (Res.val a17) >>= fun x20 => m_is_residue_row x18 x19 x20)) ps21) >>= fun ps22 => Res.val (PV.lst ps22)) >>= allP) >>= fun v23 => Res.val (.rt v23 [])))))
theorem ok__is_square (T : Top P K mg) : FnOk P w K mg base (L2.CX P w) 3 T.f__is_square T.d__is_square ["table"] (spP K (clT T) (ap1 m__is_square)) := by
  have G_is_prime := ok_is_prime (P := P) (w := w) (base := base) T
  have G_is_residue_row := ok_is_residue_row (P := P) (w := w) (base := base) T
  refine fnP T.F__is_square sc_is_square rfl takn1 fun cdv A outer s H E hr qs hq => ?_
  match qs, hq with
  | [a_table], _ => exact ⟨_, (pss_cons (ps_if (pt_not (pt_val (pe_callB (call_isiV K rfl) (by rfl) T.z_isinstance (by decide +kernel) (pa_cons (pv 0) (pa_cons (pe_bltn (v := .ty "tuple") (by rfl) T.z_tuple (by decide +kernel) rfl) pa_nil))))) (pss_one (ps_ret pe_bl)) pss_nil)
      (pss_cons (ps_set (i := 1) sc_is_square.nd rfl (Or.inr rfl) (pe_callB (call_lenVK K rfl) (by rfl) T.z_len PySem.boot_len (pa_cons (pv 0) pa_nil)))
      (pss_cons (ps_if (PW.pt (pw_or (pt_not (pt_chain op_le op_le (pe_gint rfl T.n_SMALLEST_ORDER) (pv 1) (pe_gint rfl T.n_LARGEST_TABLE_ORDER))) (pw_or1 (pt_not (pt_val (pe_callS G_is_prime (hr.mono (by decide)) (by rfl) T.m_is_prime T.F_is_prime.kp T.b_is_prime (fun σ => passAt (takes_of rfl rfl rfl rfl) σ) (pa_cons (pv 1) pa_nil))))))) (pss_one (ps_ret pe_bl)) pss_nil)
      (pss_one (ps_ret (pe_callB (cr_allV K rfl rfl) (by rfl) T.z_all (by decide +kernel) (pa_cons (pe_lc (own := [("row", 2)]) (g := gName 2) (tt := tYes) rfl sc_is_square.nd (pi_seqV K rfl (pv 0)) (blkOk_by (own := [("row", 2)]) (N := ["table", "order", "row"]) (sc := defScope s__is_square) (by decide +kernel)) (fun _ _ _ _ _ => (pg_name (i := 2) sc_is_square.nd rfl (Or.inl rfl))) (fun _ _ _ _ _ => pts_nil) (fun _ _ _ _ _ => (pe_callS G_is_residue_row (hr.mono (by decide)) (by rfl) T.m_is_residue_row T.F_is_residue_row.kp T.b_is_residue_row (fun σ => passAt takes0 σ) (pa_cons (pv 1) (pa_cons (pv 1) (pa_cons (pv 2) pa_nil)))))) pa_nil))))))),
    _, run_one (run_assoc (run_if (ts_not (ts_val (Pur.vw (pu_cb2 b2_isi (Pur.vw (pu_var rfl)) (Pur.vw pu_ty))))) (wk_uns rfl) (run_ret pu_bl rfl rfl (wk_uns rfl)) (run_skip (run_assoc (run_set (i := 1) (pu_cb1 b1_len (Pur.vw (pu_var rfl))) rfl (wk_uns rfl) fun x6 => (run_assoc (run_if (ts_or (ts_not (ts_cmp (Pur.vw (pu_chain o2_le o2_le (Pur.vw pu_int) (Pur.vw (pu_var rfl)) (Pur.vw pu_int))))) (ts_not (ts_val (Pur.vw (pu_call1 (pu_var rfl)))))) (wk_uns rfl) (run_ret pu_bl rfl rfl (wk_uns rfl)) (run_skip (run_ret (pu_cb1 b1_all (Pur.vw (New.pur (nw_lc (ρe := fun (a17 : PV) => [(.fz a_table), (.fz x6), (.fz a17)]) (Iter.view (it_seq (pu_var rfl))) rfl (by decide) (tg_name (i := 2) rfl (Or.inr (by decide))) (fun a17 => ts_yes) (fun a17 => (pu_call3 (pu_var rfl) (pu_var rfl) (pu_var rfl))))))) rfl rfl (wk_uns rfl)))))))))), rfl⟩
def m__units (a_table : PV) : Res PV := retF (((((Res.val a_table) >>= lenP) >>= partP >>= fun i1 => Res.val ((0 : Int), i1)) >>= fun x3 => rgL x3.1 x3.2 >>= fun l4 => Res.val (PV.lst l4)) >>= fun x5 => (((((Res.val x5) >>= asSq) >>= fun ps23 => sized ps23.length >>= fun _ => lcF (fun x => Res.val x) (fun (a6 : PV) => ((((((Res.val x5) >>= asSq) >>= fun ps21 => sized ps21.length >>= fun _ => lcF (fun x => Res.val x) (fun (a7 : PV) => (Res.val true)) (fun (a7 : PV) => (((((Res.val a_table) >>= fun x14 => (Res.val a6) >>= fun x15 => ixP x14 x15) >>= fun x16 => (Res.val a7) >>= fun x17 => ixP x16 x17) >>= fun x18 => (Res.val a7) >>= fun x19 => eqP x18 x19) >>= asB >>= fun b20 => if b20 = true then ((((Res.val a_table) >>= fun x8 => (Res.val a7) >>= fun x9 => ixP x8 x9) >>= fun x10 => (Res.val a6) >>= fun x11 => ixP x10 x11) >>= fun x12 => (Res.val a7) >>= fun x13 => eqP x12 x13) else Res.val (PV.bl false))) ps21) >>= fun ps22 => Res.val (PV.lst ps22)) >>= allP) >>= asB)) (fun (a6 : PV) => (Res.val a6)) ps23) >>= fun ps24 => Res.val (PV.lst ps24)) >>= fun v25 => Res.val (.rt v25 [])))
theorem ok__units (T : Top P K mg) : FnOk P w K mg base (L2.CX P w) 1 T.f__units T.d__units ["table"] (spP K (clT T) (ap1 m__units)) := by
  refine fnP T.F__units sc_units rfl takn1 fun cdv A outer s H E hr qs hq => ?_
  match qs, hq with
  | [a_table], _ => exact ⟨_, (pss_cons (ps_set (i := 1) sc_units.nd rfl (Or.inr rfl) (pe_listRg rfl (by rfl) T.z_list (prg_1 (by rfl) T.z_range (pe_callB (call_lenVK K rfl) (by rfl) T.z_len PySem.boot_len (pa_cons (pv 0) pa_nil)))))
      (pss_one (ps_ret (pe_lc (own := [("unit", 2)]) (g := gName 2)  rfl sc_units.nd (pi_seqV K rfl (pv 1)) (blkOk_by (own := [("unit", 2)]) (N := ["table", "everyone", "unit", "a"]) (sc := defScope s__units) (by decide +kernel)) (fun _ _ _ _ _ => (pg_name (i := 2) sc_units.nd rfl (Or.inr rfl))) (fun _ _ _ _ _ => (pts_one (pt_val (pe_callB (cr_allV K rfl rfl) (by rfl) T.z_all (by decide +kernel) (pa_cons (pe_lc (own := [("a", 3)]) (g := gName 3) (tt := tYes) rfl sc_units.nd (pi_seqV K rfl (pv 1)) (blkOk_by (own := [("a", 3)]) (N := ["table", "everyone", "unit", "a"]) (sc := relS _ (defScope s__units)) (by decide +kernel)) (fun _ _ _ _ _ => (pg_name (i := 3) sc_units.nd rfl (Or.inl rfl))) (fun _ _ _ _ _ => pts_nil) (fun _ _ _ _ _ => (pe_and (pe_cmpR (op_eqV K rfl hr.units) (pe_ix (ix_VK K rfl) (pe_ix (ix_VK K rfl) (pv 0) (pv 2) (fun _ _ => rfl)) (pv 3) (fun _ _ => rfl)) (pv 3) (nomark _)) (pe_one (pe_cmpR (op_eqV K rfl hr.units) (pe_ix (ix_VK K rfl) (pe_ix (ix_VK K rfl) (pv 0) (pv 3) (fun _ _ => rfl)) (pv 2) (fun _ _ => rfl)) (pv 3) (nomark _)))))) pa_nil))))) (fun _ _ _ _ _ => (pv 2)))))),
    _, run_one (run_assoc (run_set (i := 1) (New.pur' (nw_listRg (rg_1 (Pur.vw (pu_cb1 b1_len (Pur.vw (pu_var rfl))))))) rfl (wk_uns rfl) fun x5 => (run_ret (New.pur (nw_lc (ρe := fun (a6 : PV) => [(.fz a_table), (.fz x5), (.fz a6), .un]) (Iter.view (it_seq (pu_var rfl))) rfl (by decide) (tg_name (i := 2) rfl (Or.inr (by decide))) (fun a6 => (ts_val (Pur.vw (pu_cb1 b1_all (Pur.vw (New.pur (nw_lc (ρe := fun (a7 : PV) => [(.fz a_table), (.fz x5), (.fz a6), (.fz a7)]) (Iter.view (it_seq (pu_var rfl))) rfl (by decide) (tg_name (i := 3) rfl (Or.inr (by decide))) (fun a7 => ts_yes) (fun a7 => (pu_andV (Pur.vw (pu_op o2_eq (Pur.vw (pu_op o2_ix (Pur.vw (pu_op o2_ix (Pur.vw (pu_var rfl)) (Pur.vw (pu_var rfl)))) (Pur.vw (pu_var rfl)))) (Pur.vw (pu_var rfl)))) (pu_op o2_eq (Pur.vw (pu_op o2_ix (Pur.vw (pu_op o2_ix (Pur.vw (pu_var rfl)) (Pur.vw (pu_var rfl)))) (Pur.vw (pu_var rfl)))) (Pur.vw (pu_var rfl)))))))))))) (fun a6 => (pu_var rfl)))) rfl rfl (wk_uns rfl)))), rfl⟩
def m__is_group_table (a_table : PV) : Res PV := retF ((((((Res.val a_table) >>= m__is_square) >>= asB) >>= fun b4 => Res.val (!b4)) >>= fun b5 => if b5 = true then Res.val true else ((((Res.val a_table) >>= m__units) >>= truP) >>= fun b2 => Res.val (!b2))) >>= fun b6 => if b6 = true then ((Res.val (PV.bl false)) >>= fun v7 => Res.val (.rt v7 [])) else ((((((((Res.val a_table) >>= asSq) >>= fun ps11 => sized ps11.length >>= fun _ => lcF (fun x => Res.val x) (fun (a8 : PV) => (Res.val true)) (fun (a8 : PV) => (((Res.val a8) >>= lenSetP) >>= fun x9 => ((Res.val a_table) >>= lenP) >>= fun x10 => eqP x9 x10)) ps11) >>= fun ps12 => Res.val (PV.lst ps12)) >>= allP) >>= asB) >>= fun b13 => Res.val (!b13)) >>= fun b14 => if b14 = true then ((Res.val (PV.bl false)) >>= fun v15 => Res.val (.rt v15 [])) else (((Res.val a_table) >>= m__is_associative) >>= fun v17 => Res.val (.rt v17 []))))
theorem ok__is_group_table (T : Top P K mg) : FnOk P w K mg base (L2.CX P w) 4 T.f__is_group_table T.d__is_group_table ["table"] (spP K (clT T) (ap1 m__is_group_table)) := by
  have G__is_associative := ok__is_associative (P := P) (w := w) (base := base) T
  have G__is_square := ok__is_square (P := P) (w := w) (base := base) T
  have G__units := ok__units (P := P) (w := w) (base := base) T
  refine fnP T.F__is_group_table sc_is_group_table rfl takn1 fun cdv A outer s H E hr qs hq => ?_
  match qs, hq with
  | [a_table], _ => exact ⟨_, (pss_cons (ps_if (PW.pt (pw_or (pt_not (pt_val (pe_callS G__is_square (hr.mono (by decide)) (by rfl) T.m__is_square T.F__is_square.kp T.b__is_square (fun σ => passAt (takes_of rfl rfl rfl rfl) σ) (pa_cons (pv 0) pa_nil)))) (pw_or1 (pt_not (pt_truthV K rfl (pe_callS G__units (hr.mono (by decide)) (by rfl) T.m__units T.F__units.kp T.b__units (fun σ => passAt (takes_of rfl rfl rfl rfl) σ) (pa_cons (pv 0) pa_nil))))))) (pss_one (ps_ret pe_bl)) pss_nil)
      (pss_cons (ps_if (pt_not (pt_val (pe_callB (cr_allV K rfl rfl) (by rfl) T.z_all (by decide +kernel) (pa_cons (pe_lc (own := [("row", 1)]) (g := gName 1) (tt := tYes) rfl sc_is_group_table.nd (pi_seqV K rfl (pv 0)) (blkOk_by (own := [("row", 1)]) (N := ["table", "row"]) (sc := defScope s__is_group_table) (by decide +kernel)) (fun _ _ _ _ _ => (pg_name (i := 1) sc_is_group_table.nd rfl (Or.inl rfl))) (fun _ _ _ _ _ => pts_nil) (fun _ _ _ _ _ => (pe_cmpR (op_eqV K rfl hr.units) (pe_lenSetT K rfl rfl (by rfl) T.z_len (by rfl) T.z_set (pv 1)) (pe_callB (call_lenVK K rfl) (by rfl) T.z_len PySem.boot_len (pa_cons (pv 0) pa_nil)) (nomark _)))) pa_nil)))) (pss_one (ps_ret pe_bl)) pss_nil)
      (pss_one (ps_ret (pe_callS G__is_associative (hr.mono (by decide)) (by rfl) T.m__is_associative T.F__is_associative.kp T.b__is_associative (fun σ => passAt (takes_of rfl rfl rfl rfl) σ) (pa_cons (pv 0) pa_nil)))))),
    _, run_one (run_assoc (run_if (ts_or (ts_not (ts_val (Pur.vw (pu_call1 (pu_var rfl))))) (ts_not (ts_tru (Pur.vw (pu_call1 (pu_var rfl)))))) (wk_uns rfl) (run_ret pu_bl rfl rfl (wk_uns rfl)) (run_skip (run_assoc (run_if (ts_not (ts_val (Pur.vw (pu_cb1 b1_all (Pur.vw (New.pur (nw_lc (ρe := fun (a8 : PV) => [(.fz a_table), (.fz a8)]) (Iter.view (it_seq (pu_var rfl))) rfl (by decide) (tg_name (i := 1) rfl (Or.inr (by decide))) (fun a8 => ts_yes) (fun a8 => (pu_op o2_eq (Pur.vw (pu_lenSet (pu_var rfl))) (Pur.vw (pu_cb1 b1_len (Pur.vw (pu_var rfl))))))))))))) (wk_uns rfl) (run_ret pu_bl rfl rfl (wk_uns rfl)) (run_skip (run_ret (pu_call1 (pu_var rfl)) rfl rfl (wk_uns rfl)))))))), rfl⟩
def m_TableGroup___init__ (mo : MO) (a_table : PV) : Res (PV × MO) := match mo with
  | .ob a_C a_self => retR (((((Res.val a_table) >>= m__is_group_table) >>= asB) >>= fun b2 => Res.val (!b2)) >>= fun b3 => if b3 = true then (Res.exc "BadGroup") else ((Res.val a_table) >>= fun x4 => setF cs_table a_C a_self "table" x4 >>= fun gs5 => (supP (L := Empty) "TableGroup" (.ob a_C gs5) (((Res.val a_table) >>= lenP) >>= fun x17 => ((((Res.val a_table) >>= m__units) >>= fun x13 => (Res.val (PV.int 0)) >>= fun x14 => ixP x13 x14) >>= fun x15 => (((((Res.val a_table) >>= lenP) >>= partP >>= fun i6 => Res.val ((0 : Int), i6)) >>= fun x8 => rgL x8.1 x8.2 >>= fun l9 => Res.val (PV.tup l9)) >>= fun x10 => (Res.val []) >>= fun xs11 => Res.val (x10 :: xs11)) >>= fun xs16 => Res.val (x15 :: xs16)) >>= fun xs18 => Res.val (x17 :: xs18)) (apR3 m_Group___init__))))
  | _ => .stuck
theorem ok_TableGroup___init__ (T : Top P K mg) : FnOk P w K mg base (L2.CX P w) 5 T.f_TableGroup___init__ T.d_TableGroup___init__ ["self", "table"] (spI K (clT T) (apR1 m_TableGroup___init__)) := by
  have G_Group___init__ := ok_Group___init__ (P := P) (w := w) (base := base) T
  have G__is_group_table := ok__is_group_table (P := P) (w := w) (base := base) T
  have G__units := ok__units (P := P) (w := w) (base := base) T
  refine fnIS T.F_TableGroup___init__ scTableGroup___init__ rfl taknR1 fun A outer s H E hr mo qs hq => ?_
  match mo, qs, hq with
  | .lst _, [_], _ => exact .inl rfl
  | .dct _, [_], _ => exact .inl rfl
  | .ob a_C a_self, [a_table], _ => exact .inr ⟨_, (pat_cons (ps_if (pt_not (pt_val (pe_callS G__is_group_table (hr.mono (by decide)) (by rfl) T.m__is_group_table T.F__is_group_table.kp T.b__is_group_table (fun σ => passAt (takes_of rfl rfl rfl rfl) σ) (pa_cons (pv 1) pa_nil)))) (pss_one (ps_raise rfl (takes_of rfl rfl rfl rfl) (pmk_own0 PySem.F.excBase_ValueError T.x_BadGroup T.m_BadGroup T.kc_BadGroup (raises_own T.s_BadGroup T.t_BadGroup) rfl))) pss_nil)
      (pat_cons (ps_fld (pv 0) (pv 1) rfl)
      (pat_super T.su_TableGroup___init__ G_Group___init__ (hr.mono (by decide)) T.b_Group___init__ (passes_call (takes_of rfl rfl rfl rfl) (fun _ _ _ _ h => h)) T.sg_TableGroup___init__ (pa_cons (pe_callB (call_lenVK K rfl) (by rfl) T.z_len PySem.boot_len (pa_cons (pv 1) pa_nil)) (pa_cons (pe_ix (ix_VK K rfl) (pe_callS G__units (hr.mono (by decide)) (by rfl) T.m__units T.F__units.kp T.b__units (fun σ => passAt (takes_of rfl rfl rfl rfl) σ) (pa_cons (pv 1) pa_nil)) pe_int (fun _ _ => rfl)) (pa_cons (pe_tupRg rfl (by rfl) T.z_tuple (prg_1 (by rfl) T.z_range (pe_callB (call_lenVK K rfl) (by rfl) T.z_len PySem.boot_len (pa_cons (pv 1) pa_nil)))) pa_nil))) rfl rfl rfl rfl rfl rfl rfl T.z_super T.hfile T.htop (by decide) rfl rfl rfl rfl))),
    _, id (run_assoc (run_if (ts_not (ts_val (Pur.vw (pu_call1 (pu_var rfl))))) (wk_uns rfl) (run_raise T.ce_BadGroup (wk_uns rfl)) (run_skip (run_assoc (run_setfld (i := 0) T.fl_table rfl (.inr ⟨_, rfl⟩) (pu_var rfl) (wk_uns rfl) fun gs5 => (run_super T.ce_TableGroup (pl_cons (pu_cb1 b1_len (Pur.vw (pu_var rfl))) (pl_cons (pu_op o2_ix (Pur.vw (pu_call1 (pu_var rfl))) (Pur.vw pu_int)) (pl_cons (pu_tupRg (rg_1 (Pur.vw (pu_cb1 b1_len (Pur.vw (pu_var rfl)))))) pl_nil))) (wk_uns rfl) (fun mo' => (.keep (.drop .nil))))))))), rfl⟩
def m__law_table (mo : MO) (a_q : PV) : Res (PV × MO) := match mo with
  | .dct a_pool => retR ((((Res.val a_q) >>= partP >>= fun i1 => Res.val ((0 : Int), i1)) >>= fun x3 => rgL x3.1 x3.2) >>= fun l4 => (noX ((fun (s27 : List PV × List (Key × PV)) => (fun (s6 : List PV × List (Key × PV)) => noX ((Res.val a_q) >>= rng1) >>= fun z8 => Res.val (z8, s6)) s27 >>= fun ps25 => sized ps25.1.length >>= fun _ => lcE (fun x => Res.val x) (fun (a9 : PV) => (fun (s11 : List PV × List (Key × PV)) => Res.val (true, s11))) (fun (a9 : PV) => (fun (s12 : List PV × List (Key × PV)) => (fun (s13 : List PV × List (Key × PV)) => (fun (s17 : List PV × List (Key × PV)) => (fun (s14 : List PV × List (Key × PV)) => noX ((Res.val (PV.lst s14.1)) >>= lenP) >>= fun v15 => Res.val (v15, s14)) s17 >>= fun x18 => (fun (s16 : List PV × List (Key × PV)) => Res.val (([] : List PV), s16)) x18.2 >>= fun xs19 => Res.val (x18.1 :: xs19.1, xs19.2)) s13 >>= fun x20 => (apR1 m__law_take) (MO.dct x20.2.2) x20.1 >>= fun r21 => ((fun (s13 : List PV × List (Key × PV)) (mo : MO) => moD mo >>= fun l => Res.val (s13.1, l)) x20.2 r21.2) >>= fun s22 => Res.val (r21.1, s22)) s12 >>= fun k23 => popL k23.2.1 k23.1 >>= fun r24 => Res.val (r24.1, (r24.2, k23.2.2)))) ps25.1 ps25.2 >>= fun r26 => Res.val (PV.lst r26.1, r26.2)) (l4, a_pool)) >>= fun r30 => (fun (x28 : PV) (s29 : List PV × List (Key × PV)) => ((Res.val []) >>= fun (d31 : List (Key × PV)) => (seqF (S1 := List (Key × PV)) (((Res.val a_q) >>= rng1) >>= fun ps40 => forF (fun (x41 : PV) (s32 : List (Key × PV)) => (fun x => Res.val x) x41 >>= fun (a33 : PV) => ((Res.val a33) >>= fun x36 => ((Res.val x28) >>= fun x34 => (Res.val a33) >>= fun x35 => ixP x34 x35) >>= fun k37 => keyP k37 >>= fun k39 => sized (s32.length + 1) >>= fun _ => (fun (qs38 : List (Key × PV)) => (Res.val (.nx qs38))) (putP s32 k39 x36))) ps40 d31) fun s42 => (((Res.val []) >>= mkN) >>= fun l43 => (seqF (S1 := List PV) (((Res.val a_q) >>= rng1) >>= fun ps60 => forF (fun (x61 : PV) (s44 : List PV) => (fun x => Res.val x) x61 >>= fun (a45 : PV) => ((((((Res.val a_q) >>= rng1) >>= fun ps57 => sized ps57.length >>= fun _ => lcF (fun x => Res.val x) (fun (a46 : PV) => (Res.val true)) (fun (a46 : PV) => ((Res.val x28) >>= fun x55 => (((((Res.val (PV.dct s42)) >>= fun x47 => (Res.val a45) >>= fun x48 => dgetP x47 x48) >>= fun x51 => ((Res.val (PV.dct s42)) >>= fun x49 => (Res.val a46) >>= fun x50 => dgetP x49 x50) >>= fun x52 => addP x51 x52) >>= intP) >>= fun x53 => (Res.val a_q) >>= fun x54 => modP x53 x54) >>= fun x56 => ixP x55 x56)) ps57) >>= fun ps58 => Res.val (PV.lst ps58)) >>= tupleP) >>= fun x59 => sized (s44.length + 1) >>= fun _ => (Res.val (.nx (s44 ++ [x59]))))) ps60 l43) fun s62 => ((((Res.val x28) >>= fun x68 => (((((Res.val (PV.lst s62)) >>= tupleP) >>= fun x63 => (Res.val []) >>= fun xs64 => Res.val (x63 :: xs64)) >>= fun ps65 => (apR1 m_TableGroup___init__) (.ob "TableGroup" []) ps65 >>= frO) >>= fun x66 => (Res.val []) >>= fun xs67 => Res.val (x66 :: xs67)) >>= fun xs69 => Res.val (x68 :: xs69)) >>= mkT) >>= fun v70 => Res.val (.rt v70 [.dct s29.2]))))))) r30.1 r30.2))
  | _ => .stuck
theorem ok__law_table (T : Top P K mg) : FnOk P w K mg base (L2.CX P w) 7 T.f__law_table T.d__law_table ["pool", "q"] (spR K (clT T) (apR1 m__law_table)) := by
  have G_TableGroup___init__ := ok_TableGroup___init__ (P := P) (w := w) (base := base) T
  have G__law_take := ok__law_take (P := P) (w := w) (base := base) T
  refine fnR T.F__law_table scLtable rfl taknR1 fun cdv A outer s H E hr mo qs hq => ?_
  match mo, qs, hq with
  | .lst _, [_], _ => exact .inl rfl
  | .ob _ _, [_], _ => exact .inl rfl
  | .dct a_pool, [a_q], _ => exact .inr ⟨_, (pss_cons (ps_set (i := 2) scLtable.nd rfl (Or.inr rfl) (pe_listRg rfl (by rfl) T.z_list (prg_1 (by rfl) T.z_range (pv 1))))
      (pss_cons (ps_set (i := 3) scLtable.nd rfl (Or.inr rfl) (pe_lc (own := [("k", 4)]) (g := gName 4) (tt := tYes) rfl scLtable.nd (pi_range1 (by rfl) T.z_range (pa_cons (pv 1) pa_nil)) (blkOk_by (own := [("k", 4)]) (N := ["pool", "q", "rest", "elems", "k", "logs", "rows", "a", "b"]) (sc := defScope s_Ltable) (by decide +kernel)) (fun _ _ _ _ _ => (pg_name (i := 4) scLtable.nd rfl (Or.inl rfl))) (fun _ _ _ _ _ => pts_nil) (fun _ _ _ _ _ => (pe_bm PySem.F.plainAttrs_list PySem.F.slot_list_pop PySem.F.type_list_pop mt_popAt (pv 2) (pa_cons (pe_callS G__law_take (hr.mono (by decide)) (by rfl) T.m__law_take T.F__law_take.kp T.b__law_take (fun σ => passAt takes0 σ) (pa_cons (pv 0) (pa_cons (pe_callB (call_lenVK K rfl) (by rfl) T.z_len PySem.boot_len (pa_cons (pv 2) pa_nil)) pa_nil))) pa_nil)))))
      (pss_cons (ps_set (i := 5) scLtable.nd rfl (Or.inr rfl) pe_dnewK)
      (pss_cons (ps_for (passes_of rfl) rfl (pi_range1 (by rfl) T.z_range (pa_cons (pv 1) pa_nil)) (pg_name (i := 4) scLtable.nd rfl (Or.inl rfl)) (pss_one (ps_dput (hu_of hr) (pv 5) (pe_ix (ix_VK K rfl) (pv 3) (pv 4) (fun _ _ => rfl)) (pv 4) rfl)))
      (pss_cons (ps_set (i := 6) scLtable.nd rfl (Or.inl rfl) (pe_lst pa_nil))
      (pss_cons (ps_for (passes_of rfl) rfl (pi_range1 (by rfl) T.z_range (pa_cons (pv 1) pa_nil)) (pg_name (i := 7) scLtable.nd rfl (Or.inr rfl)) (pss_one (ps_expr (pe_bm PySem.F.plainAttrs_list PySem.F.slot_list_append PySem.F.type_list_append mt_append (pv 6) (pa_cons (pe_callTy (call_tupleV K rfl) (by rfl) T.z_tuple (by decide +kernel) (pa_cons (pe_lc (own := [("b", 8)]) (g := gName 8) (tt := tYes) rfl scLtable.nd (pi_range1 (by rfl) T.z_range (pa_cons (pv 1) pa_nil)) (blkOk_by (own := [("b", 8)]) (N := ["pool", "q", "rest", "elems", "k", "logs", "rows", "a", "b"]) (sc := defScope s_Ltable) (by decide +kernel)) (fun _ _ _ _ _ => (pg_name (i := 8) scLtable.nd rfl (Or.inl rfl))) (fun _ _ _ _ _ => pts_nil) (fun _ _ _ _ _ => (pe_ix (ix_VK K rfl) (pv 3) (pe_op op_modN (pe_callTy call_intV (by rfl) T.z_int (by decide +kernel) (pa_cons (pe_op (op_addV K rfl) (pe_dget (hu_of hr) (pv 5) (pv 7) (fun _ _ => rfl)) (pe_dget (hu_of hr) (pv 5) (pv 8) (fun _ _ => rfl))) pa_nil)) (pv 1)) (fun _ _ => rfl)))) pa_nil)) pa_nil)))))
      (pss_one (ps_ret (pe_tup (pa_cons (pv 3) (pa_cons (pe_makeS T.mk_TableGroup G_TableGroup___init__ (hr.mono (by decide)) rfl T.m_TableGroup T.b_TableGroup___init__ (fun σ => passAt (takes_of rfl rfl rfl rfl) σ) (pa_cons (pe_callTy (call_tupleV K rfl) (by rfl) T.z_tuple (by decide +kernel) (pa_cons (pv 6) pa_nil)) pa_nil)) pa_nil))))))))))),
    _, run_one (run_assoc (run_setow (i := 2) (nw_listRg (rg_1 (Pur.vw (pu_var rfl)))) rfl (wk_uns rfl) fun l4 => (run_assoc (run_setE (i := 3) (ρs := (fun (s71 : List PV × List (Key × PV)) => [(.rf 0 (.dct s71.2)), (.fz a_q), (.ow (.lst s71.1)), .un, .un, .un, .un, .un, .un])) (s0 := (l4, a_pool)) (ef_lc (ρe := fun (a9 : PV) (s10 : List PV × List (Key × PV)) => [(.rf 0 (.dct s10.2)), (.fz a_q), (.ow (.lst s10.1)), .un, (.fz a9), .un, .un, .un, .un]) (ei_pure (W := (fun c d _ H' => E c d H')) fun s6 => (it_rng1 (Pur.vw (pu_var rfl)))) (fun _ => rfl) (by decide) (fun _ => (tg_name (i := 4) rfl (Or.inr (by decide)))) (fun _ _ => rfl) (fun _ _ => rfl) (fun a9 => et_yes) (fun a9 => (ef_pop (i := 2) (sl := (fun (s12 : List PV × List (Key × PV)) => (.ow (.lst s12.1)))) (get := (fun (s12 : List PV × List (Key × PV)) => s12.1)) (put := (fun (s12 : List PV × List (Key × PV)) (l : List PV) => (l, s12.2))) (fun _ => rfl) (fun _ => Or.inl rfl) (fun _ _ => rfl) (ef_callR (i := 0) (sl := (fun (s13 : List PV × List (Key × PV)) => (.rf 0 (.dct s13.2)))) (get := (fun (s13 : List PV × List (Key × PV)) => MO.dct s13.2)) (put := (fun (s13 : List PV × List (Key × PV)) (mo : MO) => moD mo >>= fun l => Res.val (s13.1, l))) (fun _ => rfl) (fun _ => Or.inr ⟨_, rfl⟩) (fun s mo s' h => by cases mo <;> first | (cases h; rfl) | cases h) (el_cons (ef_pure (W := (fun _ _ _ _ => False)) fun s14 => (pu_cb1 b1_len (vw_own rfl))) el_nil))))) rfl (fun _ => rfl) fun x28 s29 => (run_assoc (run_setowd (i := 5) nd_new rfl (wk_uns rfl) fun d31 => (run_assoc (run_seq (ρj := fun (s42 : List (Key × PV)) => [(.rf 0 (.dct s29.2)), (.fz a_q), (.ow (.lst s29.1)), (.fz x28), .un, (.ow (.dct s42)), .un, .un, .un]) (run_for (ρs := fun (s32 : List (Key × PV)) => [(.rf 0 (.dct s29.2)), (.fz a_q), (.ow (.lst s29.1)), (.fz x28), .un, (.ow (.dct s32)), .un, .un, .un]) (s0 := d31) (ρe := fun (s32 : List (Key × PV)) (a33 : PV) => [(.rf 0 (.dct s29.2)), (.fz a_q), (.ow (.lst s29.1)), (.fz x28), (.fz a33), (.ow (.dct s32)), .un, .un, .un]) (it_rng1 (Pur.vw (pu_var rfl))) (.keep (.keep (.keep (.keep (.keep (.keep (.keep (.keep (.keep .nil))))))))) (wk_uns rfl) (fun s32 => (tg_name (i := 4) rfl (Or.inl rfl))) (fun a33 s32 => run_one (run_dput (i := 5) rfl (Or.inl rfl) (pu_var rfl) (Pur.vw (pu_op o2_ix (Pur.vw (pu_var rfl)) (Pur.vw (pu_var rfl)))) (wk_uns rfl) fun qs38 => (run_next (s := qs38) (.keep (.keep (.keep (.keep (.drop (.keep (.keep (.keep (.keep .nil))))))))))))) fun s42 => (run_assoc (run_setow (i := 6) (nw_lst pl_nil) rfl (wk_uns rfl) fun l43 => (run_assoc (run_seq (ρj := fun (s62 : List PV) => [(.rf 0 (.dct s29.2)), (.fz a_q), (.ow (.lst s29.1)), (.fz x28), .un, (.ow (.dct s42)), (.ow (.lst s62)), .un, .un]) (run_for (ρs := fun (s44 : List PV) => [(.rf 0 (.dct s29.2)), (.fz a_q), (.ow (.lst s29.1)), (.fz x28), .un, (.ow (.dct s42)), (.ow (.lst s44)), .un, .un]) (s0 := l43) (ρe := fun (s44 : List PV) (a45 : PV) => [(.rf 0 (.dct s29.2)), (.fz a_q), (.ow (.lst s29.1)), (.fz x28), .un, (.ow (.dct s42)), (.ow (.lst s44)), (.fz a45), .un]) (it_rng1 (Pur.vw (pu_var rfl))) (.keep (.keep (.keep (.keep (.keep (.keep (.keep (.keep (.keep .nil))))))))) (wk_uns rfl) (fun s44 => (tg_name (i := 7) rfl (Or.inl rfl))) (fun a45 s44 => run_one (run_append (i := 6) rfl (Or.inl rfl) (pu_cb1 b1_tuple (Pur.vw (New.pur (nw_lc (ρe := fun (a46 : PV) => [(.rf 0 (.dct s29.2)), (.fz a_q), (.ow (.lst s29.1)), (.fz x28), .un, (.ow (.dct s42)), (.ow (.lst s44)), (.fz a45), (.fz a46)]) (Iter.view (it_rng1 (Pur.vw (pu_var rfl)))) rfl (by decide) (tg_name (i := 8) rfl (Or.inr (by decide))) (fun a46 => ts_yes) (fun a46 => (pu_op o2_ix (Pur.vw (pu_var rfl)) (Pur.vw (pu_op o2_mod (Pur.vw (pu_cb1 b1_int (Pur.vw (pu_op o2_add (Pur.vw (pu_dget (vw_ownd rfl) (Pur.vw (pu_var rfl)))) (Pur.vw (pu_dget (vw_ownd rfl) (Pur.vw (pu_var rfl)))))))) (Pur.vw (pu_var rfl)))))))))) (wk_uns rfl) fun x59 => (run_next (s := (s44 ++ [x59])) (.keep (.keep (.keep (.keep (.keep (.keep (.keep (.drop (.keep .nil))))))))))))) fun s62 => (run_ret (pu_tup (pl_cons (pu_var rfl) (pl_cons (pu_make T.ce_TableGroup (pl_cons (pu_cb1 b1_tuple (vw_own rfl)) pl_nil)) pl_nil))) rfl rfl (wk_uns rfl)))))))))))))), rfl⟩
def m__has_subgroup (a_modulus a_order : PV) : Res PV := retF (((((Res.val a_modulus) >>= fun x6 => (Res.val (PV.int 1000)) >>= fun x7 => gtP x6 x7) >>= asB) >>= fun b8 => if b8 = true then Res.val true else ((((Res.val (PV.int 3)) >>= fun x1 => (Res.val a_order) >>= fun x2 => leP x1 x2 >>= asB >>= fun b4 => if b4 = true then (Res.val (PV.int 127)) >>= fun x3 => leP x2 x3 else Res.val (PV.bl false)) >>= asB) >>= fun b5 => Res.val (!b5))) >>= fun b9 => if b9 = true then ((Res.val (PV.bl false)) >>= fun v10 => Res.val (.rt v10 [])) else ((((Res.val a_modulus) >>= m_is_prime) >>= asB >>= fun b20 => if b20 = true then (((Res.val a_order) >>= m_is_prime) >>= asB >>= fun b18 => if b18 = true then ((((Res.val a_modulus) >>= fun x11 => (Res.val (PV.int 1)) >>= fun x12 => subP x11 x12) >>= fun x13 => (Res.val a_order) >>= fun x14 => modP x13 x14) >>= fun x15 => (Res.val (PV.int 0)) >>= fun x16 => eqP x15 x16) else Res.val (PV.bl false)) else Res.val (PV.bl false)) >>= fun v21 => Res.val (.rt v21 [])))
theorem ok__has_subgroup (T : Top P K mg) : FnOk P w K mg base (L2.CX P w) 2 T.f__has_subgroup T.d__has_subgroup ["modulus", "order"] (spP K (clT T) (ap2 m__has_subgroup)) := by
  have G_is_prime := ok_is_prime (P := P) (w := w) (base := base) T
  refine fnP T.F__has_subgroup sc_has_subgroup rfl takn2 fun cdv A outer s H E hr qs hq => ?_
  match qs, hq with
  | [a_modulus, a_order], _ => exact ⟨_, (pss_cons (ps_if (PW.pt (pw_or (pt_cmpR op_gt (pv 0) (pe_gint rfl T.n_LARGEST_MODULUS) (nomark _)) (pw_or1 (pt_not (pt_chain op_le op_le (pe_gint rfl T.n_SMALLEST_ORDER) (pv 1) (pe_gint rfl T.n_LARGEST_POWER_ORDER)))))) (pss_one (ps_ret pe_bl)) pss_nil)
      (pss_one (ps_ret (pe_and (pe_callS G_is_prime (hr.mono (by decide)) (by rfl) T.m_is_prime T.F_is_prime.kp T.b_is_prime (fun σ => passAt (takes_of rfl rfl rfl rfl) σ) (pa_cons (pv 0) pa_nil)) (pe_and (pe_callS G_is_prime (hr.mono (by decide)) (by rfl) T.m_is_prime T.F_is_prime.kp T.b_is_prime (fun σ => passAt (takes_of rfl rfl rfl rfl) σ) (pa_cons (pv 1) pa_nil)) (pe_one (pe_cmpR (op_eqV K rfl hr.units) (pe_op op_modN (pe_op op_sub (pv 0) pe_int) (pv 1)) pe_int (nomark _)))))))),
    _, run_one (run_assoc (run_if (ts_or (ts_cmp (Pur.vw (pu_op o2_gt (Pur.vw (pu_var rfl)) (Pur.vw pu_int)))) (ts_not (ts_cmp (Pur.vw (pu_chain o2_le o2_le (Pur.vw pu_int) (Pur.vw (pu_var rfl)) (Pur.vw pu_int)))))) (wk_uns rfl) (run_ret pu_bl rfl rfl (wk_uns rfl)) (run_skip (run_ret (pu_andV (Pur.vw (pu_call1 (pu_var rfl))) (pu_andV (Pur.vw (pu_call1 (pu_var rfl))) (pu_op o2_eq (Pur.vw (pu_op o2_mod (Pur.vw (pu_op o2_sub (Pur.vw (pu_var rfl)) (Pur.vw pu_int))) (Pur.vw (pu_var rfl)))) (Pur.vw pu_int)))) rfl rfl (wk_uns rfl))))), rfl⟩
def m__power_modulo (a_number a_exponent a_modulus : PV) : Res PV := retF ((Res.val (PV.int 1)) >>= fun x1 => ((Res.val a_number) >>= fun x2 => (seqF (S1 := PV × PV × PV) (whileF (fun (s3 : PV × PV × PV) => (((Res.val s3.2.2) >>= fun x4 => (Res.val (PV.int 0)) >>= fun x5 => gtP x4 x5) >>= asB)) (fun (s3 : PV × PV × PV) => (seqF (S1 := PV) (((((Res.val s3.2.2) >>= fun x6 => (Res.val (PV.int 2)) >>= fun x7 => modP x6 x7) >>= fun x8 => (Res.val (PV.int 1)) >>= fun x9 => eqP x8 x9) >>= asB) >>= fun b10 => if b10 = true then ((((Res.val s3.1) >>= fun x12 => (Res.val s3.2.1) >>= fun x13 => mulP x12 x13) >>= fun x14 => (Res.val a_modulus) >>= fun x15 => modP x14 x15) >>= fun x16 => (Res.val (.nx x16))) else (Res.val (.nx s3.1))) fun s11 => ((((Res.val s3.2.1) >>= fun x17 => (Res.val s3.2.1) >>= fun x18 => mulP x17 x18) >>= fun x19 => (Res.val a_modulus) >>= fun x20 => modP x19 x20) >>= fun x21 => (((Res.val s3.2.2) >>= fun x22 => (Res.val (PV.int 2)) >>= fun x23 => fdivP x22 x23) >>= fun x24 => (Res.val (.nx (s11, x21, x24))))))) FUEL (x1, x2, a_exponent)) fun s25 => ((Res.val s25.1) >>= fun v26 => Res.val (.rt v26 [])))))
theorem ok__power_modulo (T : Top P K mg) : FnOk P w K mg base (L2.CX P w) 1 T.f__power_modulo T.d__power_modulo ["number", "exponent", "modulus"] (spP K (clT T) (ap3 m__power_modulo)) := by
  refine fnP T.F__power_modulo sc_power_modulo rfl takn3 fun cdv A outer s H E hr qs hq => ?_
  match qs, hq with
  | [a_number, a_exponent, a_modulus], _ => exact ⟨_, (pss_cons (ps_set (i := 3) sc_power_modulo.nd rfl (Or.inl rfl) pe_int)
      (pss_cons (ps_set (i := 4) sc_power_modulo.nd rfl (Or.inl rfl) (pv 0))
      (pss_cons (ps_while (passes_of rfl) (pt_cmpR op_gt (pv 1) pe_int (nomark _)) (pss_cons (ps_if (pt_cmpR (op_eqV K rfl hr.units) (pe_op op_modN (pv 1) pe_int) pe_int (nomark _)) (pss_one (ps_set (i := 3) sc_power_modulo.nd rfl (Or.inl rfl) (pe_op op_modN (pe_op op_mulV (pv 3) (pv 4)) (pv 2)))) pss_nil)
      (pss_cons (ps_set (i := 4) sc_power_modulo.nd rfl (Or.inl rfl) (pe_op op_modN (pe_op op_mulV (pv 4) (pv 4)) (pv 2)))
      (pss_one (ps_set (i := 1) sc_power_modulo.nd rfl (Or.inl rfl) (pe_op op_fdivV (pv 1) pe_int))))))
      (pss_one (ps_ret (pv 3)))))),
    _, run_one (run_assoc (run_set (i := 3) pu_int rfl (wk_uns rfl) fun x1 => (run_assoc (run_set (i := 4) (pu_var rfl) rfl (wk_uns rfl) fun x2 => (run_assoc (run_seq (ρj := fun (s25 : PV × PV × PV) => [(.fz a_number), (.fz s25.2.2), (.fz a_modulus), (.fz s25.1), (.fz s25.2.1)]) (run_while (ρs := fun (s3 : PV × PV × PV) => [(.fz a_number), (.fz s3.2.2), (.fz a_modulus), (.fz s3.1), (.fz s3.2.1)]) (s0 := (x1, x2, a_exponent)) (.keep (.keep (.keep (.keep (.keep .nil))))) (fun s3 => (wk_uns rfl)) (fun s3 => (ts_cmp (Pur.vw (pu_op o2_gt (Pur.vw (pu_var rfl)) (Pur.vw pu_int))))) (fun s3 => run_one (run_assoc (run_seq (ρj := fun (s11 : PV) => [(.fz a_number), (.fz s3.2.2), (.fz a_modulus), (.fz s11), (.fz s3.2.1)]) (run_one (run_if (ts_cmp (Pur.vw (pu_op o2_eq (Pur.vw (pu_op o2_mod (Pur.vw (pu_var rfl)) (Pur.vw pu_int))) (Pur.vw pu_int)))) (wk_uns rfl) (run_set (i := 3) (pu_op o2_mod (Pur.vw (pu_op o2_mul (Pur.vw (pu_var rfl)) (Pur.vw (pu_var rfl)))) (Pur.vw (pu_var rfl))) rfl (wk_uns rfl) fun x16 => (run_next (s := x16) (.keep (.keep (.keep (.keep (.keep .nil))))))) (run_skip (run_next (s := s3.1) (.keep (.keep (.keep (.keep (.keep .nil))))))))) fun s11 => (run_assoc (run_set (i := 4) (pu_op o2_mod (Pur.vw (pu_op o2_mul (Pur.vw (pu_var rfl)) (Pur.vw (pu_var rfl)))) (Pur.vw (pu_var rfl))) rfl (wk_uns rfl) fun x21 => (run_set (i := 1) (pu_op o2_fdiv (Pur.vw (pu_var rfl)) (Pur.vw pu_int)) rfl (wk_uns rfl) fun x24 => (run_next (s := (s11, x21, x24)) (.keep (.keep (.keep (.keep (.keep .nil))))))))))))) fun s25 => (run_ret (pu_var rfl) rfl rfl (wk_uns rfl)))))))), rfl⟩
def m_PowerGroup___init__ (mo : MO) (a_modulus : PV) (a_order : PV) : Res (PV × MO) := match mo with
  | .ob a_C a_self => retR (((((Res.val a_modulus) >>= fun x1 => (Res.val a_order) >>= fun x2 => m__has_subgroup x1 x2) >>= asB) >>= fun b3 => Res.val (!b3)) >>= fun b4 => if b4 = true then (Res.exc "BadGroup") else ((Res.val a_modulus) >>= fun x5 => setF cs_modulus a_C a_self "modulus" x5 >>= fun gs6 => (((((Res.val (PV.int 1)) >>= fun x7 => (Res.val a_modulus) >>= fun x8 => rng2 x7 x8) >>= fun ps15 => sized ps15.length >>= fun _ => lcF (fun x => Res.val x) (fun (a9 : PV) => ((((Res.val a9) >>= fun x10 => (Res.val a_order) >>= fun x11 => (Res.val a_modulus) >>= fun x12 => m__power_modulo x10 x11 x12) >>= fun x13 => (Res.val (PV.int 1)) >>= fun x14 => eqP x13 x14) >>= asB)) (fun (a9 : PV) => (Res.val a9)) ps15) >>= fun ps16 => Res.val (PV.lst ps16)) >>= fun x17 => (supP (L := Empty) "PowerGroup" (.ob a_C gs6) ((Res.val a_order) >>= fun x22 => ((Res.val (PV.int 1)) >>= fun x20 => (((Res.val x17) >>= tupleP) >>= fun x18 => (Res.val []) >>= fun xs19 => Res.val (x18 :: xs19)) >>= fun xs21 => Res.val (x20 :: xs21)) >>= fun xs23 => Res.val (x22 :: xs23)) (apR3 m_Group___init__)))))
  | _ => .stuck
theorem ok_PowerGroup___init__ (T : Top P K mg) : FnOk P w K mg base (L2.CX P w) 5 T.f_PowerGroup___init__ T.d_PowerGroup___init__ ["self", "modulus", "order"] (spI K (clT T) (apR2 m_PowerGroup___init__)) := by
  have G_Group___init__ := ok_Group___init__ (P := P) (w := w) (base := base) T
  have G__has_subgroup := ok__has_subgroup (P := P) (w := w) (base := base) T
  have G__power_modulo := ok__power_modulo (P := P) (w := w) (base := base) T
  refine fnIS T.F_PowerGroup___init__ scPowerGroup___init__ rfl taknR2 fun A outer s H E hr mo qs hq => ?_
  match mo, qs, hq with
  | .lst _, [_, _], _ => exact .inl rfl
  | .dct _, [_, _], _ => exact .inl rfl
  | .ob a_C a_self, [a_modulus, a_order], _ => exact .inr ⟨_, (pat_cons (ps_if (pt_not (pt_val (pe_callS G__has_subgroup (hr.mono (by decide)) (by rfl) T.m__has_subgroup T.F__has_subgroup.kp T.b__has_subgroup (fun σ => passAt (takes_of rfl rfl rfl rfl) σ) (pa_cons (pv 1) (pa_cons (pv 2) pa_nil))))) (pss_one (ps_raise rfl (takes_of rfl rfl rfl rfl) (pmk_own0 PySem.F.excBase_ValueError T.x_BadGroup T.m_BadGroup T.kc_BadGroup (raises_own T.s_BadGroup T.t_BadGroup) rfl))) pss_nil)
      (pat_cons (ps_fld (pv 0) (pv 1) rfl)
      (pat_cons (ps_setLc (i := 3) (own := [("x", 4)]) (g := gName 4)  rfl scPowerGroup___init__.nd rfl rfl (sw_true rfl rfl rfl (by decide +kernel)) (pi_range2 (by rfl) T.z_range (pa_cons pe_int (pa_cons (pv 1) pa_nil))) (blkOk_by (own := [("x", 4)]) (N := ["self", "modulus", "order", "members", "x"]) (sc := defScope s_PowerGroup___init__) (by decide +kernel)) (fun _ _ _ _ _ => (pg_name (i := 4) scPowerGroup___init__.nd rfl (Or.inl rfl))) (fun _ _ _ _ _ => (pts_one (pt_cmpR (op_eqV K rfl hr.units) (pe_callS G__power_modulo (hr.mono (by decide)) (by rfl) T.m__power_modulo T.F__power_modulo.kp T.b__power_modulo (fun σ => passAt takes0 σ) (pa_cons (pv 4) (pa_cons (pv 2) (pa_cons (pv 1) pa_nil)))) pe_int (nomark _)))) (fun _ _ _ _ _ => (pv 4)))
      (pat_super T.su_PowerGroup___init__ G_Group___init__ (hr.mono (by decide)) T.b_Group___init__ (passes_call (takes_of rfl rfl rfl rfl) (fun _ _ _ _ h => h)) T.sg_PowerGroup___init__ (pa_cons (pv 2) (pa_cons pe_int (pa_cons (pe_callTy (call_tupleV K rfl) (by rfl) T.z_tuple (by decide +kernel) (pa_cons (pv 3) pa_nil)) pa_nil))) rfl rfl rfl rfl rfl rfl rfl T.z_super T.hfile T.htop (by decide) rfl rfl rfl rfl)))),
    _, id (run_assoc (run_if (ts_not (ts_val (Pur.vw (pu_call2 (pu_var rfl) (pu_var rfl))))) (wk_uns rfl) (run_raise T.ce_BadGroup (wk_uns rfl)) (run_skip (run_assoc (run_setfld (i := 0) T.fl_modulus rfl (.inr ⟨_, rfl⟩) (pu_var rfl) (wk_uns rfl) fun gs6 => (run_assoc (run_set (i := 3) (New.pur (nw_lc (ρe := fun (a9 : PV) => [(.rf 0 (.ob a_C gs6)), (.fz a_modulus), (.fz a_order), .un, (.fz a9)]) (Iter.view (it_rng2 (Pur.vw pu_int) (Pur.vw (pu_var rfl)))) rfl (by decide) (tg_name (i := 4) rfl (Or.inr (by decide))) (fun a9 => (ts_cmp (Pur.vw (pu_op o2_eq (Pur.vw (pu_call3 (pu_var rfl) (pu_var rfl) (pu_var rfl))) (Pur.vw pu_int))))) (fun a9 => (pu_var rfl)))) rfl (wk_uns rfl) fun x17 => (run_super T.ce_PowerGroup (pl_cons (pu_var rfl) (pl_cons pu_int (pl_cons (pu_cb1 b1_tuple (Pur.vw (pu_var rfl))) pl_nil))) (wk_uns rfl) (fun mo' => (.keep (.drop (.drop (.drop (.keep .nil)))))))))))))), rfl⟩
def m__law_group (mo : MO) (a_q : PV) : Res (PV × MO) := match mo with
  | .dct a_pool => retR (noX ((fun (s1 : List (Key × PV)) => (fun (s5 : List (Key × PV)) => (fun (s2 : List (Key × PV)) => noX (Res.val a_q) >>= fun v3 => Res.val (v3, s2)) s5 >>= fun x6 => (fun (s4 : List (Key × PV)) => Res.val (([] : List PV), s4)) x6.2 >>= fun xs7 => Res.val (x6.1 :: xs7.1, xs7.2)) s1 >>= fun x8 => (apR1 m__law_modulus) (MO.dct x8.2) x8.1 >>= fun r9 => ((fun (s1 : List (Key × PV)) (mo : MO) => moD mo >>= fun l => Res.val l) x8.2 r9.2) >>= fun s10 => Res.val (r9.1, s10)) a_pool) >>= fun r13 => (fun (x11 : PV) (s12 : List (Key × PV)) => (noX ((fun (s51 : List (Key × PV)) => (fun (s46 : List (Key × PV)) => noX (((Res.val a_q) >>= fun x49 => (Res.val (PV.int 14)) >>= fun x50 => ltP x49 x50) >>= asB) >>= fun b48 => Res.val (b48, s46)) s51 >>= fun b52 => if b52.1 = true then (fun (s44 : List (Key × PV)) => (fun (s39 : List (Key × PV)) => noX (((Res.val x11) >>= fun x42 => (Res.val (PV.int 0)) >>= fun x43 => eqP x42 x43) >>= asB) >>= fun b41 => Res.val (b41, s39)) s44 >>= fun b45 => if b45.1 = true then Res.val (true, b45.2) else (fun (s20 : List (Key × PV)) => (fun (s23 : List (Key × PV)) => (fun (s24 : List (Key × PV)) => (fun (s28 : List (Key × PV)) => (fun (s25 : List (Key × PV)) => noX (Res.val (PV.int 2)) >>= fun v26 => Res.val (v26, s25)) s28 >>= fun x29 => (fun (s27 : List (Key × PV)) => Res.val (([] : List PV), s27)) x29.2 >>= fun xs30 => Res.val (x29.1 :: xs30.1, xs30.2)) s24 >>= fun x31 => (apR1 m__law_take) (MO.dct x31.2) x31.1 >>= fun r32 => ((fun (s24 : List (Key × PV)) (mo : MO) => moD mo >>= fun l => Res.val l) x31.2 r32.2) >>= fun s33 => Res.val (r32.1, s33)) s23 >>= fun x36 => (fun (s34 : List (Key × PV)) => noX (Res.val (PV.int 0)) >>= fun v35 => Res.val (v35, s34)) x36.2 >>= fun x37 => noX (eqP x36.1 x37.1) >>= fun z38 => Res.val (z38, x37.2)) s20 >>= fun x21 => asB x21.1 >>= fun b22 => Res.val (b22, x21.2)) b45.2) b52.2 else Res.val (false, b52.2)) s12) >>= fun b53 => if b53.1 = true then (fun (s54 : List (Key × PV)) => (noX ((fun (s56 : List (Key × PV)) => (fun (s60 : List (Key × PV)) => (fun (s57 : List (Key × PV)) => noX (Res.val a_q) >>= fun v58 => Res.val (v58, s57)) s60 >>= fun x61 => (fun (s59 : List (Key × PV)) => Res.val (([] : List PV), s59)) x61.2 >>= fun xs62 => Res.val (x61.1 :: xs62.1, xs62.2)) s56 >>= fun x63 => (apR1 m__law_table) (MO.dct x63.2) x63.1 >>= fun r64 => ((fun (s56 : List (Key × PV)) (mo : MO) => moD mo >>= fun l => Res.val l) x63.2 r64.2) >>= fun s65 => Res.val (r64.1, s65)) s54) >>= fun r66 => Res.val (.rt r66.1 ((fun (s67 : List (Key × PV)) => [.dct s67]) r66.2)))) b53.2 else (fun (s54 : List (Key × PV)) => ((((Res.val x11) >>= fun x69 => (Res.val (PV.int 0)) >>= fun x70 => eqP x69 x70) >>= asB) >>= fun b71 => if b71 = true then (((((Res.val []) >>= mkL) >>= fun x74 => ((Res.val PV.non) >>= fun x72 => (Res.val []) >>= fun xs73 => Res.val (x72 :: xs73)) >>= fun xs75 => Res.val (x74 :: xs75)) >>= mkT) >>= fun v76 => Res.val (.rt v76 [.dct s54])) else (noX ((fun (s77 : List (Key × PV)) => (fun (s78 : List (Key × PV)) => noX (Res.val (PV.int 2)) >>= fun v79 => Res.val (v79, s78)) s77 >>= fun x92 => (fun (s80 : List (Key × PV)) => (fun (s86 : List (Key × PV)) => (fun (s81 : List (Key × PV)) => noX ((Res.val x11) >>= fun x82 => (Res.val (PV.int 2)) >>= fun x83 => subP x82 x83) >>= fun v84 => Res.val (v84, s81)) s86 >>= fun x87 => (fun (s85 : List (Key × PV)) => Res.val (([] : List PV), s85)) x87.2 >>= fun xs88 => Res.val (x87.1 :: xs88.1, xs88.2)) s80 >>= fun x89 => (apR1 m__law_take) (MO.dct x89.2) x89.1 >>= fun r90 => ((fun (s80 : List (Key × PV)) (mo : MO) => moD mo >>= fun l => Res.val l) x89.2 r90.2) >>= fun s91 => Res.val (r90.1, s91)) x92.2 >>= fun x93 => noX (addP x92.1 x93.1) >>= fun z94 => Res.val (z94, x93.2)) s54) >>= fun r97 => (fun (x95 : PV) (s96 : List (Key × PV)) => (seqF (S1 := PV) (((Res.val x11) >>= rng1) >>= fun ps119 => forF (fun (x120 : PV) (s98 : PV) => (fun x => Res.val x) x120 >>= fun (a99 : PV) => (((((Res.val s98) >>= fun x104 => (((Res.val x11) >>= fun x100 => (Res.val (PV.int 1)) >>= fun x101 => subP x100 x101) >>= fun x102 => (Res.val a_q) >>= fun x103 => fdivP x102 x103) >>= fun x105 => (Res.val x11) >>= fun x106 => m__law_power x104 x105 x106) >>= fun x107 => (Res.val (PV.int 1)) >>= fun x108 => neP x107 x108) >>= asB) >>= fun b109 => if b109 = true then (Res.val (.bk s98)) else (((Res.val (PV.int 2)) >>= fun x116 => ((((Res.val s98) >>= fun x110 => (Res.val (PV.int 1)) >>= fun x111 => subP x110 x111) >>= intP) >>= fun x114 => ((Res.val x11) >>= fun x112 => (Res.val (PV.int 2)) >>= fun x113 => subP x112 x113) >>= fun x115 => modP x114 x115) >>= fun x117 => addP x116 x117) >>= fun x118 => (Res.val (.nx x118))))) ps119 x95) fun s121 => (((Res.val s121) >>= fun x126 => (((Res.val x11) >>= fun x122 => (Res.val (PV.int 1)) >>= fun x123 => subP x122 x123) >>= fun x124 => (Res.val a_q) >>= fun x125 => fdivP x124 x125) >>= fun x127 => (Res.val x11) >>= fun x128 => m__law_power x126 x127 x128) >>= fun x129 => ((((Res.val (PV.int 1)) >>= fun x130 => (Res.val []) >>= fun xs131 => Res.val (x130 :: xs131)) >>= mkN) >>= fun l132 => (seqF (S1 := List PV) ((((Res.val a_q) >>= fun x133 => (Res.val (PV.int 1)) >>= fun x134 => subP x133 x134) >>= rng1) >>= fun ps144 => forF (fun (x145 : PV) (s135 : List PV) => (fun x => Res.val x) x145 >>= fun (a136 : PV) => ((((((Res.val (PV.lst s135)) >>= fun x137 => ((Res.val (PV.int 1)) >>= negP) >>= fun x138 => ixP x137 x138) >>= fun x139 => (Res.val x129) >>= fun x140 => mulP x139 x140) >>= intP) >>= fun x141 => (Res.val x11) >>= fun x142 => modP x141 x142) >>= fun x143 => sized (s135.length + 1) >>= fun _ => (Res.val (.nx (s135 ++ [x143]))))) ps144 l132) fun s146 => ((((Res.val (PV.lst s146)) >>= fun x154 => ((((Res.val x11) >>= fun x149 => ((Res.val a_q) >>= fun x147 => (Res.val []) >>= fun xs148 => Res.val (x147 :: xs148)) >>= fun xs150 => Res.val (x149 :: xs150)) >>= fun ps151 => (apR2 m_PowerGroup___init__) (.ob "PowerGroup" []) ps151 >>= frO) >>= fun x152 => (Res.val []) >>= fun xs153 => Res.val (x152 :: xs153)) >>= fun xs155 => Res.val (x154 :: xs155)) >>= mkT) >>= fun v156 => Res.val (.rt v156 [.dct s96]))))))) r97.1 r97.2))) b53.2)) r13.1 r13.2)
  | _ => .stuck
theorem ok__law_group (T : Top P K mg) : FnOk P w K mg base (L2.CX P w) 8 T.f__law_group T.d__law_group ["pool", "q"] (spR K (clT T) (apR1 m__law_group)) := by
  have G__law_modulus := ok__law_modulus (P := P) (w := w) (base := base) T
  have G__law_power := ok__law_power (P := P) (w := w) (base := base) T
  have G__law_table := ok__law_table (P := P) (w := w) (base := base) T
  have G__law_take := ok__law_take (P := P) (w := w) (base := base) T
  have G_PowerGroup___init__ := ok_PowerGroup___init__ (P := P) (w := w) (base := base) T
  refine fnR T.F__law_group scLgroup rfl taknR1 fun cdv A outer s H E hr mo qs hq => ?_
  match mo, qs, hq with
  | .lst _, [_], _ => exact .inl rfl
  | .ob _ _, [_], _ => exact .inl rfl
  | .dct a_pool, [a_q], _ => exact .inr ⟨_, (pss_cons (ps_set (i := 2) scLgroup.nd rfl (Or.inl rfl) (pe_callS G__law_modulus (hr.mono (by decide)) (by rfl) T.m__law_modulus T.F__law_modulus.kp T.b__law_modulus (fun σ => passAt (takes_of rfl rfl rfl rfl) σ) (pa_cons (pv 0) (pa_cons (pv 1) pa_nil))))
      (pss_cons (ps_if (PW.pt (pw_and (pt_cmpR op_lt (pv 1) pe_int (nomark _)) (pw_and1 (PW.pt (pw_or (pt_cmpR (op_eqV K rfl hr.units) (pv 2) pe_int (nomark _)) (pw_or1 (pt_cmpR (op_eqV K rfl hr.units) (pe_callS G__law_take (hr.mono (by decide)) (by rfl) T.m__law_take T.F__law_take.kp T.b__law_take (fun σ => passAt (takes_of rfl rfl rfl rfl) σ) (pa_cons (pv 0) (pa_cons pe_int pa_nil))) pe_int (nomark _)))))))) (pss_one (ps_ret (pe_callS G__law_table (hr.mono (by decide)) (by rfl) T.m__law_table T.F__law_table.kp T.b__law_table (fun σ => passAt (takes_of rfl rfl rfl rfl) σ) (pa_cons (pv 0) (pa_cons (pv 1) pa_nil))))) pss_nil)
      (pss_cons (ps_if (pt_cmpR (op_eqV K rfl hr.units) (pv 2) pe_int (nomark _)) (pss_one (ps_ret (pe_tup (pa_cons (pe_lst pa_nil) (pa_cons pe_non pa_nil))))) pss_nil)
      (pss_cons (ps_set (i := 3) scLgroup.nd rfl (Or.inl rfl) (pe_op (op_addV K rfl) pe_int (pe_callS G__law_take (hr.mono (by decide)) (by rfl) T.m__law_take T.F__law_take.kp T.b__law_take (fun σ => passAt (takes_of rfl rfl rfl rfl) σ) (pa_cons (pv 0) (pa_cons (pe_op op_sub (pv 2) pe_int) pa_nil)))))
      (pss_cons (ps_for (passes_of rfl) rfl (pi_range1 (by rfl) T.z_range (pa_cons (pv 2) pa_nil)) (pg_name (i := 4) scLgroup.nd rfl (Or.inl rfl)) (pss_cons (ps_if (pt_cmpR (op_neV K rfl hr.units) (pe_callS G__law_power (hr.mono (by decide)) (by rfl) T.m__law_power T.F__law_power.kp T.b__law_power (fun σ => passAt (takes_of rfl rfl rfl rfl) σ) (pa_cons (pv 3) (pa_cons (pe_op op_fdivV (pe_op op_sub (pv 2) pe_int) (pv 1)) (pa_cons (pv 2) pa_nil)))) pe_int (nomark _)) (pss_one ps_break) pss_nil)
      (pss_one (ps_set (i := 3) scLgroup.nd rfl (Or.inl rfl) (pe_op (op_addV K rfl) pe_int (pe_op op_modN (pe_callTy call_intV (by rfl) T.z_int (by decide +kernel) (pa_cons (pe_op op_sub (pv 3) pe_int) pa_nil)) (pe_op op_sub (pv 2) pe_int)))))))
      (pss_cons (ps_set (i := 5) scLgroup.nd rfl (Or.inl rfl) (pe_callS G__law_power (hr.mono (by decide)) (by rfl) T.m__law_power T.F__law_power.kp T.b__law_power (fun σ => passAt (takes_of rfl rfl rfl rfl) σ) (pa_cons (pv 3) (pa_cons (pe_op op_fdivV (pe_op op_sub (pv 2) pe_int) (pv 1)) (pa_cons (pv 2) pa_nil)))))
      (pss_cons (ps_set (i := 6) scLgroup.nd rfl (Or.inl rfl) (pe_lst (pa_cons pe_int pa_nil)))
      (pss_cons (ps_for (passes_of rfl) rfl (pi_range1 (by rfl) T.z_range (pa_cons (pe_op op_sub (pv 1) pe_int) pa_nil)) (pg_name (i := 7) scLgroup.nd rfl (Or.inl rfl)) (pss_one (ps_expr (pe_bm PySem.F.plainAttrs_list PySem.F.slot_list_append PySem.F.type_list_append mt_append (pv 6) (pa_cons (pe_op op_modN (pe_callTy call_intV (by rfl) T.z_int (by decide +kernel) (pa_cons (pe_op op_mulV (pe_ix (ix_VK K rfl) (pv 6) (pe_un un_neg pe_int) (fun _ _ => rfl)) (pv 5)) pa_nil)) (pv 2)) pa_nil)))))
      (pss_one (ps_ret (pe_tup (pa_cons (pv 6) (pa_cons (pe_makeS T.mk_PowerGroup G_PowerGroup___init__ (hr.mono (by decide)) rfl T.m_PowerGroup T.b_PowerGroup___init__ (fun σ => passAt (takes_of rfl rfl rfl rfl) σ) (pa_cons (pv 2) (pa_cons (pv 1) pa_nil))) pa_nil))))))))))))),
    _, run_one (run_assoc (run_setE (i := 2) (ρs := (fun (s158 : List (Key × PV)) => [(.rf 0 (.dct s158)), (.fz a_q), .un, .un, .un, .un, .un, .un])) (s0 := a_pool) (ef_callR (i := 0) (sl := (fun (s1 : List (Key × PV)) => (.rf 0 (.dct s1)))) (get := (fun (s1 : List (Key × PV)) => MO.dct s1)) (put := (fun (s1 : List (Key × PV)) (mo : MO) => moD mo >>= fun l => Res.val l)) (fun _ => rfl) (fun _ => Or.inr ⟨_, rfl⟩) (fun s mo s' h => by cases mo <;> first | (cases h; rfl) | cases h) (el_cons (ef_pure (W := (fun c d _ H' => E c d H')) fun s2 => (pu_var rfl)) el_nil)) rfl (fun _ => rfl) fun x11 s12 => (run_assoc (run_ifE (ρs := (fun (s55 : List (Key × PV)) => [(.rf 0 (.dct s55)), (.fz a_q), (.fz x11), .un, .un, .un, .un, .un])) (s0 := s12) (et_and (et_pure (W := (fun c d _ H' => E c d H')) fun s46 => (ts_cmp (Pur.vw (pu_op o2_lt (Pur.vw (pu_var rfl)) (Pur.vw pu_int))))) (et_or (et_pure (W := (fun c d _ H' => E c d H')) fun s39 => (ts_cmp (Pur.vw (pu_op o2_eq (Pur.vw (pu_var rfl)) (Pur.vw pu_int))))) (et_cmp (ef_op o2_eq (ef_callR (i := 0) (sl := (fun (s24 : List (Key × PV)) => (.rf 0 (.dct s24)))) (get := (fun (s24 : List (Key × PV)) => MO.dct s24)) (put := (fun (s24 : List (Key × PV)) (mo : MO) => moD mo >>= fun l => Res.val l)) (fun _ => rfl) (fun _ => Or.inr ⟨_, rfl⟩) (fun s mo s' h => by cases mo <;> first | (cases h; rfl) | cases h) (el_cons (ef_pure (W := (fun c d _ H' => E c d H')) fun s25 => pu_int) el_nil)) (ef_pure (W := (fun c d _ H' => E c d H')) fun s34 => pu_int))))) rfl (fun s54 => (run_retE (ρs := (fun (s68 : List (Key × PV)) => [(.rf 0 (.dct s68)), (.fz a_q), (.fz x11), .un, .un, .un, .un, .un])) (s0 := s54) (r := fun (s67 : List (Key × PV)) => [.dct s67]) (ef_callR (i := 0) (sl := (fun (s56 : List (Key × PV)) => (.rf 0 (.dct s56)))) (get := (fun (s56 : List (Key × PV)) => MO.dct s56)) (put := (fun (s56 : List (Key × PV)) (mo : MO) => moD mo >>= fun l => Res.val l)) (fun _ => rfl) (fun _ => Or.inr ⟨_, rfl⟩) (fun s mo s' h => by cases mo <;> first | (cases h; rfl) | cases h) (el_cons (ef_pure (W := (fun c d _ H' => E c d H')) fun s57 => (pu_var rfl)) el_nil)) rfl (fun _ => rfl) (fun _ => rfl))) (fun s54 => (run_skip (run_assoc (run_if (ts_cmp (Pur.vw (pu_op o2_eq (Pur.vw (pu_var rfl)) (Pur.vw pu_int)))) (wk_uns rfl) (run_ret (pu_tup (pl_cons (pu_lst pl_nil) (pl_cons pu_non pl_nil))) rfl rfl (wk_uns rfl)) (run_skip (run_assoc (run_setE (i := 3) (ρs := (fun (s157 : List (Key × PV)) => [(.rf 0 (.dct s157)), (.fz a_q), (.fz x11), .un, .un, .un, .un, .un])) (s0 := s54) (ef_op o2_add (ef_pure (W := (fun c d _ H' => E c d H')) fun s78 => pu_int) (ef_callR (i := 0) (sl := (fun (s80 : List (Key × PV)) => (.rf 0 (.dct s80)))) (get := (fun (s80 : List (Key × PV)) => MO.dct s80)) (put := (fun (s80 : List (Key × PV)) (mo : MO) => moD mo >>= fun l => Res.val l)) (fun _ => rfl) (fun _ => Or.inr ⟨_, rfl⟩) (fun s mo s' h => by cases mo <;> first | (cases h; rfl) | cases h) (el_cons (ef_pure (W := (fun c d _ H' => E c d H')) fun s81 => (pu_op o2_sub (Pur.vw (pu_var rfl)) (Pur.vw pu_int))) el_nil))) rfl (fun _ => rfl) fun x95 s96 => (run_assoc (run_seq (ρj := fun (s121 : PV) => [(.rf 0 (.dct s96)), (.fz a_q), (.fz x11), (.fz s121), .un, .un, .un, .un]) (run_for (ρs := fun (s98 : PV) => [(.rf 0 (.dct s96)), (.fz a_q), (.fz x11), (.fz s98), .un, .un, .un, .un]) (s0 := x95) (ρe := fun (s98 : PV) (a99 : PV) => [(.rf 0 (.dct s96)), (.fz a_q), (.fz x11), (.fz s98), (.fz a99), .un, .un, .un]) (it_rng1 (Pur.vw (pu_var rfl))) (.keep (.keep (.keep (.keep (.keep (.keep (.keep (.keep .nil)))))))) (wk_uns rfl) (fun s98 => (tg_name (i := 4) rfl (Or.inl rfl))) (fun a99 s98 => run_one (run_assoc (run_if (ts_cmp (Pur.vw (pu_op o2_ne (Pur.vw (pu_call3 (pu_var rfl) (pu_op o2_fdiv (Pur.vw (pu_op o2_sub (Pur.vw (pu_var rfl)) (Pur.vw pu_int))) (Pur.vw (pu_var rfl))) (pu_var rfl))) (Pur.vw pu_int)))) (wk_uns rfl) (run_break (s := s98) (.keep (.keep (.keep (.keep (.drop (.keep (.keep (.keep .nil))))))))) (run_skip (run_set (i := 3) (pu_op o2_add (Pur.vw pu_int) (Pur.vw (pu_op o2_mod (Pur.vw (pu_cb1 b1_int (Pur.vw (pu_op o2_sub (Pur.vw (pu_var rfl)) (Pur.vw pu_int))))) (Pur.vw (pu_op o2_sub (Pur.vw (pu_var rfl)) (Pur.vw pu_int)))))) rfl (wk_uns rfl) fun x118 => (run_next (s := x118) (.keep (.keep (.keep (.keep (.drop (.keep (.keep (.keep .nil))))))))))))))) fun s121 => (run_assoc (run_set (i := 5) (pu_call3 (pu_var rfl) (pu_op o2_fdiv (Pur.vw (pu_op o2_sub (Pur.vw (pu_var rfl)) (Pur.vw pu_int))) (Pur.vw (pu_var rfl))) (pu_var rfl)) rfl (wk_uns rfl) fun x129 => (run_assoc (run_setow (i := 6) (nw_lst (pl_cons pu_int pl_nil)) rfl (wk_uns rfl) fun l132 => (run_assoc (run_seq (ρj := fun (s146 : List PV) => [(.rf 0 (.dct s96)), (.fz a_q), (.fz x11), (.fz s121), .un, (.fz x129), (.ow (.lst s146)), .un]) (run_for (ρs := fun (s135 : List PV) => [(.rf 0 (.dct s96)), (.fz a_q), (.fz x11), (.fz s121), .un, (.fz x129), (.ow (.lst s135)), .un]) (s0 := l132) (ρe := fun (s135 : List PV) (a136 : PV) => [(.rf 0 (.dct s96)), (.fz a_q), (.fz x11), (.fz s121), .un, (.fz x129), (.ow (.lst s135)), (.fz a136)]) (it_rng1 (Pur.vw (pu_op o2_sub (Pur.vw (pu_var rfl)) (Pur.vw pu_int)))) (.keep (.keep (.keep (.keep (.keep (.keep (.keep (.keep .nil)))))))) (wk_uns rfl) (fun s135 => (tg_name (i := 7) rfl (Or.inl rfl))) (fun a136 s135 => run_one (run_append (i := 6) rfl (Or.inl rfl) (pu_op o2_mod (Pur.vw (pu_cb1 b1_int (Pur.vw (pu_op o2_mul (Pur.vw (pu_op o2_ix (vw_own rfl) (Pur.vw (pu_un o1_neg (Pur.vw pu_int))))) (Pur.vw (pu_var rfl)))))) (Pur.vw (pu_var rfl))) (wk_uns rfl) fun x143 => (run_next (s := (s135 ++ [x143])) (.keep (.keep (.keep (.keep (.keep (.keep (.keep (.drop .nil)))))))))))) fun s146 => (run_wk (.keep (.keep (.keep (.keep (.keep (.keep (.ice (.keep .nil)))))))) (run_ret (pu_tup (pl_cons (pu_var rfl) (pl_cons (pu_make T.ce_PowerGroup (pl_cons (pu_var rfl) (pl_cons (pu_var rfl) pl_nil))) pl_nil))) rfl rfl (wk_uns rfl)))))))))))))))))))))), rfl⟩
def m__law_world (mos : List MO) (qs : List PV) : Res (MO × List MO) := match mos, qs with
  | [.dct a_pool], [a_most] => retMN 1 (noX ((fun (s1 : List (Key × PV)) => (fun (s5 : List (Key × PV)) => (fun (s2 : List (Key × PV)) => noX (Res.val a_most) >>= fun v3 => Res.val (v3, s2)) s5 >>= fun x6 => (fun (s4 : List (Key × PV)) => Res.val (([] : List PV), s4)) x6.2 >>= fun xs7 => Res.val (x6.1 :: xs7.1, xs7.2)) s1 >>= fun x8 => (apR1 m__law_order) (MO.dct x8.2) x8.1 >>= fun r9 => ((fun (s1 : List (Key × PV)) (mo : MO) => moD mo >>= fun l => Res.val l) x8.2 r9.2) >>= fun s10 => Res.val (r9.1, s10)) a_pool) >>= fun r13 => (fun (x11 : PV) (s12 : List (Key × PV)) => (noX ((fun (s14 : List (Key × PV)) => (fun (s18 : List (Key × PV)) => (fun (s15 : List (Key × PV)) => noX (Res.val x11) >>= fun v16 => Res.val (v16, s15)) s18 >>= fun x19 => (fun (s17 : List (Key × PV)) => Res.val (([] : List PV), s17)) x19.2 >>= fun xs20 => Res.val (x19.1 :: xs20.1, xs20.2)) s14 >>= fun x21 => (apR1 m__law_group) (MO.dct x21.2) x21.1 >>= fun r22 => ((fun (s14 : List (Key × PV)) (mo : MO) => moD mo >>= fun l => Res.val l) x21.2 r22.2) >>= fun s23 => Res.val (r22.1, s23)) s12) >>= fun r26 => un2 r26.1 >>= fun a24 => (fun (a24 : PV × PV) (s25 : List (Key × PV)) => (seqF (S1 := PV × PV × PV × List (Key × PV)) ((((Res.val a24.2) >>= fun x27 => (Res.val PV.non) >>= fun x28 => isP x27 x28) >>= asB) >>= fun b29 => if b29 = true then ((Res.val (PV.int 11)) >>= fun x31 => (noX ((fun (s32 : List (Key × PV)) => (fun (s36 : List (Key × PV)) => (fun (s33 : List (Key × PV)) => noX (Res.val x31) >>= fun v34 => Res.val (v34, s33)) s36 >>= fun x37 => (fun (s35 : List (Key × PV)) => Res.val (([] : List PV), s35)) x37.2 >>= fun xs38 => Res.val (x37.1 :: xs38.1, xs38.2)) s32 >>= fun x39 => (apR1 m__law_group) (MO.dct x39.2) x39.1 >>= fun r40 => ((fun (s32 : List (Key × PV)) (mo : MO) => moD mo >>= fun l => Res.val l) x39.2 r40.2) >>= fun s41 => Res.val (r40.1, s41)) s25) >>= fun r44 => un2 r44.1 >>= fun a42 => (fun (a42 : PV × PV) (s43 : List (Key × PV)) => (Res.val (.nx (x31, a42.1, a42.2, s43)))) a42 r44.2)) else (Res.val (.nx (x11, a24.1, a24.2, s25)))) fun s30 => ((Res.val []) >>= fun (d46 : List (Key × PV)) => (seqF (S1 := List (Key × PV)) (((Res.val s30.1) >>= rng1) >>= fun ps55 => forF (fun (x56 : PV) (s47 : List (Key × PV)) => (fun x => Res.val x) x56 >>= fun (a48 : PV) => ((Res.val a48) >>= fun x51 => ((Res.val s30.2.1) >>= fun x49 => (Res.val a48) >>= fun x50 => ixP x49 x50) >>= fun k52 => keyP k52 >>= fun k54 => sized (s47.length + 1) >>= fun _ => (fun (qs53 : List (Key × PV)) => (Res.val (.nx qs53))) (putP s47 k54 x51))) ps55 d46) fun s57 => ((((Res.val (PV.str "q")) >>= fun k70 => (Res.val s30.1) >>= fun x71 => keyP k70 >>= fun k72 => ((Res.val (PV.str "elems")) >>= fun k66 => (Res.val s30.2.1) >>= fun x67 => keyP k66 >>= fun k68 => ((Res.val (PV.str "logs")) >>= fun k62 => (Res.val (PV.dct s57)) >>= fun x63 => keyP k62 >>= fun k64 => ((Res.val (PV.str "group")) >>= fun k58 => (Res.val s30.2.2.1) >>= fun x59 => keyP k58 >>= fun k60 => (Res.val []) >>= fun r61 => Res.val ((k60, x59) :: r61)) >>= fun r65 => Res.val ((k64, x63) :: r65)) >>= fun r69 => Res.val ((k68, x67) :: r69)) >>= fun r73 => Res.val ((k72, x71) :: r73)) >>= fun kv74 => upto15 kv74.length >>= fun _ => Res.val (mergeP [] kv74)) >>= fun l75 => Res.val (.ro (.dct l75) [.dct s30.2.2.2])))))) a24 r26.2)) r13.1 r13.2)
  | _, _ => .stuck
theorem ok__law_world (T : Top P K mg) : FnOk P w K mg base (L2.CX P w) 9 T.f__law_world T.d__law_world ["pool", "most"] (spMN K (clT T) [true, false] m__law_world) := by
  have G__law_order := ok__law_order (P := P) (w := w) (base := base) T
  have G__law_group := ok__law_group (P := P) (w := w) (base := base) T
  refine fnMN (sg := [true, false]) T.F__law_world scLworld rfl fun cdv A outer s H E hr mos qs hm hq => ?_
  have hm : mos.length = 1 := hm
  have hq : qs.length = 1 := hq
  match mos, qs, hm, hq with
  | [.lst _], [_], _, _ => exact .inl rfl
  | [.ob _ _], [_], _, _ => exact .inl rfl
  | [.dct a_pool], [a_most], _, _ => exact .inr ⟨_, (pss_cons (ps_set (i := 2) scLworld.nd rfl (Or.inl rfl) (pe_callS G__law_order (hr.mono (by decide)) (by rfl) T.m__law_order T.F__law_order.kp T.b__law_order (fun σ => passAt (takes_of rfl rfl rfl rfl) σ) (pa_cons (pv 0) (pa_cons (pv 1) pa_nil))))
      (pss_cons (ps_asg (pe_callS G__law_group (hr.mono (by decide)) (by rfl) T.m__law_group T.F__law_group.kp T.b__law_group (fun σ => passAt (takes_of rfl rfl rfl rfl) σ) (pa_cons (pv 0) (pa_cons (pv 2) pa_nil))) (pg_tup (by rfl) (pgs_cons (pg_name (i := 3) scLworld.nd rfl (Or.inl rfl)) (pgs_cons (pg_name (i := 4) scLworld.nd rfl (Or.inl rfl)) pgs_nil))))
      (pss_cons (ps_if (pt_cmpR op_isN (pv 4) pe_non (nomark _)) (pss_cons (ps_set (i := 2) scLworld.nd rfl (Or.inl rfl) pe_int)
      (pss_one (ps_asg (pe_callS G__law_group (hr.mono (by decide)) (by rfl) T.m__law_group T.F__law_group.kp T.b__law_group (fun σ => passAt (takes_of rfl rfl rfl rfl) σ) (pa_cons (pv 0) (pa_cons (pv 2) pa_nil))) (pg_tup (by rfl) (pgs_cons (pg_name (i := 3) scLworld.nd rfl (Or.inl rfl)) (pgs_cons (pg_name (i := 4) scLworld.nd rfl (Or.inl rfl)) pgs_nil)))))) pss_nil)
      (pss_cons (ps_set (i := 5) scLworld.nd rfl (Or.inl rfl) pe_dnewK)
      (pss_cons (ps_for (passes_of rfl) rfl (pi_range1 (by rfl) T.z_range (pa_cons (pv 2) pa_nil)) (pg_name (i := 6) scLworld.nd rfl (Or.inl rfl)) (pss_one (ps_dput (hu_of hr) (pv 5) (pe_ix (ix_VK K rfl) (pv 3) (pv 6) (fun _ _ => rfl)) (pv 6) rfl)))
      (pss_one (ps_ret (pe_disp (pps_cons pe_str (pv 2) (pps_cons pe_str (pv 3) (pps_cons pe_str (pv 5) (pps_cons pe_str (pv 4) pps_nil)))) rfl rfl (List.cons_ne_nil _ _) (Nat.le_of_ble_eq_true rfl))))))))),
    _, run_one (run_assoc (run_setE (i := 2) (ρs := (fun (s77 : List (Key × PV)) => [(.rf 0 (.dct s77)), (.fz a_most), .un, .un, .un, .un, .un])) (s0 := a_pool) (ef_callR (i := 0) (sl := (fun (s1 : List (Key × PV)) => (.rf 0 (.dct s1)))) (get := (fun (s1 : List (Key × PV)) => MO.dct s1)) (put := (fun (s1 : List (Key × PV)) (mo : MO) => moD mo >>= fun l => Res.val l)) (fun _ => rfl) (fun _ => Or.inr ⟨_, rfl⟩) (fun s mo s' h => by cases mo <;> first | (cases h; rfl) | cases h) (el_cons (ef_pure (W := (fun c d _ H' => E c d H')) fun s2 => (pu_var rfl)) el_nil)) rfl (fun _ => rfl) fun x11 s12 => (run_assoc (run_asgE (ρs := (fun (s76 : List (Key × PV)) => [(.rf 0 (.dct s76)), (.fz a_most), (.fz x11), .un, .un, .un, .un])) (s0 := s12) (ρe := fun (s25 : List (Key × PV)) (a24 : PV × PV) => [(.rf 0 (.dct s25)), (.fz a_most), (.fz x11), (.fz a24.1), (.fz a24.2), .un, .un]) (ef_callR (i := 0) (sl := (fun (s14 : List (Key × PV)) => (.rf 0 (.dct s14)))) (get := (fun (s14 : List (Key × PV)) => MO.dct s14)) (put := (fun (s14 : List (Key × PV)) (mo : MO) => moD mo >>= fun l => Res.val l)) (fun _ => rfl) (fun _ => Or.inr ⟨_, rfl⟩) (fun s mo s' h => by cases mo <;> first | (cases h; rfl) | cases h) (el_cons (ef_pure (W := (fun c d _ H' => E c d H')) fun s15 => (pu_var rfl)) el_nil)) rfl (fun _ => (tg_2 (i := 3) (j := 4) rfl rfl (Or.inl rfl))) fun a24 s25 => (run_assoc (run_seq (ρj := fun (s30 : PV × PV × PV × List (Key × PV)) => [(.rf 0 (.dct s30.2.2.2)), (.fz a_most), (.fz s30.1), (.fz s30.2.1), (.fz s30.2.2.1), .un, .un]) (run_one (run_if (ts_cmp (Pur.vw (pu_op o2_is (Pur.vw (pu_var rfl)) (Pur.vw pu_non)))) (wk_uns rfl) (run_assoc (run_set (i := 2) pu_int rfl (wk_uns rfl) fun x31 => (run_asgE (ρs := (fun (s45 : List (Key × PV)) => [(.rf 0 (.dct s45)), (.fz a_most), (.fz x31), (.fz a24.1), (.fz a24.2), .un, .un])) (s0 := s25) (ρe := fun (s43 : List (Key × PV)) (a42 : PV × PV) => [(.rf 0 (.dct s43)), (.fz a_most), (.fz x31), (.fz a42.1), (.fz a42.2), .un, .un]) (ef_callR (i := 0) (sl := (fun (s32 : List (Key × PV)) => (.rf 0 (.dct s32)))) (get := (fun (s32 : List (Key × PV)) => MO.dct s32)) (put := (fun (s32 : List (Key × PV)) (mo : MO) => moD mo >>= fun l => Res.val l)) (fun _ => rfl) (fun _ => Or.inr ⟨_, rfl⟩) (fun s mo s' h => by cases mo <;> first | (cases h; rfl) | cases h) (el_cons (ef_pure (W := (fun c d _ H' => E c d H')) fun s33 => (pu_var rfl)) el_nil)) rfl (fun _ => (tg_2 (i := 3) (j := 4) rfl rfl (Or.inl rfl))) fun a42 s43 => (run_next (s := (x31, a42.1, a42.2, s43)) (.keep (.keep (.keep (.keep (.keep (.keep (.keep .nil))))))))))) (run_skip (run_next (s := (x11, a24.1, a24.2, s25)) (.keep (.keep (.keep (.keep (.keep (.keep (.keep .nil))))))))))) fun s30 => (run_assoc (run_setowd (i := 5) nd_new rfl (wk_uns rfl) fun d46 => (run_assoc (run_seq (ρj := fun (s57 : List (Key × PV)) => [(.rf 0 (.dct s30.2.2.2)), (.fz a_most), (.fz s30.1), (.fz s30.2.1), (.fz s30.2.2.1), (.ow (.dct s57)), .un]) (run_for (ρs := fun (s47 : List (Key × PV)) => [(.rf 0 (.dct s30.2.2.2)), (.fz a_most), (.fz s30.1), (.fz s30.2.1), (.fz s30.2.2.1), (.ow (.dct s47)), .un]) (s0 := d46) (ρe := fun (s47 : List (Key × PV)) (a48 : PV) => [(.rf 0 (.dct s30.2.2.2)), (.fz a_most), (.fz s30.1), (.fz s30.2.1), (.fz s30.2.2.1), (.ow (.dct s47)), (.fz a48)]) (it_rng1 (Pur.vw (pu_var rfl))) (.keep (.keep (.keep (.keep (.keep (.keep (.keep .nil))))))) (wk_uns rfl) (fun s47 => (tg_name (i := 6) rfl (Or.inl rfl))) (fun a48 s47 => run_one (run_dput (i := 5) rfl (Or.inl rfl) (pu_var rfl) (Pur.vw (pu_op o2_ix (Pur.vw (pu_var rfl)) (Pur.vw (pu_var rfl)))) (wk_uns rfl) fun qs53 => (run_next (s := qs53) (.keep (.keep (.keep (.keep (.keep (.keep (.drop .nil))))))))))) fun s57 => (run_wk (.keep (.keep (.keep (.keep (.keep (.iced (.keep .nil))))))) (run_retNewD (nd_disp (pp_cons pu_str (pu_var rfl) (pp_cons pu_str (pu_var rfl) (pp_cons pu_str (pu_var rfl) (pp_cons pu_str (pu_var rfl) pp_nil))))) rfl rfl (wk_uns rfl))))))))))))), rfl⟩
def m_inverse (a_a a_q : PV) : Res PV := retF ((Res.val a_q) >>= fun x3 => ((Res.val a_a) >>= fun x1 => (Res.val a_q) >>= fun x2 => modP x1 x2) >>= fun x4 => ((((Res.val x4) >>= fun x5 => (Res.val (PV.int 0)) >>= fun x6 => eqP x5 x6) >>= asB) >>= fun b7 => if b7 = true then (Res.exc "NoInverse") else ((((Res.val (PV.int 0)) >>= fun x10 => ((Res.val (PV.int 1)) >>= fun x8 => (Res.val []) >>= fun xs9 => Res.val (x8 :: xs9)) >>= fun xs11 => Res.val (x10 :: xs11)) >>= mkT) >>= fun x12 => un2 x12 >>= fun (a13 : PV × PV) => (seqF (S1 := PV × PV × PV × PV) (whileF (fun (s14 : PV × PV × PV × PV) => (((Res.val s14.2.1) >>= fun x15 => (Res.val (PV.int 1)) >>= fun x16 => neP x15 x16) >>= asB)) (fun (s14 : PV × PV × PV × PV) => (((Res.val s14.1) >>= fun x17 => (Res.val s14.2.1) >>= fun x18 => fdivP x17 x18) >>= fun x19 => ((Res.val s14.2.1) >>= fun x24 => ((Res.val s14.1) >>= fun x22 => ((Res.val x19) >>= fun x20 => (Res.val s14.2.1) >>= fun x21 => mulP x20 x21) >>= fun x23 => subP x22 x23) >>= fun x25 => ((Res.val s14.2.2.2) >>= fun x30 => ((Res.val s14.2.2.1) >>= fun x28 => ((Res.val x19) >>= fun x26 => (Res.val s14.2.2.2) >>= fun x27 => mulP x26 x27) >>= fun x29 => subP x28 x29) >>= fun x31 => (Res.val (.nx (x24, x25, x30, x31))))))) FUEL (x3, x4, a13.1, a13.2)) fun s32 => (((Res.val s32.2.2.2) >>= fun x33 => (Res.val a_q) >>= fun x34 => modP x33 x34) >>= fun v35 => Res.val (.rt v35 []))))))
theorem ok_inverse (T : Top P K mg) : FnOk P w K mg base (L2.CX P w) 1 T.f_inverse T.d_inverse ["a", "q"] (spP K (clT T) (ap2 m_inverse)) := by
  refine fnP T.F_inverse scinverse rfl takn2 fun cdv A outer s H E hr qs hq => ?_
  match qs, hq with
  | [a_a, a_q], _ => exact ⟨_, (pss_cons (ps_par (i := 2) (j := 3) (by rfl) scinverse.nd rfl rfl (by decide) rfl rfl (pa_cons (pv 1) (pa_cons (pe_op op_modN (pv 0) (pv 1)) pa_nil)) (by rfl))
      (pss_cons (ps_if (pt_cmpR (op_eqV K rfl hr.units) (pv 3) pe_int (nomark _)) (pss_one (ps_raise rfl (takes_of rfl rfl rfl rfl) (pmk_own0 PySem.F.excBase_ValueError T.x_NoInverse T.m_NoInverse T.kc_NoInverse (raises_own T.s_NoInverse T.t_NoInverse) rfl))) pss_nil)
      (pss_cons (ps_asg (pe_tup (pa_cons pe_int (pa_cons pe_int pa_nil))) (pg_tup (by rfl) (pgs_cons (pg_name (i := 4) scinverse.nd rfl (Or.inl rfl)) (pgs_cons (pg_name (i := 5) scinverse.nd rfl (Or.inl rfl)) pgs_nil))))
      (pss_cons (ps_while (passes_of rfl) (pt_cmpR (op_neV K rfl hr.units) (pv 3) pe_int (nomark _)) (pss_cons (ps_set (i := 6) scinverse.nd rfl (Or.inl rfl) (pe_op op_fdivV (pv 2) (pv 3)))
      (pss_cons (ps_par (i := 2) (j := 3) (by rfl) scinverse.nd rfl rfl (by decide) rfl rfl (pa_cons (pv 3) (pa_cons (pe_op op_sub (pv 2) (pe_op op_mulV (pv 6) (pv 3))) pa_nil)) (by rfl))
      (pss_one (ps_par (i := 4) (j := 5) (by rfl) scinverse.nd rfl rfl (by decide) rfl rfl (pa_cons (pv 5) (pa_cons (pe_op op_sub (pv 4) (pe_op op_mulV (pv 6) (pv 5))) pa_nil)) (by rfl))))))
      (pss_one (ps_ret (pe_op op_modN (pv 5) (pv 1)))))))),
    _, run_one (run_assoc (run_par (i := 2) (j := 3) (pu_var rfl) (pu_op o2_mod (Pur.vw (pu_var rfl)) (Pur.vw (pu_var rfl))) rfl rfl (wk_uns rfl) fun x3 x4 => (run_assoc (run_if (ts_cmp (Pur.vw (pu_op o2_eq (Pur.vw (pu_var rfl)) (Pur.vw pu_int)))) (wk_uns rfl) (run_raise T.ce_NoInverse (wk_uns rfl)) (run_skip (run_assoc (run_asg (pu_tup (pl_cons pu_int (pl_cons pu_int pl_nil))) (tg_2 (i := 4) (j := 5) rfl rfl (Or.inl rfl)) (wk_uns rfl) fun a13 => (run_assoc (run_seq (ρj := fun (s32 : PV × PV × PV × PV) => [(.fz a_a), (.fz a_q), (.fz s32.1), (.fz s32.2.1), (.fz s32.2.2.1), (.fz s32.2.2.2), .un]) (run_while (ρs := fun (s14 : PV × PV × PV × PV) => [(.fz a_a), (.fz a_q), (.fz s14.1), (.fz s14.2.1), (.fz s14.2.2.1), (.fz s14.2.2.2), .un]) (s0 := (x3, x4, a13.1, a13.2)) (.keep (.keep (.keep (.keep (.keep (.keep (.keep .nil))))))) (fun s14 => (wk_uns rfl)) (fun s14 => (ts_cmp (Pur.vw (pu_op o2_ne (Pur.vw (pu_var rfl)) (Pur.vw pu_int))))) (fun s14 => run_one (run_assoc (run_set (i := 6) (pu_op o2_fdiv (Pur.vw (pu_var rfl)) (Pur.vw (pu_var rfl))) rfl (wk_uns rfl) fun x19 => (run_assoc (run_par (i := 2) (j := 3) (pu_var rfl) (pu_op o2_sub (Pur.vw (pu_var rfl)) (Pur.vw (pu_op o2_mul (Pur.vw (pu_var rfl)) (Pur.vw (pu_var rfl))))) rfl rfl (wk_uns rfl) fun x24 x25 => (run_par (i := 4) (j := 5) (pu_var rfl) (pu_op o2_sub (Pur.vw (pu_var rfl)) (Pur.vw (pu_op o2_mul (Pur.vw (pu_var rfl)) (Pur.vw (pu_var rfl))))) rfl rfl (wk_uns rfl) fun x30 x31 => (run_next (s := (x24, x25, x30, x31)) (.keep (.keep (.keep (.keep (.keep (.keep (.drop .nil))))))))))))))) fun s32 => (run_ret (pu_op o2_mod (Pur.vw (pu_var rfl)) (Pur.vw (pu_var rfl))) rfl rfl (wk_uns rfl))))))))))), rfl⟩
def m_Group_log (a_self a_base a_element : PV) : Res PV := retF ((((Res.val a_element) >>= fun x1 => ((Res.val a_self) >>= (fldP cs_unit "unit")) >>= fun x2 => eqP x1 x2) >>= asB) >>= fun b3 => if b3 = true then ((Res.val (PV.int 0)) >>= fun v4 => Res.val (.rt v4 [])) else ((((Res.val a_base) >>= fun x5 => ((Res.val a_self) >>= (fldP cs_unit "unit")) >>= fun x6 => eqP x5 x6) >>= asB) >>= fun b7 => if b7 = true then (Res.exc "NoLogarithm") else ((((((Res.val a_self) >>= (fldP cs__exponents "_exponents")) >>= fun x8 => (Res.val a_element) >>= fun x9 => dgetP x8 x9) >>= fun x14 => ((((Res.val a_self) >>= (fldP cs__exponents "_exponents")) >>= fun x10 => (Res.val a_base) >>= fun x11 => dgetP x10 x11) >>= fun x12 => ((Res.val a_self) >>= (fldP cs_order "order")) >>= fun x13 => m_inverse x12 x13) >>= fun x15 => mulP x14 x15) >>= fun x16 => ((Res.val a_self) >>= (fldP cs_order "order")) >>= fun x17 => modP x16 x17) >>= fun v18 => Res.val (.rt v18 []))))
theorem ok_Group_log (T : Top P K mg) : FnOk P w K mg base (L2.CX P w) 2 T.f_Group_log T.d_Group_log ["self", "base", "element"] (spP K (clT T) (ap3 m_Group_log)) := by
  have G_inverse := ok_inverse (P := P) (w := w) (base := base) T
  refine fnP T.F_Group_log scGroup_log rfl takn3 fun cdv A outer s H E hr qs hq => ?_
  match qs, hq with
  | [a_self, a_base, a_element], _ => exact ⟨_, (pss_cons (ps_if (pt_cmpR (op_eqV K rfl hr.units) (pv 2) (pe_fldV K rfl (pv 0) rfl) (nomark _)) (pss_one (ps_ret pe_int)) pss_nil)
      (pss_cons (ps_if (pt_cmpR (op_eqV K rfl hr.units) (pv 1) (pe_fldV K rfl (pv 0) rfl) (nomark _)) (pss_one (ps_raise rfl (takes_of rfl rfl rfl rfl) (pmk_own0 PySem.F.excBase_ValueError T.x_NoLogarithm T.m_NoLogarithm T.kc_NoLogarithm (raises_own T.s_NoLogarithm T.t_NoLogarithm) rfl))) pss_nil)
      (pss_one (ps_ret (pe_op op_modN (pe_op op_mulV (pe_dget (hu_of hr) (pe_fldV K rfl (pv 0) rfl) (pv 2) (fun _ _ => rfl)) (pe_callS G_inverse (hr.mono (by decide)) (by rfl) T.m_inverse T.F_inverse.kp T.b_inverse (fun σ => passAt (takes_of rfl rfl rfl rfl) σ) (pa_cons (pe_dget (hu_of hr) (pe_fldV K rfl (pv 0) rfl) (pv 1) (fun _ _ => rfl)) (pa_cons (pe_fldV K rfl (pv 0) rfl) pa_nil)))) (pe_fldV K rfl (pv 0) rfl)))))),
    _, run_one (run_assoc (run_if (ts_cmp (Pur.vw (pu_op o2_eq (Pur.vw (pu_var rfl)) (Pur.vw (pu_fld T.fl_unit (Pur.vw (pu_var rfl))))))) (wk_uns rfl) (run_ret pu_int rfl rfl (wk_uns rfl)) (run_skip (run_assoc (run_if (ts_cmp (Pur.vw (pu_op o2_eq (Pur.vw (pu_var rfl)) (Pur.vw (pu_fld T.fl_unit (Pur.vw (pu_var rfl))))))) (wk_uns rfl) (run_raise T.ce_NoLogarithm (wk_uns rfl)) (run_skip (run_ret (pu_op o2_mod (Pur.vw (pu_op o2_mul (Pur.vw (pu_dget (Pur.vw (pu_fld T.fl__exponents (Pur.vw (pu_var rfl)))) (Pur.vw (pu_var rfl)))) (Pur.vw (pu_call2 (pu_dget (Pur.vw (pu_fld T.fl__exponents (Pur.vw (pu_var rfl)))) (Pur.vw (pu_var rfl))) (pu_fld T.fl_order (Pur.vw (pu_var rfl))))))) (Pur.vw (pu_fld T.fl_order (Pur.vw (pu_var rfl))))) rfl rfl (wk_uns rfl)))))))), rfl⟩
def m_Group_has (a_self a_value : PV) : Res PV := retF ((((Res.val a_value) >>= fun x3 => (Res.val (PV.ty "int")) >>= fun x4 => isiP x3 x4) >>= asB >>= fun b5 => if b5 = true then ((Res.val a_value) >>= fun x1 => ((Res.val a_self) >>= (fldP cs__exponents "_exponents")) >>= fun x2 => dinP false x1 x2) else Res.val (PV.bl false)) >>= fun v6 => Res.val (.rt v6 []))
theorem ok_Group_has (T : Top P K mg) : FnOk P w K mg base (L2.CX P w) 1 T.f_Group_has T.d_Group_has ["self", "value"] (spP K (clT T) (ap2 m_Group_has)) := by
  refine fnP T.F_Group_has scGroup_has rfl takn2 fun cdv A outer s H E hr qs hq => ?_
  match qs, hq with
  | [a_self, a_value], _ => exact ⟨_, (pss_one (ps_ret (pe_and (pe_callB (call_isiV K rfl) (by rfl) T.z_isinstance (by decide +kernel) (pa_cons (pv 1) (pa_cons (pe_bltn (v := .ty "int") (by rfl) T.z_int (by decide +kernel) rfl) pa_nil))) (pe_one (pe_cmp (pc_din (hu_of hr) (pv 1) (pe_fldV K rfl (pv 0) rfl))))))),
    _, run_one (run_ret (pu_andV (Pur.vw (pu_cb2 b2_isi (Pur.vw (pu_var rfl)) (Pur.vw pu_ty))) (pu_din (Pur.vw (pu_var rfl)) (Pur.vw (pu_fld T.fl__exponents (Pur.vw (pu_var rfl)))))) rfl rfl (wk_uns rfl)), rfl⟩
def m_Key___init__ (mo : MO) (a_group : PV) (a_base : PV) (a_blind_base : PV) : Res (PV × MO) := match mo with
  | .ob a_C a_self => retR ((((((Res.val a_group) >>= fun x12 => sel [("PowerGroup", ap2 m_Group_has), ("TableGroup", ap2 m_Group_has)] "has" x12 >>= fun g13 => ((Res.val a_base) >>= fun x10 => (Res.val []) >>= fun xs11 => Res.val (x10 :: xs11)) >>= fun ps14 => g13 (x12 :: ps14)) >>= asB) >>= fun b15 => Res.val (!b15)) >>= fun b16 => if b16 = true then Res.val true else (((((Res.val a_group) >>= fun x5 => sel [("PowerGroup", ap2 m_Group_has), ("TableGroup", ap2 m_Group_has)] "has" x5 >>= fun g6 => ((Res.val a_blind_base) >>= fun x3 => (Res.val []) >>= fun xs4 => Res.val (x3 :: xs4)) >>= fun ps7 => g6 (x5 :: ps7)) >>= asB) >>= fun b8 => Res.val (!b8)) >>= fun b9 => if b9 = true then Res.val true else (((Res.val a_base) >>= fun x1 => ((Res.val a_group) >>= (fldP cs_unit "unit")) >>= fun x2 => eqP x1 x2) >>= asB))) >>= fun b17 => if b17 = true then (Res.exc "BadKey") else ((Res.val a_group) >>= fun x18 => setF cs_group a_C a_self "group" x18 >>= fun gs19 => ((Res.val a_base) >>= fun x20 => setF cs_base a_C gs19 "base" x20 >>= fun gs21 => ((Res.val a_blind_base) >>= fun x22 => setF cs_blind_base a_C gs21 "blind_base" x22 >>= fun gs23 => (((Res.val a_group) >>= fun x28 => sel [("PowerGroup", ap3 m_Group_log), ("TableGroup", ap3 m_Group_log)] "log" x28 >>= fun g29 => ((Res.val a_base) >>= fun x26 => ((Res.val a_blind_base) >>= fun x24 => (Res.val []) >>= fun xs25 => Res.val (x24 :: xs25)) >>= fun xs27 => Res.val (x26 :: xs27)) >>= fun ps30 => g29 (x28 :: ps30)) >>= fun x31 => setF cs__relation a_C gs23 "_relation" x31 >>= fun gs32 => (Res.val (.nx (MO.ob a_C gs32))))))))
  | _ => .stuck
theorem ok_Key___init__ (T : Top P K mg) : FnOk P w K mg base (L2.CX P w) 3 T.f_Key___init__ T.d_Key___init__ ["self", "group", "base", "blind_base"] (spI K (clT T) (apR3 m_Key___init__)) := by
  have G_Group_log := ok_Group_log (P := P) (w := w) (base := base) T
  have G_Group_has := ok_Group_has (P := P) (w := w) (base := base) T
  refine fnI T.F_Key___init__ scKey___init__ rfl taknR3 fun cdv A outer s H E hr mo qs hq => ?_
  match mo, qs, hq with
  | .lst _, [_, _, _], _ => exact .inl rfl
  | .dct _, [_, _, _], _ => exact .inl rfl
  | .ob a_C a_self, [a_group, a_base, a_blind_base], _ => exact .inr ⟨_, (pss_cons (ps_if (PW.pt (pw_or (pt_not (pt_val (PE.either (pe_methT (pv 1) T.cls_PowerGroup T.me_PowerGroup_has G_Group_has (hr.mono (by decide)) T.b_Group_has (fun σ => passAt (takes_of rfl rfl rfl rfl) σ) (pa_cons (pv 2) pa_nil)) (pe_methT (pv 1) T.cls_TableGroup T.me_TableGroup_has G_Group_has (hr.mono (by decide)) T.b_Group_has (fun σ => passAt (takes_of rfl rfl rfl rfl) σ) (pa_cons (pv 2) pa_nil))))) (pw_or (pt_not (pt_val (PE.either (pe_methT (pv 1) T.cls_PowerGroup T.me_PowerGroup_has G_Group_has (hr.mono (by decide)) T.b_Group_has (fun σ => passAt (takes_of rfl rfl rfl rfl) σ) (pa_cons (pv 3) pa_nil)) (pe_methT (pv 1) T.cls_TableGroup T.me_TableGroup_has G_Group_has (hr.mono (by decide)) T.b_Group_has (fun σ => passAt (takes_of rfl rfl rfl rfl) σ) (pa_cons (pv 3) pa_nil))))) (pw_or1 (pt_cmpR (op_eqV K rfl hr.units) (pv 2) (pe_fldV K rfl (pv 1) rfl) (nomark _)))))) (pss_one (ps_raise rfl (takes_of rfl rfl rfl rfl) (pmk_own0 PySem.F.excBase_ValueError T.x_BadKey T.m_BadKey T.kc_BadKey (raises_own T.s_BadKey T.t_BadKey) rfl))) pss_nil)
      (pss_cons (ps_fld (pv 0) (pv 1) rfl)
      (pss_cons (ps_fld (pv 0) (pv 2) rfl)
      (pss_cons (ps_fld (pv 0) (pv 3) rfl)
      (pss_one (ps_fld (pv 0) (PE.either (pe_methT (pv 1) T.cls_PowerGroup T.me_PowerGroup_log G_Group_log (hr.mono (by decide)) T.b_Group_log (fun σ => passAt (takes_of rfl rfl rfl rfl) σ) (pa_cons (pv 2) (pa_cons (pv 3) pa_nil))) (pe_methT (pv 1) T.cls_TableGroup T.me_TableGroup_log G_Group_log (hr.mono (by decide)) T.b_Group_log (fun σ => passAt (takes_of rfl rfl rfl rfl) σ) (pa_cons (pv 2) (pa_cons (pv 3) pa_nil)))) rfl)))))),
    _, run_one (run_assoc (run_if (ts_or (ts_not (ts_val (Pur.vw (pu_meths (pu_meth T.ce_PowerGroup (pu_var rfl) (pl_cons (pu_var rfl) pl_nil)) (pu_meth T.ce_TableGroup (pu_var rfl) (pl_cons (pu_var rfl) pl_nil)))))) (ts_or (ts_not (ts_val (Pur.vw (pu_meths (pu_meth T.ce_PowerGroup (pu_var rfl) (pl_cons (pu_var rfl) pl_nil)) (pu_meth T.ce_TableGroup (pu_var rfl) (pl_cons (pu_var rfl) pl_nil)))))) (ts_cmp (Pur.vw (pu_op o2_eq (Pur.vw (pu_var rfl)) (Pur.vw (pu_fld T.fl_unit (Pur.vw (pu_var rfl))))))))) (wk_uns rfl) (run_raise T.ce_BadKey (wk_uns rfl)) (run_skip (run_assoc (run_setfld (i := 0) T.fl_group rfl (.inr ⟨_, rfl⟩) (pu_var rfl) (wk_uns rfl) fun gs19 => (run_assoc (run_setfld (i := 0) T.fl_base rfl (.inr ⟨_, rfl⟩) (pu_var rfl) (wk_uns rfl) fun gs21 => (run_assoc (run_setfld (i := 0) T.fl_blind_base rfl (.inr ⟨_, rfl⟩) (pu_var rfl) (wk_uns rfl) fun gs23 => (run_setfld (i := 0) T.fl__relation rfl (.inr ⟨_, rfl⟩) (pu_meths (pu_meth T.ce_PowerGroup (pu_var rfl) (pl_cons (pu_var rfl) (pl_cons (pu_var rfl) pl_nil))) (pu_meth T.ce_TableGroup (pu_var rfl) (pl_cons (pu_var rfl) (pl_cons (pu_var rfl) pl_nil)))) (wk_uns rfl) fun gs32 => (run_next (s := MO.ob a_C gs32) (.keep (.drop (.drop (.drop .nil))))))))))))))), rfl⟩
def m__law_member (a_world a_e : PV) : Res PV := retF ((((Res.val a_world) >>= fun x1 => (Res.val (PV.str "elems")) >>= fun x2 => dgetP x1 x2) >>= fun x7 => (((Res.val a_e) >>= intP) >>= fun x5 => ((Res.val a_world) >>= fun x3 => (Res.val (PV.str "q")) >>= fun x4 => dgetP x3 x4) >>= fun x6 => modP x5 x6) >>= fun x8 => ixP x7 x8) >>= fun v9 => Res.val (.rt v9 []))
theorem ok__law_member (T : Top P K mg) : FnOk P w K mg base (L2.CX P w) 1 T.f__law_member T.d__law_member ["world", "e"] (spP K (clT T) (ap2 m__law_member)) := by
  refine fnP T.F__law_member scLmember rfl takn2 fun cdv A outer s H E hr qs hq => ?_
  match qs, hq with
  | [a_world, a_e], _ => exact ⟨_, (pss_one (ps_ret (pe_ix (ix_VK K rfl) (pe_dget (hu_of hr) (pv 0) pe_str (fun _ _ => rfl)) (pe_op op_modN (pe_callTy call_intV (by rfl) T.z_int (by decide +kernel) (pa_cons (pv 1) pa_nil)) (pe_dget (hu_of hr) (pv 0) pe_str (fun _ _ => rfl))) (fun _ _ => rfl)))),
    _, run_one (run_ret (pu_op o2_ix (Pur.vw (pu_dget (Pur.vw (pu_var rfl)) (Pur.vw pu_str))) (Pur.vw (pu_op o2_mod (Pur.vw (pu_cb1 b1_int (Pur.vw (pu_var rfl)))) (Pur.vw (pu_dget (Pur.vw (pu_var rfl)) (Pur.vw pu_str)))))) rfl rfl (wk_uns rfl)), rfl⟩
def m__law_key (mos : List MO) (qs : List PV) : Res (PV × List MO) := match mos, qs with
  | [.dct a_pool, .dct a_world], [a_hiding] => retM 2 (noX ((fun (s1 : List (Key × PV) × List (Key × PV)) => (fun (s2 : List (Key × PV) × List (Key × PV)) => noX (Res.val (PV.int 1)) >>= fun v3 => Res.val (v3, s2)) s1 >>= fun x18 => (fun (s4 : List (Key × PV) × List (Key × PV)) => (fun (s12 : List (Key × PV) × List (Key × PV)) => (fun (s5 : List (Key × PV) × List (Key × PV)) => noX (((Res.val (PV.dct s5.2)) >>= fun x6 => (Res.val (PV.str "q")) >>= fun x7 => dgetP x6 x7) >>= fun x8 => (Res.val (PV.int 1)) >>= fun x9 => subP x8 x9) >>= fun v10 => Res.val (v10, s5)) s12 >>= fun x13 => (fun (s11 : List (Key × PV) × List (Key × PV)) => Res.val (([] : List PV), s11)) x13.2 >>= fun xs14 => Res.val (x13.1 :: xs14.1, xs14.2)) s4 >>= fun x15 => (apR1 m__law_take) (MO.dct x15.2.1) x15.1 >>= fun r16 => ((fun (s4 : List (Key × PV) × List (Key × PV)) (mo : MO) => moD mo >>= fun l => Res.val (l, s4.2)) x15.2 r16.2) >>= fun s17 => Res.val (r16.1, s17)) x18.2 >>= fun x19 => noX (addP x18.1 x19.1) >>= fun z20 => Res.val (z20, x19.2)) (a_pool, a_world)) >>= fun r24 => noX ((fun (s21 : List (Key × PV) × List (Key × PV)) => noX (Res.val (PV.str "g")) >>= fun v22 => Res.val (v22, s21)) r24.2) >>= fun k25 => keyP k25.1 >>= fun k27 => sized ((k25.2.2).length + 1) >>= fun _ => (fun (s23 : List (Key × PV) × List (Key × PV)) (qs26 : List (Key × PV)) => (noX ((fun (s28 : List (Key × PV) × List (Key × PV)) => (fun (s29 : List (Key × PV) × List (Key × PV)) => noX (Res.val (PV.int 1)) >>= fun v30 => Res.val (v30, s29)) s28 >>= fun x45 => (fun (s31 : List (Key × PV) × List (Key × PV)) => (fun (s39 : List (Key × PV) × List (Key × PV)) => (fun (s32 : List (Key × PV) × List (Key × PV)) => noX (((Res.val (PV.dct s32.2)) >>= fun x33 => (Res.val (PV.str "q")) >>= fun x34 => dgetP x33 x34) >>= fun x35 => (Res.val (PV.int 1)) >>= fun x36 => subP x35 x36) >>= fun v37 => Res.val (v37, s32)) s39 >>= fun x40 => (fun (s38 : List (Key × PV) × List (Key × PV)) => Res.val (([] : List PV), s38)) x40.2 >>= fun xs41 => Res.val (x40.1 :: xs41.1, xs41.2)) s31 >>= fun x42 => (apR1 m__law_take) (MO.dct x42.2.1) x42.1 >>= fun r43 => ((fun (s31 : List (Key × PV) × List (Key × PV)) (mo : MO) => moD mo >>= fun l => Res.val (l, s31.2)) x42.2 r43.2) >>= fun s44 => Res.val (r43.1, s44)) x45.2 >>= fun x46 => noX (addP x45.1 x46.1) >>= fun z47 => Res.val (z47, x46.2)) (s23.1, qs26)) >>= fun r51 => noX ((fun (s48 : List (Key × PV) × List (Key × PV)) => noX (Res.val (PV.str "h")) >>= fun v49 => Res.val (v49, s48)) r51.2) >>= fun k52 => keyP k52.1 >>= fun k54 => sized ((k52.2.2).length + 1) >>= fun _ => (fun (s50 : List (Key × PV) × List (Key × PV)) (qs53 : List (Key × PV)) => (seqF (S1 := List (Key × PV)) ((((Res.val a_hiding) >>= asB) >>= fun b55 => Res.val (!b55)) >>= fun b56 => if b56 = true then ((Res.val (PV.int 0)) >>= fun x58 => (Res.val (PV.str "h")) >>= fun k59 => keyP k59 >>= fun k61 => sized (qs53.length + 1) >>= fun _ => (fun (qs60 : List (Key × PV)) => (Res.val (.nx qs60))) (putP qs53 k61 x58)) else (Res.val (.nx qs53))) fun s57 => (((((Res.val (PV.dct s57)) >>= fun x80 => (Res.val (PV.str "group")) >>= fun x81 => dgetP x80 x81) >>= fun x82 => ((((Res.val (PV.dct s57)) >>= fun x75 => (((Res.val (PV.dct s57)) >>= fun x71 => (Res.val (PV.str "g")) >>= fun x72 => dgetP x71 x72) >>= fun x73 => (Res.val []) >>= fun xs74 => Res.val (x73 :: xs74)) >>= fun xs76 => Res.val (x75 :: xs76)) >>= fun ps77 => ap2 m__law_member ps77 >>= flS) >>= fun x78 => ((((Res.val (PV.dct s57)) >>= fun x66 => (((Res.val (PV.dct s57)) >>= fun x62 => (Res.val (PV.str "h")) >>= fun x63 => dgetP x62 x63) >>= fun x64 => (Res.val []) >>= fun xs65 => Res.val (x64 :: xs65)) >>= fun xs67 => Res.val (x66 :: xs67)) >>= fun ps68 => ap2 m__law_member ps68 >>= flS) >>= fun x69 => (Res.val []) >>= fun xs70 => Res.val (x69 :: xs70)) >>= fun xs79 => Res.val (x78 :: xs79)) >>= fun xs83 => Res.val (x82 :: xs83)) >>= fun ps84 => (apR3 m_Key___init__) (.ob "Key" []) ps84 >>= frO) >>= fun v85 => Res.val (.rt v85 [.dct s50.1, .dct s57])))) k52.2 (putP k52.2.2 k54 r51.1))) k25.2 (putP k25.2.2 k27 r24.1))
  | _, _ => .stuck
theorem ok__law_key (T : Top P K mg) : FnOk P w K mg base (L2.CX P w) 5 T.f__law_key T.d__law_key ["pool", "world", "hiding"] (spM K (clT T) [true, true, false] m__law_key) := by
  have G_Key___init__ := ok_Key___init__ (P := P) (w := w) (base := base) T
  have G__law_take := ok__law_take (P := P) (w := w) (base := base) T
  have G__law_member := ok__law_member (P := P) (w := w) (base := base) T
  refine fnM (sg := [true, true, false]) T.F__law_key scLkey rfl fun cdv A outer s H E hr mos qs hm hq => ?_
  have hm : mos.length = 2 := hm
  have hq : qs.length = 1 := hq
  match mos, qs, hm, hq with
  | [.lst _, _], [_], _, _ => exact .inl rfl
  | [.ob _ _, _], [_], _, _ => exact .inl rfl
  | [.dct _, .lst _], [_], _, _ => exact .inl rfl
  | [.dct _, .ob _ _], [_], _, _ => exact .inl rfl
  | [.dct a_pool, .dct a_world], [a_hiding], _, _ => exact .inr ⟨_, (pss_cons (ps_dput (hu_of hr) (pv 1) pe_str (pe_op (op_addV K rfl) pe_int (pe_callS G__law_take (hr.mono (by decide)) (by rfl) T.m__law_take T.F__law_take.kp T.b__law_take (fun σ => passAt (takes_of rfl rfl rfl rfl) σ) (pa_cons (pv 0) (pa_cons (pe_op op_sub (pe_dget (hu_of hr) (pv 1) pe_str (fun _ _ => rfl)) pe_int) pa_nil)))) rfl)
      (pss_cons (ps_dput (hu_of hr) (pv 1) pe_str (pe_op (op_addV K rfl) pe_int (pe_callS G__law_take (hr.mono (by decide)) (by rfl) T.m__law_take T.F__law_take.kp T.b__law_take (fun σ => passAt (takes_of rfl rfl rfl rfl) σ) (pa_cons (pv 0) (pa_cons (pe_op op_sub (pe_dget (hu_of hr) (pv 1) pe_str (fun _ _ => rfl)) pe_int) pa_nil)))) rfl)
      (pss_cons (ps_if (pt_not (pt_val (pv 2))) (pss_one (ps_dput (hu_of hr) (pv 1) pe_str pe_int rfl)) pss_nil)
      (pss_one (ps_ret (pe_makeS T.mk_Key G_Key___init__ (hr.mono (by decide)) rfl T.m_Key T.b_Key___init__ (fun σ => passAt (takes_of rfl rfl rfl rfl) σ) (pa_cons (pe_dget (hu_of hr) (pv 1) pe_str (fun _ _ => rfl)) (pa_cons (pe_callS G__law_member (hr.mono (by decide)) (by rfl) T.m__law_member T.F__law_member.kp T.b__law_member (fun σ => passAt (takes_of rfl rfl rfl rfl) σ) (pa_cons (pv 1) (pa_cons (pe_dget (hu_of hr) (pv 1) pe_str (fun _ _ => rfl)) pa_nil))) (pa_cons (pe_callS G__law_member (hr.mono (by decide)) (by rfl) T.m__law_member T.F__law_member.kp T.b__law_member (fun σ => passAt (takes_of rfl rfl rfl rfl) σ) (pa_cons (pv 1) (pa_cons (pe_dget (hu_of hr) (pv 1) pe_str (fun _ _ => rfl)) pa_nil))) pa_nil))))))))),
    _, run_one (run_assoc (run_dputE (i := 1) (ρs := (fun (s87 : List (Key × PV) × List (Key × PV)) => [(.rf 0 (.dct s87.1)), (.rf 1 (.dct s87.2)), (.fz a_hiding)])) (s0 := (a_pool, a_world)) (sl := (fun (s23 : List (Key × PV) × List (Key × PV)) => (.rf 1 (.dct s23.2)))) (get := (fun (s23 : List (Key × PV) × List (Key × PV)) => s23.2)) (fun _ => rfl) (fun _ => Or.inr ⟨_, rfl⟩) (ef_op o2_add (ef_pure (W := (fun c d _ H' => E c d H')) fun s2 => pu_int) (ef_callR (i := 0) (sl := (fun (s4 : List (Key × PV) × List (Key × PV)) => (.rf 0 (.dct s4.1)))) (get := (fun (s4 : List (Key × PV) × List (Key × PV)) => MO.dct s4.1)) (put := (fun (s4 : List (Key × PV) × List (Key × PV)) (mo : MO) => moD mo >>= fun l => Res.val (l, s4.2))) (fun _ => rfl) (fun _ => Or.inr ⟨_, rfl⟩) (fun s mo s' h => by cases mo <;> first | (cases h; rfl) | cases h) (el_cons (ef_pure (W := (fun c d _ H' => E c d H')) fun s5 => (pu_op o2_sub (Pur.vw (pu_dget (vw_rfd rfl) (Pur.vw pu_str))) (Pur.vw pu_int))) el_nil))) (ef_pure (W := (fun c d _ H' => E c d H')) fun s21 => pu_str) rfl fun s23 qs26 => (run_assoc (run_dputE (i := 1) (ρs := (fun (s86 : List (Key × PV) × List (Key × PV)) => [(.rf 0 (.dct s86.1)), (.rf 1 (.dct s86.2)), (.fz a_hiding)])) (s0 := (s23.1, qs26)) (sl := (fun (s50 : List (Key × PV) × List (Key × PV)) => (.rf 1 (.dct s50.2)))) (get := (fun (s50 : List (Key × PV) × List (Key × PV)) => s50.2)) (fun _ => rfl) (fun _ => Or.inr ⟨_, rfl⟩) (ef_op o2_add (ef_pure (W := (fun c d _ H' => E c d H')) fun s29 => pu_int) (ef_callR (i := 0) (sl := (fun (s31 : List (Key × PV) × List (Key × PV)) => (.rf 0 (.dct s31.1)))) (get := (fun (s31 : List (Key × PV) × List (Key × PV)) => MO.dct s31.1)) (put := (fun (s31 : List (Key × PV) × List (Key × PV)) (mo : MO) => moD mo >>= fun l => Res.val (l, s31.2))) (fun _ => rfl) (fun _ => Or.inr ⟨_, rfl⟩) (fun s mo s' h => by cases mo <;> first | (cases h; rfl) | cases h) (el_cons (ef_pure (W := (fun c d _ H' => E c d H')) fun s32 => (pu_op o2_sub (Pur.vw (pu_dget (vw_rfd rfl) (Pur.vw pu_str))) (Pur.vw pu_int))) el_nil))) (ef_pure (W := (fun c d _ H' => E c d H')) fun s48 => pu_str) rfl fun s50 qs53 => (run_assoc (run_seq (ρj := fun (s57 : List (Key × PV)) => [(.rf 0 (.dct s50.1)), (.rf 1 (.dct s57)), (.fz a_hiding)]) (run_one (run_if (ts_not (ts_val (Pur.vw (pu_var rfl)))) (wk_uns rfl) (run_dput (i := 1) rfl (Or.inr ⟨_, rfl⟩) pu_int (Pur.vw pu_str) (wk_uns rfl) fun qs60 => (run_next (s := qs60) (.keep (.keep (.keep .nil))))) (run_skip (run_next (s := qs53) (.keep (.keep (.keep .nil))))))) fun s57 => (run_ret (pu_make T.ce_Key (pl_cons (pu_dget (vw_rfd rfl) (Pur.vw pu_str)) (pl_cons (pu_callF (vl_cons (vw_rfd rfl) (vl_cons (Pur.vw (pu_dget (vw_rfd rfl) (Pur.vw pu_str))) vl_nil))) (pl_cons (pu_callF (vl_cons (vw_rfd rfl) (vl_cons (Pur.vw (pu_dget (vw_rfd rfl) (Pur.vw pu_str))) vl_nil))) pl_nil)))) rfl rfl (wk_uns rfl)))))))), rfl⟩
def m__law_number (mo : MO) (a_q : PV) : Res (PV × MO) := match mo with
  | .dct a_pool => retR (noX ((fun (s1 : List (Key × PV)) => (fun (s5 : List (Key × PV)) => (fun (s2 : List (Key × PV)) => noX (Res.val (PV.int 6)) >>= fun v3 => Res.val (v3, s2)) s5 >>= fun x6 => (fun (s4 : List (Key × PV)) => Res.val (([] : List PV), s4)) x6.2 >>= fun xs7 => Res.val (x6.1 :: xs7.1, xs7.2)) s1 >>= fun x8 => (apR1 m__law_take) (MO.dct x8.2) x8.1 >>= fun r9 => ((fun (s1 : List (Key × PV)) (mo : MO) => moD mo >>= fun l => Res.val l) x8.2 r9.2) >>= fun s10 => Res.val (r9.1, s10)) a_pool) >>= fun r13 => (fun (x11 : PV) (s12 : List (Key × PV)) => (noX ((fun (s14 : List (Key × PV)) => (fun (s18 : List (Key × PV)) => (fun (s15 : List (Key × PV)) => noX (Res.val a_q) >>= fun v16 => Res.val (v16, s15)) s18 >>= fun x19 => (fun (s17 : List (Key × PV)) => Res.val (([] : List PV), s17)) x19.2 >>= fun xs20 => Res.val (x19.1 :: xs20.1, xs20.2)) s14 >>= fun x21 => (apR1 m__law_take) (MO.dct x21.2) x21.1 >>= fun r22 => ((fun (s14 : List (Key × PV)) (mo : MO) => moD mo >>= fun l => Res.val l) x21.2 r22.2) >>= fun s23 => Res.val (r22.1, s23)) s12) >>= fun r26 => (fun (x24 : PV) (s25 : List (Key × PV)) => (seqF (S1 := PV) ((((Res.val x11) >>= fun x27 => (Res.val (PV.int 3)) >>= fun x28 => eqP x27 x28) >>= asB) >>= fun b29 => if b29 = true then (((Res.val x24) >>= fun x31 => (Res.val a_q) >>= fun x32 => subP x31 x32) >>= fun x33 => (Res.val (.nx x33))) else (Res.val (.nx x24))) fun s30 => (seqF (S1 := PV × List (Key × PV)) ((((Res.val x11) >>= fun x34 => (Res.val (PV.int 4)) >>= fun x35 => eqP x34 x35) >>= asB) >>= fun b36 => if b36 = true then (noX ((fun (s38 : List (Key × PV)) => (fun (s39 : List (Key × PV)) => noX (Res.val s30) >>= fun v40 => Res.val (v40, s39)) s38 >>= fun x63 => (fun (s41 : List (Key × PV)) => (fun (s42 : List (Key × PV)) => noX (Res.val a_q) >>= fun v43 => Res.val (v43, s42)) s41 >>= fun x60 => (fun (s44 : List (Key × PV)) => (fun (s45 : List (Key × PV)) => (fun (s49 : List (Key × PV)) => (fun (s46 : List (Key × PV)) => noX (Res.val (PV.int 2000)) >>= fun v47 => Res.val (v47, s46)) s49 >>= fun x50 => (fun (s48 : List (Key × PV)) => Res.val (([] : List PV), s48)) x50.2 >>= fun xs51 => Res.val (x50.1 :: xs51.1, xs51.2)) s45 >>= fun x52 => (apR1 m__law_take) (MO.dct x52.2) x52.1 >>= fun r53 => ((fun (s45 : List (Key × PV)) (mo : MO) => moD mo >>= fun l => Res.val l) x52.2 r53.2) >>= fun s54 => Res.val (r53.1, s54)) s44 >>= fun x57 => (fun (s55 : List (Key × PV)) => noX (Res.val (PV.int 1000)) >>= fun v56 => Res.val (v56, s55)) x57.2 >>= fun x58 => noX (subP x57.1 x58.1) >>= fun z59 => Res.val (z59, x58.2)) x60.2 >>= fun x61 => noX (mulP x60.1 x61.1) >>= fun z62 => Res.val (z62, x61.2)) x63.2 >>= fun x64 => noX (addP x63.1 x64.1) >>= fun z65 => Res.val (z65, x64.2)) s25) >>= fun r68 => (fun (x66 : PV) (s67 : List (Key × PV)) => (Res.val (.nx (x66, s67)))) r68.1 r68.2) else (Res.val (.nx (s30, s25)))) fun s37 => (seqF (S1 := PV × List (Key × PV)) ((((Res.val x11) >>= fun x70 => (Res.val (PV.int 5)) >>= fun x71 => eqP x70 x71) >>= asB) >>= fun b72 => if b72 = true then (noX ((fun (s74 : List (Key × PV)) => (fun (s75 : List (Key × PV)) => (fun (s76 : List (Key × PV)) => (fun (s77 : List (Key × PV)) => (fun (s83 : List (Key × PV)) => (fun (s78 : List (Key × PV)) => noX ((Res.val (PV.int 10)) >>= fun x79 => (Res.val (PV.int 9)) >>= fun x80 => powP x79 x80) >>= fun v81 => Res.val (v81, s78)) s83 >>= fun x84 => (fun (s82 : List (Key × PV)) => Res.val (([] : List PV), s82)) x84.2 >>= fun xs85 => Res.val (x84.1 :: xs85.1, xs85.2)) s77 >>= fun x86 => (apR1 m__law_take) (MO.dct x86.2) x86.1 >>= fun r87 => ((fun (s77 : List (Key × PV)) (mo : MO) => moD mo >>= fun l => Res.val l) x86.2 r87.2) >>= fun s88 => Res.val (r87.1, s88)) s76 >>= fun x93 => (fun (s89 : List (Key × PV)) => noX ((Res.val (PV.int 10)) >>= fun x90 => (Res.val (PV.int 30)) >>= fun x91 => powP x90 x91) >>= fun v92 => Res.val (v92, s89)) x93.2 >>= fun x94 => noX (mulP x93.1 x94.1) >>= fun z95 => Res.val (z95, x94.2)) s75 >>= fun x116 => (fun (s96 : List (Key × PV)) => (fun (s97 : List (Key × PV)) => (fun (s103 : List (Key × PV)) => (fun (s98 : List (Key × PV)) => noX ((Res.val (PV.int 10)) >>= fun x99 => (Res.val (PV.int 9)) >>= fun x100 => powP x99 x100) >>= fun v101 => Res.val (v101, s98)) s103 >>= fun x104 => (fun (s102 : List (Key × PV)) => Res.val (([] : List PV), s102)) x104.2 >>= fun xs105 => Res.val (x104.1 :: xs105.1, xs105.2)) s97 >>= fun x106 => (apR1 m__law_take) (MO.dct x106.2) x106.1 >>= fun r107 => ((fun (s97 : List (Key × PV)) (mo : MO) => moD mo >>= fun l => Res.val l) x106.2 r107.2) >>= fun s108 => Res.val (r107.1, s108)) s96 >>= fun x113 => (fun (s109 : List (Key × PV)) => noX ((Res.val (PV.int 10)) >>= fun x110 => (Res.val (PV.int 12)) >>= fun x111 => powP x110 x111) >>= fun v112 => Res.val (v112, s109)) x113.2 >>= fun x114 => noX (mulP x113.1 x114.1) >>= fun z115 => Res.val (z115, x114.2)) x116.2 >>= fun x117 => noX (addP x116.1 x117.1) >>= fun z118 => Res.val (z118, x117.2)) s74 >>= fun x121 => (fun (s119 : List (Key × PV)) => noX (Res.val s37.1) >>= fun v120 => Res.val (v120, s119)) x121.2 >>= fun x122 => noX (addP x121.1 x122.1) >>= fun z123 => Res.val (z123, x122.2)) s37.2) >>= fun r126 => (fun (x124 : PV) (s125 : List (Key × PV)) => (noX ((fun (s127 : List (Key × PV)) => (fun (s128 : List (Key × PV)) => noX (Res.val x124) >>= fun v129 => Res.val (v129, s128)) s127 >>= fun x150 => (fun (s130 : List (Key × PV)) => (fun (s131 : List (Key × PV)) => noX (((Res.val (PV.int 1)) >>= fun x134 => (((Res.val (PV.int 1)) >>= negP) >>= fun x132 => (Res.val []) >>= fun xs133 => Res.val (x132 :: xs133)) >>= fun xs135 => Res.val (x134 :: xs135)) >>= mkL) >>= fun v136 => Res.val (v136, s131)) s130 >>= fun x147 => (fun (s137 : List (Key × PV)) => (fun (s141 : List (Key × PV)) => (fun (s138 : List (Key × PV)) => noX (Res.val (PV.int 2)) >>= fun v139 => Res.val (v139, s138)) s141 >>= fun x142 => (fun (s140 : List (Key × PV)) => Res.val (([] : List PV), s140)) x142.2 >>= fun xs143 => Res.val (x142.1 :: xs143.1, xs143.2)) s137 >>= fun x144 => (apR1 m__law_take) (MO.dct x144.2) x144.1 >>= fun r145 => ((fun (s137 : List (Key × PV)) (mo : MO) => moD mo >>= fun l => Res.val l) x144.2 r145.2) >>= fun s146 => Res.val (r145.1, s146)) x147.2 >>= fun x148 => noX (ixP x147.1 x148.1) >>= fun z149 => Res.val (z149, x148.2)) x150.2 >>= fun x151 => noX (mulP x150.1 x151.1) >>= fun z152 => Res.val (z152, x151.2)) s125) >>= fun r155 => (fun (x153 : PV) (s154 : List (Key × PV)) => (Res.val (.nx (x153, s154)))) r155.1 r155.2)) r126.1 r126.2) else (Res.val (.nx (s37.1, s37.2)))) fun s73 => ((Res.val s73.1) >>= fun v158 => Res.val (.rt v158 [.dct s73.2])))))) r26.1 r26.2)) r13.1 r13.2)
  | _ => .stuck
theorem ok__law_number (T : Top P K mg) : FnOk P w K mg base (L2.CX P w) 3 T.f__law_number T.d__law_number ["pool", "q"] (spR K (clT T) (apR1 m__law_number)) := by
  have G__law_take := ok__law_take (P := P) (w := w) (base := base) T
  refine fnR T.F__law_number scLnumber rfl taknR1 fun cdv A outer s H E hr mo qs hq => ?_
  match mo, qs, hq with
  | .lst _, [_], _ => exact .inl rfl
  | .ob _ _, [_], _ => exact .inl rfl
  | .dct a_pool, [a_q], _ => exact .inr ⟨_, (pss_cons (ps_set (i := 2) scLnumber.nd rfl (Or.inl rfl) (pe_callS G__law_take (hr.mono (by decide)) (by rfl) T.m__law_take T.F__law_take.kp T.b__law_take (fun σ => passAt (takes_of rfl rfl rfl rfl) σ) (pa_cons (pv 0) (pa_cons pe_int pa_nil))))
      (pss_cons (ps_set (i := 3) scLnumber.nd rfl (Or.inl rfl) (pe_callS G__law_take (hr.mono (by decide)) (by rfl) T.m__law_take T.F__law_take.kp T.b__law_take (fun σ => passAt (takes_of rfl rfl rfl rfl) σ) (pa_cons (pv 0) (pa_cons (pv 1) pa_nil))))
      (pss_cons (ps_if (pt_cmpR (op_eqV K rfl hr.units) (pv 2) pe_int (nomark _)) (pss_one (ps_set (i := 3) scLnumber.nd rfl (Or.inl rfl) (pe_op op_sub (pv 3) (pv 1)))) pss_nil)
      (pss_cons (ps_if (pt_cmpR (op_eqV K rfl hr.units) (pv 2) pe_int (nomark _)) (pss_one (ps_set (i := 3) scLnumber.nd rfl (Or.inl rfl) (pe_op (op_addV K rfl) (pv 3) (pe_op op_mulV (pv 1) (pe_op op_sub (pe_callS G__law_take (hr.mono (by decide)) (by rfl) T.m__law_take T.F__law_take.kp T.b__law_take (fun σ => passAt (takes_of rfl rfl rfl rfl) σ) (pa_cons (pv 0) (pa_cons pe_int pa_nil))) pe_int))))) pss_nil)
      (pss_cons (ps_if (pt_cmpR (op_eqV K rfl hr.units) (pv 2) pe_int (nomark _)) (pss_cons (ps_set (i := 3) scLnumber.nd rfl (Or.inl rfl) (pe_op (op_addV K rfl) (pe_op (op_addV K rfl) (pe_op op_mulV (pe_callS G__law_take (hr.mono (by decide)) (by rfl) T.m__law_take T.F__law_take.kp T.b__law_take (fun σ => passAt (takes_of rfl rfl rfl rfl) σ) (pa_cons (pv 0) (pa_cons (pe_op op_pow pe_int pe_int) pa_nil))) (pe_op op_pow pe_int pe_int)) (pe_op op_mulV (pe_callS G__law_take (hr.mono (by decide)) (by rfl) T.m__law_take T.F__law_take.kp T.b__law_take (fun σ => passAt (takes_of rfl rfl rfl rfl) σ) (pa_cons (pv 0) (pa_cons (pe_op op_pow pe_int pe_int) pa_nil))) (pe_op op_pow pe_int pe_int))) (pv 3)))
      (pss_one (ps_set (i := 3) scLnumber.nd rfl (Or.inl rfl) (pe_op op_mulV (pv 3) (pe_ix (ix_VK K rfl) (pe_lst (pa_cons pe_int (pa_cons (pe_un un_neg pe_int) pa_nil))) (pe_callS G__law_take (hr.mono (by decide)) (by rfl) T.m__law_take T.F__law_take.kp T.b__law_take (fun σ => passAt (takes_of rfl rfl rfl rfl) σ) (pa_cons (pv 0) (pa_cons pe_int pa_nil))) (fun _ _ => rfl)))))) pss_nil)
      (pss_one (ps_ret (pv 3)))))))),
    _, run_one (run_assoc (run_setE (i := 2) (ρs := (fun (s160 : List (Key × PV)) => [(.rf 0 (.dct s160)), (.fz a_q), .un, .un])) (s0 := a_pool) (ef_callR (i := 0) (sl := (fun (s1 : List (Key × PV)) => (.rf 0 (.dct s1)))) (get := (fun (s1 : List (Key × PV)) => MO.dct s1)) (put := (fun (s1 : List (Key × PV)) (mo : MO) => moD mo >>= fun l => Res.val l)) (fun _ => rfl) (fun _ => Or.inr ⟨_, rfl⟩) (fun s mo s' h => by cases mo <;> first | (cases h; rfl) | cases h) (el_cons (ef_pure (W := (fun c d _ H' => E c d H')) fun s2 => pu_int) el_nil)) rfl (fun _ => rfl) fun x11 s12 => (run_assoc (run_setE (i := 3) (ρs := (fun (s159 : List (Key × PV)) => [(.rf 0 (.dct s159)), (.fz a_q), (.fz x11), .un])) (s0 := s12) (ef_callR (i := 0) (sl := (fun (s14 : List (Key × PV)) => (.rf 0 (.dct s14)))) (get := (fun (s14 : List (Key × PV)) => MO.dct s14)) (put := (fun (s14 : List (Key × PV)) (mo : MO) => moD mo >>= fun l => Res.val l)) (fun _ => rfl) (fun _ => Or.inr ⟨_, rfl⟩) (fun s mo s' h => by cases mo <;> first | (cases h; rfl) | cases h) (el_cons (ef_pure (W := (fun c d _ H' => E c d H')) fun s15 => (pu_var rfl)) el_nil)) rfl (fun _ => rfl) fun x24 s25 => (run_assoc (run_seq (ρj := fun (s30 : PV) => [(.rf 0 (.dct s25)), (.fz a_q), (.fz x11), (.fz s30)]) (run_one (run_if (ts_cmp (Pur.vw (pu_op o2_eq (Pur.vw (pu_var rfl)) (Pur.vw pu_int)))) (wk_uns rfl) (run_set (i := 3) (pu_op o2_sub (Pur.vw (pu_var rfl)) (Pur.vw (pu_var rfl))) rfl (wk_uns rfl) fun x33 => (run_next (s := x33) (.keep (.keep (.keep (.keep .nil)))))) (run_skip (run_next (s := x24) (.keep (.keep (.keep (.keep .nil)))))))) fun s30 => (run_assoc (run_seq (ρj := fun (s37 : PV × List (Key × PV)) => [(.rf 0 (.dct s37.2)), (.fz a_q), (.fz x11), (.fz s37.1)]) (run_one (run_if (ts_cmp (Pur.vw (pu_op o2_eq (Pur.vw (pu_var rfl)) (Pur.vw pu_int)))) (wk_uns rfl) (run_setE (i := 3) (ρs := (fun (s69 : List (Key × PV)) => [(.rf 0 (.dct s69)), (.fz a_q), (.fz x11), (.fz s30)])) (s0 := s25) (ef_op o2_add (ef_pure (W := (fun c d _ H' => E c d H')) fun s39 => (pu_var rfl)) (ef_op o2_mul (ef_pure (W := (fun c d _ H' => E c d H')) fun s42 => (pu_var rfl)) (ef_op o2_sub (ef_callR (i := 0) (sl := (fun (s45 : List (Key × PV)) => (.rf 0 (.dct s45)))) (get := (fun (s45 : List (Key × PV)) => MO.dct s45)) (put := (fun (s45 : List (Key × PV)) (mo : MO) => moD mo >>= fun l => Res.val l)) (fun _ => rfl) (fun _ => Or.inr ⟨_, rfl⟩) (fun s mo s' h => by cases mo <;> first | (cases h; rfl) | cases h) (el_cons (ef_pure (W := (fun c d _ H' => E c d H')) fun s46 => pu_int) el_nil)) (ef_pure (W := (fun c d _ H' => E c d H')) fun s55 => pu_int)))) rfl (fun _ => rfl) fun x66 s67 => (run_next (s := (x66, s67)) (.keep (.keep (.keep (.keep .nil)))))) (run_skip (run_next (s := (s30, s25)) (.keep (.keep (.keep (.keep .nil)))))))) fun s37 => (run_assoc (run_seq (ρj := fun (s73 : PV × List (Key × PV)) => [(.rf 0 (.dct s73.2)), (.fz a_q), (.fz x11), (.fz s73.1)]) (run_one (run_if (ts_cmp (Pur.vw (pu_op o2_eq (Pur.vw (pu_var rfl)) (Pur.vw pu_int)))) (wk_uns rfl) (run_assoc (run_setE (i := 3) (ρs := (fun (s157 : List (Key × PV)) => [(.rf 0 (.dct s157)), (.fz a_q), (.fz x11), (.fz s37.1)])) (s0 := s37.2) (ef_op o2_add (ef_op o2_add (ef_op o2_mul (ef_callR (i := 0) (sl := (fun (s77 : List (Key × PV)) => (.rf 0 (.dct s77)))) (get := (fun (s77 : List (Key × PV)) => MO.dct s77)) (put := (fun (s77 : List (Key × PV)) (mo : MO) => moD mo >>= fun l => Res.val l)) (fun _ => rfl) (fun _ => Or.inr ⟨_, rfl⟩) (fun s mo s' h => by cases mo <;> first | (cases h; rfl) | cases h) (el_cons (ef_pure (W := (fun c d _ H' => E c d H')) fun s78 => (pu_op o2_pow (Pur.vw pu_int) (Pur.vw pu_int))) el_nil)) (ef_pure (W := (fun c d _ H' => E c d H')) fun s89 => (pu_op o2_pow (Pur.vw pu_int) (Pur.vw pu_int)))) (ef_op o2_mul (ef_callR (i := 0) (sl := (fun (s97 : List (Key × PV)) => (.rf 0 (.dct s97)))) (get := (fun (s97 : List (Key × PV)) => MO.dct s97)) (put := (fun (s97 : List (Key × PV)) (mo : MO) => moD mo >>= fun l => Res.val l)) (fun _ => rfl) (fun _ => Or.inr ⟨_, rfl⟩) (fun s mo s' h => by cases mo <;> first | (cases h; rfl) | cases h) (el_cons (ef_pure (W := (fun c d _ H' => E c d H')) fun s98 => (pu_op o2_pow (Pur.vw pu_int) (Pur.vw pu_int))) el_nil)) (ef_pure (W := (fun c d _ H' => E c d H')) fun s109 => (pu_op o2_pow (Pur.vw pu_int) (Pur.vw pu_int))))) (ef_pure (W := (fun c d _ H' => E c d H')) fun s119 => (pu_var rfl))) rfl (fun _ => rfl) fun x124 s125 => (run_setE (i := 3) (ρs := (fun (s156 : List (Key × PV)) => [(.rf 0 (.dct s156)), (.fz a_q), (.fz x11), (.fz x124)])) (s0 := s125) (ef_op o2_mul (ef_pure (W := (fun c d _ H' => E c d H')) fun s128 => (pu_var rfl)) (ef_op o2_ix (ef_pure (W := (fun c d _ H' => E c d H')) fun s131 => (pu_lst (pl_cons pu_int (pl_cons (pu_un o1_neg (Pur.vw pu_int)) pl_nil)))) (ef_callR (i := 0) (sl := (fun (s137 : List (Key × PV)) => (.rf 0 (.dct s137)))) (get := (fun (s137 : List (Key × PV)) => MO.dct s137)) (put := (fun (s137 : List (Key × PV)) (mo : MO) => moD mo >>= fun l => Res.val l)) (fun _ => rfl) (fun _ => Or.inr ⟨_, rfl⟩) (fun s mo s' h => by cases mo <;> first | (cases h; rfl) | cases h) (el_cons (ef_pure (W := (fun c d _ H' => E c d H')) fun s138 => pu_int) el_nil)))) rfl (fun _ => rfl) fun x153 s154 => (run_next (s := (x153, s154)) (.keep (.keep (.keep (.keep .nil)))))))) (run_skip (run_next (s := (s37.1, s37.2)) (.keep (.keep (.keep (.keep .nil)))))))) fun s73 => (run_ret (pu_var rfl) rfl rfl (wk_uns rfl)))))))))))), rfl⟩
def m__law_inverse (a_a a_q : PV) : Res PV := retF ((((((Res.val a_q) >>= rng1) >>= fun ps8 => sized ps8.length >>= fun _ => lcF (fun x => Res.val x) (fun (a1 : PV) => ((((((Res.val a_a) >>= fun x2 => (Res.val a1) >>= fun x3 => mulP x2 x3) >>= intP) >>= fun x4 => (Res.val a_q) >>= fun x5 => modP x4 x5) >>= fun x6 => (Res.val (PV.int 1)) >>= fun x7 => eqP x6 x7) >>= asB)) (fun (a1 : PV) => (Res.val a1)) ps8) >>= fun ps9 => Res.val (PV.lst ps9)) >>= fun x10 => (Res.val (PV.int 0)) >>= fun x11 => ixP x10 x11) >>= fun v12 => Res.val (.rt v12 []))
theorem ok__law_inverse (T : Top P K mg) : FnOk P w K mg base (L2.CX P w) 1 T.f__law_inverse T.d__law_inverse ["a", "q"] (spP K (clT T) (ap2 m__law_inverse)) := by
  refine fnP T.F__law_inverse scLinverse rfl takn2 fun cdv A outer s H E hr qs hq => ?_
  match qs, hq with
  | [a_a, a_q], _ => exact ⟨_, (pss_one (ps_ret (pe_ix (ix_VK K rfl) (pe_lc (own := [("b", 2)]) (g := gName 2)  rfl scLinverse.nd (pi_range1 (by rfl) T.z_range (pa_cons (pv 1) pa_nil)) (blkOk_by (own := [("b", 2)]) (N := ["a", "q", "b"]) (sc := defScope s_Linverse) (by decide +kernel)) (fun _ _ _ _ _ => (pg_name (i := 2) scLinverse.nd rfl (Or.inl rfl))) (fun _ _ _ _ _ => (pts_one (pt_cmpR (op_eqV K rfl hr.units) (pe_op op_modN (pe_callTy call_intV (by rfl) T.z_int (by decide +kernel) (pa_cons (pe_op op_mulV (pv 0) (pv 2)) pa_nil)) (pv 1)) pe_int (nomark _)))) (fun _ _ _ _ _ => (pv 2))) pe_int (fun _ _ => rfl)))),
    _, run_one (run_ret (pu_op o2_ix (Pur.vw (New.pur (nw_lc (ρe := fun (a1 : PV) => [(.fz a_a), (.fz a_q), (.fz a1)]) (Iter.view (it_rng1 (Pur.vw (pu_var rfl)))) rfl (by decide) (tg_name (i := 2) rfl (Or.inr (by decide))) (fun a1 => (ts_cmp (Pur.vw (pu_op o2_eq (Pur.vw (pu_op o2_mod (Pur.vw (pu_cb1 b1_int (Pur.vw (pu_op o2_mul (Pur.vw (pu_var rfl)) (Pur.vw (pu_var rfl)))))) (Pur.vw (pu_var rfl)))) (Pur.vw pu_int))))) (fun a1 => (pu_var rfl))))) (Pur.vw pu_int)) rfl rfl (wk_uns rfl)), rfl⟩
def m__law_blind (a_world a_e a_value : PV) : Res PV := retF (((Res.val a_world) >>= fun x1 => (Res.val (PV.str "q")) >>= fun x2 => dgetP x1 x2) >>= fun x3 => ((((((Res.val a_e) >>= fun x8 => ((Res.val a_value) >>= fun x6 => ((Res.val a_world) >>= fun x4 => (Res.val (PV.str "g")) >>= fun x5 => dgetP x4 x5) >>= fun x7 => mulP x6 x7) >>= fun x9 => subP x8 x9) >>= fun x14 => (((Res.val a_world) >>= fun x10 => (Res.val (PV.str "h")) >>= fun x11 => dgetP x10 x11) >>= fun x12 => (Res.val x3) >>= fun x13 => m__law_inverse x12 x13) >>= fun x15 => mulP x14 x15) >>= intP) >>= fun x16 => (Res.val x3) >>= fun x17 => modP x16 x17) >>= fun v18 => Res.val (.rt v18 [])))
theorem ok__law_blind (T : Top P K mg) : FnOk P w K mg base (L2.CX P w) 2 T.f__law_blind T.d__law_blind ["world", "e", "value"] (spP K (clT T) (ap3 m__law_blind)) := by
  have G__law_inverse := ok__law_inverse (P := P) (w := w) (base := base) T
  refine fnP T.F__law_blind scLblind rfl takn3 fun cdv A outer s H E hr qs hq => ?_
  match qs, hq with
  | [a_world, a_e, a_value], _ => exact ⟨_, (pss_cons (ps_set (i := 3) scLblind.nd rfl (Or.inl rfl) (pe_dget (hu_of hr) (pv 0) pe_str (fun _ _ => rfl)))
      (pss_one (ps_ret (pe_op op_modN (pe_callTy call_intV (by rfl) T.z_int (by decide +kernel) (pa_cons (pe_op op_mulV (pe_op op_sub (pv 1) (pe_op op_mulV (pv 2) (pe_dget (hu_of hr) (pv 0) pe_str (fun _ _ => rfl)))) (pe_callS G__law_inverse (hr.mono (by decide)) (by rfl) T.m__law_inverse T.F__law_inverse.kp T.b__law_inverse (fun σ => passAt (takes_of rfl rfl rfl rfl) σ) (pa_cons (pe_dget (hu_of hr) (pv 0) pe_str (fun _ _ => rfl)) (pa_cons (pv 3) pa_nil)))) pa_nil)) (pv 3))))),
    _, run_one (run_assoc (run_set (i := 3) (pu_dget (Pur.vw (pu_var rfl)) (Pur.vw pu_str)) rfl (wk_uns rfl) fun x3 => (run_ret (pu_op o2_mod (Pur.vw (pu_cb1 b1_int (Pur.vw (pu_op o2_mul (Pur.vw (pu_op o2_sub (Pur.vw (pu_var rfl)) (Pur.vw (pu_op o2_mul (Pur.vw (pu_var rfl)) (Pur.vw (pu_dget (Pur.vw (pu_var rfl)) (Pur.vw pu_str))))))) (Pur.vw (pu_call2 (pu_dget (Pur.vw (pu_var rfl)) (Pur.vw pu_str)) (pu_var rfl))))))) (Pur.vw (pu_var rfl))) rfl rfl (wk_uns rfl)))), rfl⟩
def m__law_same : Nat → PV → PV → Res PV
  | 0, _, _ => .stuck
  | n + 1, a_actual, a_due => retF ((((Res.val a_due) >>= fun x1 => (Res.val (PV.ty "tuple")) >>= fun x2 => isiP x1 x2) >>= asB) >>= fun b3 => if b3 = true then ((((((Res.val a_actual) >>= fun x6 => (Res.val (PV.ty "tuple")) >>= fun x7 => isiP x6 x7) >>= asB) >>= fun b8 => Res.val (!b8)) >>= fun b9 => if b9 = true then Res.val true else ((((Res.val a_actual) >>= lenP) >>= fun x4 => ((Res.val a_due) >>= lenP) >>= fun x5 => neP x4 x5) >>= asB)) >>= fun b10 => if b10 = true then ((Res.val (PV.bl false)) >>= fun v11 => Res.val (.rt v11 [])) else (seqF (S1 := Unit) ((((Res.val a_due) >>= lenP) >>= rng1) >>= fun ps23 => forF (fun (x24 : PV) (s12 : Unit) => (fun x => Res.val x) x24 >>= fun (a13 : PV) => ((((((Res.val a_actual) >>= fun x14 => (Res.val a13) >>= fun x15 => ixP x14 x15) >>= fun x18 => ((Res.val a_due) >>= fun x16 => (Res.val a13) >>= fun x17 => ixP x16 x17) >>= fun x19 => (m__law_same n) x18 x19) >>= asB) >>= fun b20 => Res.val (!b20)) >>= fun b21 => if b21 = true then ((Res.val (PV.bl false)) >>= fun v22 => Res.val (.rt v22 [])) else (Res.val (.nx ())))) ps23 ()) fun s25 => ((Res.val (PV.bl true)) >>= fun v26 => Res.val (.rt v26 [])))) else ((((Res.val a_due) >>= fun x27 => (Res.val PV.non) >>= fun x28 => isP x27 x28) >>= asB) >>= fun b29 => if b29 = true then (((Res.val a_actual) >>= fun x30 => (Res.val PV.non) >>= fun x31 => isP x30 x31) >>= fun v32 => Res.val (.rt v32 [])) else ((((Res.val a_due) >>= fun x33 => (Res.val (PV.ty "str")) >>= fun x34 => isiP x33 x34) >>= asB) >>= fun b35 => if b35 = true then ((((Res.val a_actual) >>= fun x38 => (Res.val (PV.ty "str")) >>= fun x39 => isiP x38 x39) >>= asB >>= fun b40 => if b40 = true then ((Res.val a_actual) >>= fun x36 => (Res.val a_due) >>= fun x37 => eqP x36 x37) else Res.val (PV.bl false)) >>= fun v41 => Res.val (.rt v41 [])) else ((((Res.val a_due) >>= fun x42 => (Res.val (PV.ty "bool")) >>= fun x43 => isiP x42 x43) >>= asB) >>= fun b44 => if b44 = true then ((((Res.val a_actual) >>= fun x47 => (Res.val (PV.ty "bool")) >>= fun x48 => isiP x47 x48) >>= asB >>= fun b49 => if b49 = true then ((Res.val a_actual) >>= fun x45 => (Res.val a_due) >>= fun x46 => eqP x45 x46) else Res.val (PV.bl false)) >>= fun v50 => Res.val (.rt v50 [])) else ((((Res.val a_actual) >>= fun x57 => (Res.val (PV.ty "int")) >>= fun x58 => isiP x57 x58) >>= asB >>= fun b59 => if b59 = true then ((((Res.val a_actual) >>= fun x53 => (Res.val (PV.ty "bool")) >>= fun x54 => isiP x53 x54) >>= asB >>= fun b55 => Res.val (PV.bl (!b55))) >>= asB >>= fun b56 => if b56 = true then ((Res.val a_actual) >>= fun x51 => (Res.val a_due) >>= fun x52 => eqP x51 x52) else Res.val (PV.bl false)) else Res.val (PV.bl false)) >>= fun v60 => Res.val (.rt v60 []))))))
theorem ok__law_same (T : Top P K mg) : ∀ n : Nat, FnOk P w K mg base (L2.CX P w) (1 + n) T.f__law_same T.d__law_same ["actual", "due"] (spP K (clT T) (ap2 (m__law_same n)))
  | 0 => fn_stuck stuck2
  | n + 1 => by
    have G__law_same := ok__law_same T n
  
    refine fnP (k := 1 + n) T.F__law_same scLsame rfl takn2 fun cdv A outer s H E hr qs hq => ?_
    match qs, hq with
    | [a_actual, a_due], _ => exact ⟨_, (pss_cons (ps_if (pt_val (pe_callB (call_isiV K rfl) (by rfl) T.z_isinstance (by decide +kernel) (pa_cons (pv 1) (pa_cons (pe_bltn (v := .ty "tuple") (by rfl) T.z_tuple (by decide +kernel) rfl) pa_nil)))) (pss_cons (ps_if (PW.pt (pw_or (pt_not (pt_val (pe_callB (call_isiV K rfl) (by rfl) T.z_isinstance (by decide +kernel) (pa_cons (pv 0) (pa_cons (pe_bltn (v := .ty "tuple") (by rfl) T.z_tuple (by decide +kernel) rfl) pa_nil))))) (pw_or1 (pt_cmpR (op_neV K rfl hr.units) (pe_callB (call_lenVK K rfl) (by rfl) T.z_len PySem.boot_len (pa_cons (pv 0) pa_nil)) (pe_callB (call_lenVK K rfl) (by rfl) T.z_len PySem.boot_len (pa_cons (pv 1) pa_nil)) (nomark _))))) (pss_one (ps_ret pe_bl)) pss_nil)
        (pss_cons (ps_for (passes_of rfl) rfl (pi_range1 (by rfl) T.z_range (pa_cons (pe_callB (call_lenVK K rfl) (by rfl) T.z_len PySem.boot_len (pa_cons (pv 1) pa_nil)) pa_nil)) (pg_name (i := 2) scLsame.nd rfl (Or.inl rfl)) (pss_one (ps_if (pt_not (pt_val (pe_callS G__law_same hr (by rfl) T.m__law_same T.F__law_same.kp T.b__law_same (fun σ => passAt (takes_of rfl rfl rfl rfl) σ) (pa_cons (pe_ix (ix_VK K rfl) (pv 0) (pv 2) (fun _ _ => rfl)) (pa_cons (pe_ix (ix_VK K rfl) (pv 1) (pv 2) (fun _ _ => rfl)) pa_nil))))) (pss_one (ps_ret pe_bl)) pss_nil)))
        (pss_one (ps_ret pe_bl)))) pss_nil)
        (pss_cons (ps_if (pt_cmpR op_isN (pv 1) pe_non (nomark _)) (pss_one (ps_ret (pe_cmpR op_isN (pv 0) pe_non (nomark _)))) pss_nil)
        (pss_cons (ps_if (pt_val (pe_callB (call_isiV K rfl) (by rfl) T.z_isinstance (by decide +kernel) (pa_cons (pv 1) (pa_cons (pe_bltn (v := .ty "str") (by rfl) T.z_str (by decide +kernel) rfl) pa_nil)))) (pss_one (ps_ret (pe_and (pe_callB (call_isiV K rfl) (by rfl) T.z_isinstance (by decide +kernel) (pa_cons (pv 0) (pa_cons (pe_bltn (v := .ty "str") (by rfl) T.z_str (by decide +kernel) rfl) pa_nil))) (pe_one (pe_cmpR (op_eqV K rfl hr.units) (pv 0) (pv 1) (nomark _)))))) pss_nil)
        (pss_cons (ps_if (pt_val (pe_callB (call_isiV K rfl) (by rfl) T.z_isinstance (by decide +kernel) (pa_cons (pv 1) (pa_cons (pe_bltn (v := .ty "bool") (by rfl) T.z_bool (by decide +kernel) rfl) pa_nil)))) (pss_one (ps_ret (pe_and (pe_callB (call_isiV K rfl) (by rfl) T.z_isinstance (by decide +kernel) (pa_cons (pv 0) (pa_cons (pe_bltn (v := .ty "bool") (by rfl) T.z_bool (by decide +kernel) rfl) pa_nil))) (pe_one (pe_cmpR (op_eqV K rfl hr.units) (pv 0) (pv 1) (nomark _)))))) pss_nil)
        (pss_one (ps_ret (pe_and (pe_callB (call_isiV K rfl) (by rfl) T.z_isinstance (by decide +kernel) (pa_cons (pv 0) (pa_cons (pe_bltn (v := .ty "int") (by rfl) T.z_int (by decide +kernel) rfl) pa_nil))) (pe_and (pe_not (pe_callB (call_isiV K rfl) (by rfl) T.z_isinstance (by decide +kernel) (pa_cons (pv 0) (pa_cons (pe_bltn (v := .ty "bool") (by rfl) T.z_bool (by decide +kernel) rfl) pa_nil)))) (pe_one (pe_cmpR (op_eqV K rfl hr.units) (pv 0) (pv 1) (nomark _))))))))))),
      _, run_one (run_assoc (run_if (ts_val (Pur.vw (pu_cb2 b2_isi (Pur.vw (pu_var rfl)) (Pur.vw pu_ty)))) (wk_uns rfl) (run_assoc (run_if (ts_or (ts_not (ts_val (Pur.vw (pu_cb2 b2_isi (Pur.vw (pu_var rfl)) (Pur.vw pu_ty))))) (ts_cmp (Pur.vw (pu_op o2_ne (Pur.vw (pu_cb1 b1_len (Pur.vw (pu_var rfl)))) (Pur.vw (pu_cb1 b1_len (Pur.vw (pu_var rfl)))))))) (wk_uns rfl) (run_ret pu_bl rfl rfl (wk_uns rfl)) (run_skip (run_assoc (run_seq (ρj := fun (s25 : Unit) => [(.fz a_actual), (.fz a_due), .un]) (run_for (ρs := fun (s12 : Unit) => [(.fz a_actual), (.fz a_due), .un]) (s0 := ()) (ρe := fun (s12 : Unit) (a13 : PV) => [(.fz a_actual), (.fz a_due), (.fz a13)]) (it_rng1 (Pur.vw (pu_cb1 b1_len (Pur.vw (pu_var rfl))))) (.keep (.keep (.keep .nil))) (wk_uns rfl) (fun s12 => (tg_name (i := 2) rfl (Or.inl rfl))) (fun a13 s12 => run_one (run_if (ts_not (ts_val (Pur.vw (pu_call2 (pu_op o2_ix (Pur.vw (pu_var rfl)) (Pur.vw (pu_var rfl))) (pu_op o2_ix (Pur.vw (pu_var rfl)) (Pur.vw (pu_var rfl))))))) (wk_uns rfl) (run_ret pu_bl rfl rfl (wk_uns rfl)) (run_skip (run_next (s := ()) (.keep (.keep (.drop .nil)))))))) fun s25 => (run_ret pu_bl rfl rfl (wk_uns rfl))))))) (run_skip (run_assoc (run_if (ts_cmp (Pur.vw (pu_op o2_is (Pur.vw (pu_var rfl)) (Pur.vw pu_non)))) (wk_uns rfl) (run_ret (pu_op o2_is (Pur.vw (pu_var rfl)) (Pur.vw pu_non)) rfl rfl (wk_uns rfl)) (run_skip (run_assoc (run_if (ts_val (Pur.vw (pu_cb2 b2_isi (Pur.vw (pu_var rfl)) (Pur.vw pu_ty)))) (wk_uns rfl) (run_ret (pu_andV (Pur.vw (pu_cb2 b2_isi (Pur.vw (pu_var rfl)) (Pur.vw pu_ty))) (pu_op o2_eq (Pur.vw (pu_var rfl)) (Pur.vw (pu_var rfl)))) rfl rfl (wk_uns rfl)) (run_skip (run_assoc (run_if (ts_val (Pur.vw (pu_cb2 b2_isi (Pur.vw (pu_var rfl)) (Pur.vw pu_ty)))) (wk_uns rfl) (run_ret (pu_andV (Pur.vw (pu_cb2 b2_isi (Pur.vw (pu_var rfl)) (Pur.vw pu_ty))) (pu_op o2_eq (Pur.vw (pu_var rfl)) (Pur.vw (pu_var rfl)))) rfl rfl (wk_uns rfl)) (run_skip (run_ret (pu_andV (Pur.vw (pu_cb2 b2_isi (Pur.vw (pu_var rfl)) (Pur.vw pu_ty))) (pu_andV (Pur.vw (pu_notV (Pur.vw (pu_cb2 b2_isi (Pur.vw (pu_var rfl)) (Pur.vw pu_ty))))) (pu_op o2_eq (Pur.vw (pu_var rfl)) (Pur.vw (pu_var rfl))))) rfl rfl (wk_uns rfl)))))))))))))), rfl⟩
def m_Group_combine (a_self a_factors a_exponents : PV) : Res PV := retF ((Res.val (PV.int 0)) >>= fun x1 => (seqF (S1 := PV) (((Res.val a_factors) >>= fun x2 => (Res.val a_exponents) >>= fun x3 => zipV x2 x3) >>= fun ps13 => forF (fun (x14 : PV) (s4 : PV) => un2 x14 >>= fun (a5 : PV × PV) => (((Res.val s4) >>= fun x10 => ((((Res.val a_self) >>= (fldP cs__exponents "_exponents")) >>= fun x6 => (Res.val a5.1) >>= fun x7 => dgetP x6 x7) >>= fun x8 => (Res.val a5.2) >>= fun x9 => mulP x8 x9) >>= fun x11 => addP x10 x11) >>= fun x12 => (Res.val (.nx x12)))) ps13 x1) fun s15 => ((((Res.val a_self) >>= (fldP cs__powers "_powers")) >>= fun x18 => ((Res.val s15) >>= fun x16 => ((Res.val a_self) >>= (fldP cs_order "order")) >>= fun x17 => modP x16 x17) >>= fun x19 => ixP x18 x19) >>= fun v20 => Res.val (.rt v20 []))))
theorem ok_Group_combine (T : Top P K mg) : FnOk P w K mg base (L2.CX P w) 1 T.f_Group_combine T.d_Group_combine ["self", "factors", "exponents"] (spP K (clT T) (ap3 m_Group_combine)) := by
  refine fnP T.F_Group_combine scGroup_combine rfl takn3 fun cdv A outer s H E hr qs hq => ?_
  match qs, hq with
  | [a_self, a_factors, a_exponents], _ => exact ⟨_, (pss_cons (ps_set (i := 3) scGroup_combine.nd rfl (Or.inl rfl) pe_int)
      (pss_cons (ps_for (passes_of rfl) rfl (pi_zipV K rfl (by rfl) T.z_zip (pa_cons (pv 1) (pa_cons (pv 2) pa_nil))) (pg_tup (by rfl) (pgs_cons (pg_name (i := 4) scGroup_combine.nd rfl (Or.inl rfl)) (pgs_cons (pg_name (i := 5) scGroup_combine.nd rfl (Or.inl rfl)) pgs_nil))) (pss_one (ps_set (i := 3) scGroup_combine.nd rfl (Or.inl rfl) (pe_op (op_addV K rfl) (pv 3) (pe_op op_mulV (pe_dget (hu_of hr) (pe_fldV K rfl (pv 0) rfl) (pv 4) (fun _ _ => rfl)) (pv 5))))))
      (pss_one (ps_ret (pe_ix (ix_VK K rfl) (pe_fldV K rfl (pv 0) rfl) (pe_op op_modN (pv 3) (pe_fldV K rfl (pv 0) rfl)) (fun _ _ => rfl)))))),
    _, run_one (run_assoc (run_set (i := 3) pu_int rfl (wk_uns rfl) fun x1 => (run_assoc (run_seq (ρj := fun (s15 : PV) => [(.fz a_self), (.fz a_factors), (.fz a_exponents), (.fz s15), .un, .un]) (run_for (ρs := fun (s4 : PV) => [(.fz a_self), (.fz a_factors), (.fz a_exponents), (.fz s4), .un, .un]) (s0 := x1) (ρe := fun (s4 : PV) (a5 : PV × PV) => [(.fz a_self), (.fz a_factors), (.fz a_exponents), (.fz s4), (.fz a5.1), (.fz a5.2)]) (it_zip (pu_var rfl) (pu_var rfl)) (.keep (.keep (.keep (.keep (.keep (.keep .nil)))))) (wk_uns rfl) (fun s4 => (tg_2 (i := 4) (j := 5) rfl rfl (Or.inl rfl))) (fun a5 s4 => run_one (run_set (i := 3) (pu_op o2_add (Pur.vw (pu_var rfl)) (Pur.vw (pu_op o2_mul (Pur.vw (pu_dget (Pur.vw (pu_fld T.fl__exponents (Pur.vw (pu_var rfl)))) (Pur.vw (pu_var rfl)))) (Pur.vw (pu_var rfl))))) rfl (wk_uns rfl) fun x12 => (run_next (s := x12) (.keep (.keep (.keep (.keep (.drop (.drop .nil)))))))))) fun s15 => (run_ret (pu_op o2_ix (Pur.vw (pu_fld T.fl__powers (Pur.vw (pu_var rfl)))) (Pur.vw (pu_op o2_mod (Pur.vw (pu_var rfl)) (Pur.vw (pu_fld T.fl_order (Pur.vw (pu_var rfl))))))) rfl rfl (wk_uns rfl)))))), rfl⟩
def m_Key_cover (a_self a_value a_blind : PV) : Res PV := retF ((((Res.val a_self) >>= (fldP cs_group "group")) >>= fun x13 => sel [("PowerGroup", ap3 m_Group_combine), ("TableGroup", ap3 m_Group_combine)] "combine" x13 >>= fun g14 => (((((Res.val a_self) >>= (fldP cs_base "base")) >>= fun x9 => (((Res.val a_self) >>= (fldP cs_blind_base "blind_base")) >>= fun x7 => (Res.val []) >>= fun xs8 => Res.val (x7 :: xs8)) >>= fun xs10 => Res.val (x9 :: xs10)) >>= mkT) >>= fun x11 => ((((Res.val a_value) >>= fun x3 => ((Res.val a_blind) >>= fun x1 => (Res.val []) >>= fun xs2 => Res.val (x1 :: xs2)) >>= fun xs4 => Res.val (x3 :: xs4)) >>= mkT) >>= fun x5 => (Res.val []) >>= fun xs6 => Res.val (x5 :: xs6)) >>= fun xs12 => Res.val (x11 :: xs12)) >>= fun ps15 => g14 (x13 :: ps15)) >>= fun v16 => Res.val (.rt v16 []))
theorem ok_Key_cover (T : Top P K mg) : FnOk P w K mg base (L2.CX P w) 2 T.f_Key_cover T.d_Key_cover ["self", "value", "blind"] (spP K (clT T) (ap3 m_Key_cover)) := by
  have G_Group_combine := ok_Group_combine (P := P) (w := w) (base := base) T
  refine fnP T.F_Key_cover scKey_cover rfl takn3 fun cdv A outer s H E hr qs hq => ?_
  match qs, hq with
  | [a_self, a_value, a_blind], _ => exact ⟨_, (pss_one (ps_ret (PE.either (pe_methT (pe_fldV K rfl (pv 0) rfl) T.cls_PowerGroup T.me_PowerGroup_combine G_Group_combine (hr.mono (by decide)) T.b_Group_combine (fun σ => passAt (takes_of rfl rfl rfl rfl) σ) (pa_cons (pe_tup (pa_cons (pe_fldV K rfl (pv 0) rfl) (pa_cons (pe_fldV K rfl (pv 0) rfl) pa_nil))) (pa_cons (pe_tup (pa_cons (pv 1) (pa_cons (pv 2) pa_nil))) pa_nil))) (pe_methT (pe_fldV K rfl (pv 0) rfl) T.cls_TableGroup T.me_TableGroup_combine G_Group_combine (hr.mono (by decide)) T.b_Group_combine (fun σ => passAt (takes_of rfl rfl rfl rfl) σ) (pa_cons (pe_tup (pa_cons (pe_fldV K rfl (pv 0) rfl) (pa_cons (pe_fldV K rfl (pv 0) rfl) pa_nil))) (pa_cons (pe_tup (pa_cons (pv 1) (pa_cons (pv 2) pa_nil))) pa_nil)))))),
    _, run_one (run_ret (pu_meths (pu_meth T.ce_PowerGroup (pu_fld T.fl_group (Pur.vw (pu_var rfl))) (pl_cons (pu_tup (pl_cons (pu_fld T.fl_base (Pur.vw (pu_var rfl))) (pl_cons (pu_fld T.fl_blind_base (Pur.vw (pu_var rfl))) pl_nil))) (pl_cons (pu_tup (pl_cons (pu_var rfl) (pl_cons (pu_var rfl) pl_nil))) pl_nil))) (pu_meth T.ce_TableGroup (pu_fld T.fl_group (Pur.vw (pu_var rfl))) (pl_cons (pu_tup (pl_cons (pu_fld T.fl_base (Pur.vw (pu_var rfl))) (pl_cons (pu_fld T.fl_blind_base (Pur.vw (pu_var rfl))) pl_nil))) (pl_cons (pu_tup (pl_cons (pu_var rfl) (pl_cons (pu_var rfl) pl_nil))) pl_nil)))) rfl rfl (wk_uns rfl)), rfl⟩
def m_Key_opens (a_self a_cover a_value a_blind : PV) : Res PV := retF ((((Res.val a_self) >>= fun x5 => sel [("Key", ap3 m_Key_cover)] "cover" x5 >>= fun g6 => ((Res.val a_value) >>= fun x3 => ((Res.val a_blind) >>= fun x1 => (Res.val []) >>= fun xs2 => Res.val (x1 :: xs2)) >>= fun xs4 => Res.val (x3 :: xs4)) >>= fun ps7 => g6 (x5 :: ps7)) >>= fun x8 => (Res.val a_cover) >>= fun x9 => eqP x8 x9) >>= fun v10 => Res.val (.rt v10 []))
theorem ok_Key_opens (T : Top P K mg) : FnOk P w K mg base (L2.CX P w) 3 T.f_Key_opens T.d_Key_opens ["self", "cover", "value", "blind"] (spP K (clT T) (ap4 m_Key_opens)) := by
  have G_Key_cover := ok_Key_cover (P := P) (w := w) (base := base) T
  refine fnP T.F_Key_opens scKey_opens rfl takn4 fun cdv A outer s H E hr qs hq => ?_
  match qs, hq with
  | [a_self, a_cover, a_value, a_blind], _ => exact ⟨_, (pss_one (ps_ret (pe_cmpR (op_eqV K rfl hr.units) (pe_methT (pv 0) T.cls_Key T.me_Key_cover G_Key_cover (hr.mono (by decide)) T.b_Key_cover (fun σ => passAt (takes_of rfl rfl rfl rfl) σ) (pa_cons (pv 2) (pa_cons (pv 3) pa_nil))) (pv 1) (nomark _)))),
    _, run_one (run_ret (pu_op o2_eq (Pur.vw (pu_meth T.ce_Key (pu_var rfl) (pl_cons (pu_var rfl) (pl_cons (pu_var rfl) pl_nil)))) (Pur.vw (pu_var rfl))) rfl rfl (wk_uns rfl)), rfl⟩
def m_Group_power (a_self a_element a_exponent : PV) : Res PV := retF ((((Res.val a_self) >>= (fldP cs__powers "_powers")) >>= fun x7 => (((((Res.val a_self) >>= (fldP cs__exponents "_exponents")) >>= fun x1 => (Res.val a_element) >>= fun x2 => dgetP x1 x2) >>= fun x3 => (Res.val a_exponent) >>= fun x4 => mulP x3 x4) >>= fun x5 => ((Res.val a_self) >>= (fldP cs_order "order")) >>= fun x6 => modP x5 x6) >>= fun x8 => ixP x7 x8) >>= fun v9 => Res.val (.rt v9 []))
theorem ok_Group_power (T : Top P K mg) : FnOk P w K mg base (L2.CX P w) 1 T.f_Group_power T.d_Group_power ["self", "element", "exponent"] (spP K (clT T) (ap3 m_Group_power)) := by
  refine fnP T.F_Group_power scGroup_power rfl takn3 fun cdv A outer s H E hr qs hq => ?_
  match qs, hq with
  | [a_self, a_element, a_exponent], _ => exact ⟨_, (pss_one (ps_ret (pe_ix (ix_VK K rfl) (pe_fldV K rfl (pv 0) rfl) (pe_op op_modN (pe_op op_mulV (pe_dget (hu_of hr) (pe_fldV K rfl (pv 0) rfl) (pv 1) (fun _ _ => rfl)) (pv 2)) (pe_fldV K rfl (pv 0) rfl)) (fun _ _ => rfl)))),
    _, run_one (run_ret (pu_op o2_ix (Pur.vw (pu_fld T.fl__powers (Pur.vw (pu_var rfl)))) (Pur.vw (pu_op o2_mod (Pur.vw (pu_op o2_mul (Pur.vw (pu_dget (Pur.vw (pu_fld T.fl__exponents (Pur.vw (pu_var rfl)))) (Pur.vw (pu_var rfl)))) (Pur.vw (pu_var rfl)))) (Pur.vw (pu_fld T.fl_order (Pur.vw (pu_var rfl))))))) rfl rfl (wk_uns rfl)), rfl⟩
def m_Group_inverse_of (a_self a_element : PV) : Res PV := retF (((Res.val a_self) >>= fun x5 => sel [("PowerGroup", ap3 m_Group_power), ("TableGroup", ap3 m_Group_power)] "power" x5 >>= fun g6 => ((Res.val a_element) >>= fun x3 => (((Res.val (PV.int 1)) >>= negP) >>= fun x1 => (Res.val []) >>= fun xs2 => Res.val (x1 :: xs2)) >>= fun xs4 => Res.val (x3 :: xs4)) >>= fun ps7 => g6 (x5 :: ps7)) >>= fun v8 => Res.val (.rt v8 []))
theorem ok_Group_inverse_of (T : Top P K mg) : FnOk P w K mg base (L2.CX P w) 2 T.f_Group_inverse_of T.d_Group_inverse_of ["self", "element"] (spP K (clT T) (ap2 m_Group_inverse_of)) := by
  have G_Group_power := ok_Group_power (P := P) (w := w) (base := base) T
  refine fnP T.F_Group_inverse_of scGroup_inverse_of rfl takn2 fun cdv A outer s H E hr qs hq => ?_
  match qs, hq with
  | [a_self, a_element], _ => exact ⟨_, (pss_one (ps_ret (PE.either (pe_methT (pv 0) T.cls_PowerGroup T.me_PowerGroup_power G_Group_power (hr.mono (by decide)) T.b_Group_power (fun σ => passAt (takes_of rfl rfl rfl rfl) σ) (pa_cons (pv 1) (pa_cons (pe_un un_neg pe_int) pa_nil))) (pe_methT (pv 0) T.cls_TableGroup T.me_TableGroup_power G_Group_power (hr.mono (by decide)) T.b_Group_power (fun σ => passAt (takes_of rfl rfl rfl rfl) σ) (pa_cons (pv 1) (pa_cons (pe_un un_neg pe_int) pa_nil)))))),
    _, run_one (run_ret (pu_meths (pu_meth T.ce_PowerGroup (pu_var rfl) (pl_cons (pu_var rfl) (pl_cons (pu_un o1_neg (Pur.vw pu_int)) pl_nil))) (pu_meth T.ce_TableGroup (pu_var rfl) (pl_cons (pu_var rfl) (pl_cons (pu_un o1_neg (Pur.vw pu_int)) pl_nil)))) rfl rfl (wk_uns rfl)), rfl⟩
def m_divide (a_group a_first a_second : PV) : Res PV := retF (((Res.val a_group) >>= fun x10 => sel [("PowerGroup", ap3 m_PowerGroup_multiply), ("TableGroup", ap3 m_TableGroup_multiply)] "multiply" x10 >>= fun g11 => ((Res.val a_first) >>= fun x8 => (((Res.val a_group) >>= fun x3 => sel [("PowerGroup", ap2 m_Group_inverse_of), ("TableGroup", ap2 m_Group_inverse_of)] "inverse_of" x3 >>= fun g4 => ((Res.val a_second) >>= fun x1 => (Res.val []) >>= fun xs2 => Res.val (x1 :: xs2)) >>= fun ps5 => g4 (x3 :: ps5)) >>= fun x6 => (Res.val []) >>= fun xs7 => Res.val (x6 :: xs7)) >>= fun xs9 => Res.val (x8 :: xs9)) >>= fun ps12 => g11 (x10 :: ps12)) >>= fun v13 => Res.val (.rt v13 []))
theorem ok_divide (T : Top P K mg) : FnOk P w K mg base (L2.CX P w) 3 T.f_divide T.d_divide ["group", "first", "second"] (spP K (clT T) (ap3 m_divide)) := by
  have G_PowerGroup_multiply := ok_PowerGroup_multiply (P := P) (w := w) (base := base) T
  have G_TableGroup_multiply := ok_TableGroup_multiply (P := P) (w := w) (base := base) T
  have G_Group_inverse_of := ok_Group_inverse_of (P := P) (w := w) (base := base) T
  refine fnP T.F_divide scdivide rfl takn3 fun cdv A outer s H E hr qs hq => ?_
  match qs, hq with
  | [a_group, a_first, a_second], _ => exact ⟨_, (pss_one (ps_ret (PE.either (pe_methT (pv 0) T.cls_PowerGroup T.me_PowerGroup_multiply G_PowerGroup_multiply (hr.mono (by decide)) T.b_PowerGroup_multiply (fun σ => passAt (takes_of rfl rfl rfl rfl) σ) (pa_cons (pv 1) (pa_cons (PE.either (pe_methT (pv 0) T.cls_PowerGroup T.me_PowerGroup_inverse_of G_Group_inverse_of (hr.mono (by decide)) T.b_Group_inverse_of (fun σ => passAt (takes_of rfl rfl rfl rfl) σ) (pa_cons (pv 2) pa_nil)) (pe_methT (pv 0) T.cls_TableGroup T.me_TableGroup_inverse_of G_Group_inverse_of (hr.mono (by decide)) T.b_Group_inverse_of (fun σ => passAt (takes_of rfl rfl rfl rfl) σ) (pa_cons (pv 2) pa_nil))) pa_nil))) (pe_methT (pv 0) T.cls_TableGroup T.me_TableGroup_multiply G_TableGroup_multiply (hr.mono (by decide)) T.b_TableGroup_multiply (fun σ => passAt (takes_of rfl rfl rfl rfl) σ) (pa_cons (pv 1) (pa_cons (PE.either (pe_methT (pv 0) T.cls_PowerGroup T.me_PowerGroup_inverse_of G_Group_inverse_of (hr.mono (by decide)) T.b_Group_inverse_of (fun σ => passAt (takes_of rfl rfl rfl rfl) σ) (pa_cons (pv 2) pa_nil)) (pe_methT (pv 0) T.cls_TableGroup T.me_TableGroup_inverse_of G_Group_inverse_of (hr.mono (by decide)) T.b_Group_inverse_of (fun σ => passAt (takes_of rfl rfl rfl rfl) σ) (pa_cons (pv 2) pa_nil))) pa_nil)))))),
    _, run_one (run_ret (pu_meths (pu_meth T.ce_PowerGroup (pu_var rfl) (pl_cons (pu_var rfl) (pl_cons (pu_meths (pu_meth T.ce_PowerGroup (pu_var rfl) (pl_cons (pu_var rfl) pl_nil)) (pu_meth T.ce_TableGroup (pu_var rfl) (pl_cons (pu_var rfl) pl_nil))) pl_nil))) (pu_meth T.ce_TableGroup (pu_var rfl) (pl_cons (pu_var rfl) (pl_cons (pu_meths (pu_meth T.ce_PowerGroup (pu_var rfl) (pl_cons (pu_var rfl) pl_nil)) (pu_meth T.ce_TableGroup (pu_var rfl) (pl_cons (pu_var rfl) pl_nil))) pl_nil)))) rfl rfl (wk_uns rfl)), rfl⟩
def m_Key_hiding (a_self : PV) : Res PV := retF ((((Res.val a_self) >>= (fldP cs__relation "_relation")) >>= fun x1 => (Res.val (PV.int 0)) >>= fun x2 => neP x1 x2) >>= fun v3 => Res.val (.rt v3 []))
theorem ok_Key_hiding (T : Top P K mg) : FnOk P w K mg base (L2.CX P w) 1 T.f_Key_hiding T.d_Key_hiding ["self"] (spP K (clT T) (ap1 m_Key_hiding)) := by
  refine fnP T.F_Key_hiding scKey_hiding rfl takn1 fun cdv A outer s H E hr qs hq => ?_
  match qs, hq with
  | [a_self], _ => exact ⟨_, (pss_one (ps_ret (pe_cmpR (op_neV K rfl hr.units) (pe_fldV K rfl (pv 0) rfl) pe_int (nomark _)))),
    _, run_one (run_ret (pu_op o2_ne (Pur.vw (pu_fld T.fl__relation (Pur.vw (pu_var rfl)))) (Pur.vw pu_int)) rfl rfl (wk_uns rfl)), rfl⟩
def m_Key_blind_for (a_self a_cover a_value : PV) : Res PV := retF (((((Res.val a_self) >>= fun x1 => sel [("Key", ap1 m_Key_hiding)] "hiding" x1 >>= fun g2 => noX (g2 [x1])) >>= asB) >>= fun b3 => Res.val (!b3)) >>= fun b4 => if b4 = true then (Res.exc "OpenKey") else ((((Res.val a_self) >>= (fldP cs_group "group")) >>= fun x12 => (Res.val a_cover) >>= fun x13 => (((Res.val a_self) >>= (fldP cs_group "group")) >>= fun x9 => sel [("PowerGroup", ap3 m_Group_power), ("TableGroup", ap3 m_Group_power)] "power" x9 >>= fun g10 => (((Res.val a_self) >>= (fldP cs_base "base")) >>= fun x7 => ((Res.val a_value) >>= fun x5 => (Res.val []) >>= fun xs6 => Res.val (x5 :: xs6)) >>= fun xs8 => Res.val (x7 :: xs8)) >>= fun ps11 => g10 (x9 :: ps11)) >>= fun x14 => m_divide x12 x13 x14) >>= fun x15 => ((((Res.val a_self) >>= (fldP cs_group "group")) >>= fun x20 => sel [("PowerGroup", ap3 m_Group_log), ("TableGroup", ap3 m_Group_log)] "log" x20 >>= fun g21 => (((Res.val a_self) >>= (fldP cs_blind_base "blind_base")) >>= fun x18 => ((Res.val x15) >>= fun x16 => (Res.val []) >>= fun xs17 => Res.val (x16 :: xs17)) >>= fun xs19 => Res.val (x18 :: xs19)) >>= fun ps22 => g21 (x20 :: ps22)) >>= fun v23 => Res.val (.rt v23 []))))
theorem ok_Key_blind_for (T : Top P K mg) : FnOk P w K mg base (L2.CX P w) 4 T.f_Key_blind_for T.d_Key_blind_for ["self", "cover", "value"] (spP K (clT T) (ap3 m_Key_blind_for)) := by
  have G_divide := ok_divide (P := P) (w := w) (base := base) T
  have G_Group_log := ok_Group_log (P := P) (w := w) (base := base) T
  have G_Key_hiding := ok_Key_hiding (P := P) (w := w) (base := base) T
  have G_Group_power := ok_Group_power (P := P) (w := w) (base := base) T
  refine fnP T.F_Key_blind_for scKey_blind_for rfl takn3 fun cdv A outer s H E hr qs hq => ?_
  match qs, hq with
  | [a_self, a_cover, a_value], _ => exact ⟨_, (pss_cons (ps_if (pt_not (pt_val (pe_prop (pv 0) T.cls_Key T.po_Key_hiding G_Key_hiding (hr.mono (by decide)) T.b_Key_hiding .nil passes_no rfl))) (pss_one (ps_raise rfl (takes_of rfl rfl rfl rfl) (pmk_own0 PySem.F.excBase_ValueError T.x_OpenKey T.m_OpenKey T.kc_OpenKey (raises_own T.s_OpenKey T.t_OpenKey) rfl))) pss_nil)
      (pss_cons (ps_set (i := 3) scKey_blind_for.nd rfl (Or.inl rfl) (pe_callS G_divide (hr.mono (by decide)) (by rfl) T.m_divide T.F_divide.kp T.b_divide (fun σ => passAt (takes_of rfl rfl rfl rfl) σ) (pa_cons (pe_fldV K rfl (pv 0) rfl) (pa_cons (pv 1) (pa_cons (PE.either (pe_methT (pe_fldV K rfl (pv 0) rfl) T.cls_PowerGroup T.me_PowerGroup_power G_Group_power (hr.mono (by decide)) T.b_Group_power (fun σ => passAt (takes_of rfl rfl rfl rfl) σ) (pa_cons (pe_fldV K rfl (pv 0) rfl) (pa_cons (pv 2) pa_nil))) (pe_methT (pe_fldV K rfl (pv 0) rfl) T.cls_TableGroup T.me_TableGroup_power G_Group_power (hr.mono (by decide)) T.b_Group_power (fun σ => passAt (takes_of rfl rfl rfl rfl) σ) (pa_cons (pe_fldV K rfl (pv 0) rfl) (pa_cons (pv 2) pa_nil)))) pa_nil)))))
      (pss_one (ps_ret (PE.either (pe_methT (pe_fldV K rfl (pv 0) rfl) T.cls_PowerGroup T.me_PowerGroup_log G_Group_log (hr.mono (by decide)) T.b_Group_log (fun σ => passAt (takes_of rfl rfl rfl rfl) σ) (pa_cons (pe_fldV K rfl (pv 0) rfl) (pa_cons (pv 3) pa_nil))) (pe_methT (pe_fldV K rfl (pv 0) rfl) T.cls_TableGroup T.me_TableGroup_log G_Group_log (hr.mono (by decide)) T.b_Group_log (fun σ => passAt (takes_of rfl rfl rfl rfl) σ) (pa_cons (pe_fldV K rfl (pv 0) rfl) (pa_cons (pv 3) pa_nil)))))))),
    _, run_one (run_assoc (run_if (ts_not (ts_val (Pur.vw (pu_prop T.ce_Key (pu_var rfl))))) (wk_uns rfl) (run_raise T.ce_OpenKey (wk_uns rfl)) (run_skip (run_assoc (run_set (i := 3) (pu_call3 (pu_fld T.fl_group (Pur.vw (pu_var rfl))) (pu_var rfl) (pu_meths (pu_meth T.ce_PowerGroup (pu_fld T.fl_group (Pur.vw (pu_var rfl))) (pl_cons (pu_fld T.fl_base (Pur.vw (pu_var rfl))) (pl_cons (pu_var rfl) pl_nil))) (pu_meth T.ce_TableGroup (pu_fld T.fl_group (Pur.vw (pu_var rfl))) (pl_cons (pu_fld T.fl_base (Pur.vw (pu_var rfl))) (pl_cons (pu_var rfl) pl_nil))))) rfl (wk_uns rfl) fun x15 => (run_ret (pu_meths (pu_meth T.ce_PowerGroup (pu_fld T.fl_group (Pur.vw (pu_var rfl))) (pl_cons (pu_fld T.fl_blind_base (Pur.vw (pu_var rfl))) (pl_cons (pu_var rfl) pl_nil))) (pu_meth T.ce_TableGroup (pu_fld T.fl_group (Pur.vw (pu_var rfl))) (pl_cons (pu_fld T.fl_blind_base (Pur.vw (pu_var rfl))) (pl_cons (pu_var rfl) pl_nil)))) rfl rfl (wk_uns rfl))))))), rfl⟩
def m_Key_count_openings (a_self a_cover a_value : PV) : Res PV := retF ((((Res.val a_self) >>= fun x1 => sel [("Key", ap1 m_Key_hiding)] "hiding" x1 >>= fun g2 => noX (g2 [x1])) >>= asB) >>= fun b3 => if b3 = true then ((Res.val (PV.int 1)) >>= fun v4 => Res.val (.rt v4 [])) else (((((Res.val a_self) >>= fun x11 => sel [("Key", ap4 m_Key_opens)] "opens" x11 >>= fun g12 => ((Res.val a_cover) >>= fun x9 => ((Res.val a_value) >>= fun x7 => ((Res.val (PV.int 0)) >>= fun x5 => (Res.val []) >>= fun xs6 => Res.val (x5 :: xs6)) >>= fun xs8 => Res.val (x7 :: xs8)) >>= fun xs10 => Res.val (x9 :: xs10)) >>= fun ps13 => g12 (x11 :: ps13)) >>= asB) >>= fun b14 => if b14 = true then (((Res.val a_self) >>= (fldP cs_group "group")) >>= (fldP cs_order "order")) else (Res.val (PV.int 0))) >>= fun v15 => Res.val (.rt v15 [])))
theorem ok_Key_count_openings (T : Top P K mg) : FnOk P w K mg base (L2.CX P w) 4 T.f_Key_count_openings T.d_Key_count_openings ["self", "cover", "value"] (spP K (clT T) (ap3 m_Key_count_openings)) := by
  have G_Key_hiding := ok_Key_hiding (P := P) (w := w) (base := base) T
  have G_Key_opens := ok_Key_opens (P := P) (w := w) (base := base) T
  refine fnP T.F_Key_count_openings scKey_count_openings rfl takn3 fun cdv A outer s H E hr qs hq => ?_
  match qs, hq with
  | [a_self, a_cover, a_value], _ => exact ⟨_, (pss_cons (ps_if (pt_val (pe_prop (pv 0) T.cls_Key T.po_Key_hiding G_Key_hiding (hr.mono (by decide)) T.b_Key_hiding .nil passes_no rfl)) (pss_one (ps_ret pe_int)) pss_nil)
      (pss_one (ps_ret (pe_ifExp (pt_val (pe_methT (pv 0) T.cls_Key T.me_Key_opens G_Key_opens (hr.mono (by decide)) T.b_Key_opens (fun σ => passAt (takes_of rfl rfl rfl rfl) σ) (pa_cons (pv 1) (pa_cons (pv 2) (pa_cons pe_int pa_nil))))) (pe_fldV K rfl (pe_fldV K rfl (pv 0) rfl) rfl) pe_int)))),
    _, run_one (run_assoc (run_if (ts_val (Pur.vw (pu_prop T.ce_Key (pu_var rfl)))) (wk_uns rfl) (run_ret pu_int rfl rfl (wk_uns rfl)) (run_skip (run_ret (pu_if (ts_val (Pur.vw (pu_meth T.ce_Key (pu_var rfl) (pl_cons (pu_var rfl) (pl_cons (pu_var rfl) (pl_cons pu_int pl_nil)))))) (pu_fld T.fl_order (Pur.vw (pu_fld T.fl_group (Pur.vw (pu_var rfl))))) pu_int) rfl rfl (wk_uns rfl))))), rfl⟩
def m_law (ns : List Int) : Res PV := retF ((((Res.val (PV.fls (List.map PV.int ns))) >>= fun x1 => (Res.val []) >>= fun xs2 => Res.val (x1 :: xs2)) >>= fun ps3 => noX (apN1 m__law_pool ps3) >>= moD) >>= fun d4 => (noX ((fun (s5 : List (Key × PV)) => (fun (s9 : List (Key × PV)) => (fun (s7 : List (Key × PV)) => noX (Res.val (PV.int 127)) >>= fun v8 => Res.val (v8, s7)) s9 >>= fun x10 => (fun (s6 : List (Key × PV)) => Res.val (([] : List PV), s6)) x10.2 >>= fun xs11 => Res.val (x10.1 :: xs11.1, xs11.2)) s5 >>= fun x17 => m__law_world ((fun (s13 : List (Key × PV)) => [MO.dct s13]) x17.2) x17.1 >>= fun r18 => ((fun (s14 : List (Key × PV)) (ms16 : List MO) => mos1 moD ms16 >>= fun l15 => Res.val l15) x17.2 r18.2) >>= fun s19 => Res.val (r18.1, s19)) d4) >>= fun r22 => moD r22.1 >>= fun d20 => (fun (d20 : List (Key × PV)) (s21 : List (Key × PV)) => (((Res.val (PV.dct d20)) >>= fun x23 => (Res.val (PV.str "q")) >>= fun x24 => dgetP x23 x24) >>= fun x25 => (noX ((fun (s27 : List (Key × PV) × List (Key × PV)) => (fun (s31 : List (Key × PV) × List (Key × PV)) => (fun (s29 : List (Key × PV) × List (Key × PV)) => noX (Res.val (PV.bl true)) >>= fun v30 => Res.val (v30, s29)) s31 >>= fun x32 => (fun (s28 : List (Key × PV) × List (Key × PV)) => Res.val (([] : List PV), s28)) x32.2 >>= fun xs33 => Res.val (x32.1 :: xs33.1, xs33.2)) s27 >>= fun x40 => m__law_key ((fun (s36 : List (Key × PV) × List (Key × PV)) => [MO.dct s36.1, MO.dct s36.2]) x40.2) x40.1 >>= fun r41 => ((fun (s37 : List (Key × PV) × List (Key × PV)) (ms39 : List MO) => mos2 moD moD ms39 >>= fun l38 => Res.val (l38.1, l38.2)) x40.2 r41.2) >>= fun s42 => Res.val (r41.1, s42)) (s21, d20)) >>= fun r45 => (fun (x43 : PV) (s44 : List (Key × PV) × List (Key × PV)) => (seqF (S1 := List (Key × PV)) (((Res.val (PV.int 4)) >>= rng1) >>= fun ps201 => forF (fun (x202 : PV) (s46 : List (Key × PV)) => (fun x => Res.val x) x202 >>= fun (a47 : PV) => (noX ((fun (s48 : List (Key × PV)) => (fun (s52 : List (Key × PV)) => (fun (s49 : List (Key × PV)) => noX (Res.val x25) >>= fun v50 => Res.val (v50, s49)) s52 >>= fun x53 => (fun (s51 : List (Key × PV)) => Res.val (([] : List PV), s51)) x53.2 >>= fun xs54 => Res.val (x53.1 :: xs54.1, xs54.2)) s48 >>= fun x55 => (apR1 m__law_take) (MO.dct x55.2) x55.1 >>= fun r56 => ((fun (s48 : List (Key × PV)) (mo : MO) => moD mo >>= fun l => Res.val l) x55.2 r56.2) >>= fun s57 => Res.val (r56.1, s57)) s46) >>= fun r60 => (fun (x58 : PV) (s59 : List (Key × PV)) => (((Res.val (PV.dct s44.2)) >>= fun x61 => (Res.val x58) >>= fun x62 => m__law_member x61 x62) >>= fun x63 => (noX ((fun (s64 : List (Key × PV)) => (fun (s68 : List (Key × PV)) => (fun (s65 : List (Key × PV)) => noX (Res.val x25) >>= fun v66 => Res.val (v66, s65)) s68 >>= fun x69 => (fun (s67 : List (Key × PV)) => Res.val (([] : List PV), s67)) x69.2 >>= fun xs70 => Res.val (x69.1 :: xs70.1, xs70.2)) s64 >>= fun x71 => (apR1 m__law_number) (MO.dct x71.2) x71.1 >>= fun r72 => ((fun (s64 : List (Key × PV)) (mo : MO) => moD mo >>= fun l => Res.val l) x71.2 r72.2) >>= fun s73 => Res.val (r72.1, s73)) s59) >>= fun r76 => (fun (x74 : PV) (s75 : List (Key × PV)) => (((Res.val (PV.dct s44.2)) >>= fun x77 => (Res.val x58) >>= fun x78 => (Res.val x74) >>= fun x79 => m__law_blind x77 x78 x79) >>= fun x80 => ((((((Res.val x43) >>= fun x85 => sel [("Key", ap3 m_Key_blind_for)] "blind_for" x85 >>= fun g86 => (Res.val []) >>= fun ps87 => ((Res.val x63) >>= fun x83 => ((Res.val x74) >>= fun x81 => (Res.val []) >>= fun xs82 => Res.val (x81 :: xs82)) >>= fun xs84 => Res.val (x83 :: xs84)) >>= fun qs88 => g86 (g_Key_blind_for_1_cover_value (x85 :: ps87) qs88)) >>= fun x89 => (Res.val x80) >>= fun x90 => (m__law_same 3) x89 x90) >>= asB) >>= fun b91 => Res.val (!b91)) >>= fun b92 => if b92 = true then ((Res.val (PV.bl false)) >>= fun v93 => Res.val (.rt v93 [])) else ((((((Res.val x43) >>= fun x98 => sel [("Key", ap3 m_Key_count_openings)] "count_openings" x98 >>= fun g99 => (Res.val []) >>= fun ps100 => ((Res.val x63) >>= fun x96 => ((Res.val x74) >>= fun x94 => (Res.val []) >>= fun xs95 => Res.val (x94 :: xs95)) >>= fun xs97 => Res.val (x96 :: xs97)) >>= fun qs101 => g99 (g_Key_count_openings_1_cover_value (x98 :: ps100) qs101)) >>= fun x102 => (Res.val (PV.int 1)) >>= fun x103 => (m__law_same 3) x102 x103) >>= asB) >>= fun b104 => Res.val (!b104)) >>= fun b105 => if b105 = true then ((Res.val (PV.bl false)) >>= fun v106 => Res.val (.rt v106 [])) else (noX ((fun (s107 : List (Key × PV)) => (fun (s143 : List (Key × PV)) => (fun (s108 : List (Key × PV)) => noX (Res.val x80) >>= fun v109 => Res.val (v109, s108)) s143 >>= fun x144 => (fun (s140 : List (Key × PV)) => (fun (s110 : List (Key × PV)) => (fun (s111 : List (Key × PV)) => (fun (s112 : List (Key × PV)) => (fun (s113 : List (Key × PV)) => noX ((Res.val x80) >>= fun x114 => (Res.val (PV.int 1)) >>= fun x115 => addP x114 x115) >>= fun v116 => Res.val (v116, s113)) s112 >>= fun x129 => (fun (s117 : List (Key × PV)) => (fun (s123 : List (Key × PV)) => (fun (s118 : List (Key × PV)) => noX ((Res.val x25) >>= fun x119 => (Res.val (PV.int 1)) >>= fun x120 => subP x119 x120) >>= fun v121 => Res.val (v121, s118)) s123 >>= fun x124 => (fun (s122 : List (Key × PV)) => Res.val (([] : List PV), s122)) x124.2 >>= fun xs125 => Res.val (x124.1 :: xs125.1, xs125.2)) s117 >>= fun x126 => (apR1 m__law_take) (MO.dct x126.2) x126.1 >>= fun r127 => ((fun (s117 : List (Key × PV)) (mo : MO) => moD mo >>= fun l => Res.val l) x126.2 r127.2) >>= fun s128 => Res.val (r127.1, s128)) x129.2 >>= fun x130 => noX (addP x129.1 x130.1) >>= fun z131 => Res.val (z131, x130.2)) s111 >>= fun x132 => noX (intP x132.1) >>= fun z133 => Res.val (z133, x132.2)) s110 >>= fun x136 => (fun (s134 : List (Key × PV)) => noX (Res.val x25) >>= fun v135 => Res.val (v135, s134)) x136.2 >>= fun x137 => noX (modP x136.1 x137.1) >>= fun z138 => Res.val (z138, x137.2)) s140 >>= fun x141 => (fun (s139 : List (Key × PV)) => Res.val (([] : List PV), s139)) x141.2 >>= fun xs142 => Res.val (x141.1 :: xs142.1, xs142.2)) x144.2 >>= fun xs145 => Res.val (x144.1 :: xs145.1, xs145.2)) s107 >>= fun x146 => mkL x146.1 >>= fun z147 => Res.val (z147, x146.2)) s75) >>= fun r150 => (fun (x148 : PV) (s149 : List (Key × PV)) => (seqF (S1 := PV) ((((Res.val x25) >>= fun x151 => (Res.val (PV.int 14)) >>= fun x152 => ltP x151 x152) >>= asB) >>= fun b153 => if b153 = true then ((((Res.val x25) >>= partP >>= fun i155 => Res.val ((0 : Int), i155)) >>= fun x157 => rgL x157.1 x157.2 >>= fun l158 => Res.val (PV.lst l158)) >>= fun x159 => (Res.val (.nx x159))) else (Res.val (.nx x148))) fun s154 => (seqF (S1 := Unit) (((Res.val s154) >>= asSq) >>= fun ps183 => forF (fun (x184 : PV) (s160 : Unit) => (fun x => Res.val x) x184 >>= fun (a161 : PV) => (((Res.val x43) >>= fun x168 => sel [("Key", ap4 m_Key_opens)] "opens" x168 >>= fun g169 => (Res.val []) >>= fun ps170 => ((Res.val x63) >>= fun x166 => ((Res.val x74) >>= fun x164 => ((Res.val a161) >>= fun x162 => (Res.val []) >>= fun xs163 => Res.val (x162 :: xs163)) >>= fun xs165 => Res.val (x164 :: xs165)) >>= fun xs167 => Res.val (x166 :: xs167)) >>= fun qs171 => g169 (g_Key_opens_1_cover_value_blind (x168 :: ps170) qs171)) >>= fun x172 => ((((((Res.val x172) >>= fun x177 => (Res.val (PV.ty "bool")) >>= fun x178 => isiP x177 x178) >>= asB) >>= fun b179 => Res.val (!b179)) >>= fun b180 => if b180 = true then Res.val true else (((Res.val x172) >>= fun x175 => ((Res.val a161) >>= fun x173 => (Res.val x80) >>= fun x174 => eqP x173 x174) >>= fun x176 => neP x175 x176) >>= asB)) >>= fun b181 => if b181 = true then ((Res.val (PV.bl false)) >>= fun v182 => Res.val (.rt v182 [])) else (Res.val (.nx ()))))) ps183 ()) fun s185 => ((((((Res.val x43) >>= fun x190 => sel [("Key", ap3 m_Key_cover)] "cover" x190 >>= fun g191 => ((Res.val x74) >>= fun x188 => ((Res.val x80) >>= fun x186 => (Res.val []) >>= fun xs187 => Res.val (x186 :: xs187)) >>= fun xs189 => Res.val (x188 :: xs189)) >>= fun ps192 => g191 (x190 :: ps192)) >>= fun x193 => (Res.val x63) >>= fun x194 => (m__law_same 3) x193 x194) >>= asB) >>= fun b195 => Res.val (!b195)) >>= fun b196 => if b196 = true then ((Res.val (PV.bl false)) >>= fun v197 => Res.val (.rt v197 [])) else (Res.val (.nx s149)))))) r150.1 r150.2))))) r76.1 r76.2))) r60.1 r60.2)) ps201 s44.1) fun s203 => ((Res.val (PV.bl true)) >>= fun v204 => Res.val (.rt v204 [])))) r45.1 r45.2))) d20 r22.2))
theorem ok_law (T : Top P K mg) (hl : ∀ ns : List Int, ns.length ≤ 63 → m_law ns = .val (.bl true)) : FnOk P w K mg base CX0 10 T.f_law T.d_law ["script"] (spLaw K) := by
  have G__law_pool := ok__law_pool (P := P) (w := w) (base := base) T
  have G__law_world := ok__law_world (P := P) (w := w) (base := base) T
  have G__law_key := ok__law_key (P := P) (w := w) (base := base) T
  have G__law_take := ok__law_take (P := P) (w := w) (base := base) T
  have G__law_member := ok__law_member (P := P) (w := w) (base := base) T
  have G__law_number := ok__law_number (P := P) (w := w) (base := base) T
  have G__law_blind := ok__law_blind (P := P) (w := w) (base := base) T
  have G__law_same := ok__law_same (P := P) (w := w) (base := base) T 3
  have G_Key_opens := ok_Key_opens (P := P) (w := w) (base := base) T
  have G_Key_blind_for := ok_Key_blind_for (P := P) (w := w) (base := base) T
  have G_Key_count_openings := ok_Key_count_openings (P := P) (w := w) (base := base) T
  have G_Key_cover := ok_Key_cover (P := P) (w := w) (base := base) T
  refine fnLaw (cl := clT T) T.F_law sclaw hl fun cdv A outer s H E hr ns => ?_
  exact ⟨_, (pss_cons (ps_set (i := 1) sclaw.nd rfl (Or.inl rfl) (pe_callS G__law_pool (hr.mono (by decide)) (by rfl) T.m__law_pool T.F__law_pool.kp T.b__law_pool (fun σ => passAt takes0 σ) (pa_cons (pv 0) pa_nil)))
      (pss_cons (ps_set (i := 2) sclaw.nd rfl (Or.inl rfl) (pe_callS G__law_world (hr.mono (by decide)) (by rfl) T.m__law_world T.F__law_world.kp T.b__law_world (fun σ => passAt takes0 σ) (pa_cons (pv 1) (pa_cons pe_int pa_nil))))
      (pss_cons (ps_set (i := 3) sclaw.nd rfl (Or.inl rfl) (pe_dget (hu_of hr) (pv 2) pe_str (fun _ _ => rfl)))
      (pss_cons (ps_set (i := 4) sclaw.nd rfl (Or.inl rfl) (pe_callS G__law_key (hr.mono (by decide)) (by rfl) T.m__law_key T.F__law_key.kp T.b__law_key (fun σ => passAt takes0 σ) (pa_cons (pv 1) (pa_cons (pv 2) (pa_cons pe_bl pa_nil)))))
      (pss_cons (ps_for PassesOwn.never rfl (pi_range1 (by rfl) T.z_range (pa_cons pe_int pa_nil)) (pg_name (i := 5) sclaw.nd rfl (Or.inl rfl)) (pss_cons (ps_set (i := 6) sclaw.nd rfl (Or.inl rfl) (pe_callS G__law_take (hr.mono (by decide)) (by rfl) T.m__law_take T.F__law_take.kp T.b__law_take (fun σ => passAt takes0 σ) (pa_cons (pv 1) (pa_cons (pv 3) pa_nil))))
      (pss_cons (ps_set (i := 7) sclaw.nd rfl (Or.inl rfl) (pe_callS G__law_member (hr.mono (by decide)) (by rfl) T.m__law_member T.F__law_member.kp T.b__law_member (fun σ => passAt takes0 σ) (pa_cons (pv 2) (pa_cons (pv 6) pa_nil))))
      (pss_cons (ps_set (i := 8) sclaw.nd rfl (Or.inl rfl) (pe_callS G__law_number (hr.mono (by decide)) (by rfl) T.m__law_number T.F__law_number.kp T.b__law_number (fun σ => passAt takes0 σ) (pa_cons (pv 1) (pa_cons (pv 3) pa_nil))))
      (pss_cons (ps_set (i := 9) sclaw.nd rfl (Or.inl rfl) (pe_callS G__law_blind (hr.mono (by decide)) (by rfl) T.m__law_blind T.F__law_blind.kp T.b__law_blind (fun σ => passAt takes0 σ) (pa_cons (pv 2) (pa_cons (pv 6) (pa_cons (pv 8) pa_nil)))))
      (pss_cons (ps_if (pt_not (pt_val (pe_callS G__law_same (hr.mono (by decide)) (by rfl) T.m__law_same T.F__law_same.kp T.b__law_same (fun σ => passAt takes0 σ) (pa_cons (pe_methKS0 (pv 4) T.cls_Key T.me_Key_blind_for G_Key_blind_for (hr.mono (by decide)) T.k_Key_blind_for_1_cover_value (fun σ => passAt takes0 σ) (pk_cons (pv 7) (pk_cons (pv 8) pk_nil))) (pa_cons (pv 9) pa_nil))))) (pss_one (ps_ret pe_bl)) pss_nil)
      (pss_cons (ps_if (pt_not (pt_val (pe_callS G__law_same (hr.mono (by decide)) (by rfl) T.m__law_same T.F__law_same.kp T.b__law_same (fun σ => passAt takes0 σ) (pa_cons (pe_methKS0 (pv 4) T.cls_Key T.me_Key_count_openings G_Key_count_openings (hr.mono (by decide)) T.k_Key_count_openings_1_cover_value (fun σ => passAt takes0 σ) (pk_cons (pv 7) (pk_cons (pv 8) pk_nil))) (pa_cons pe_int pa_nil))))) (pss_one (ps_ret pe_bl)) pss_nil)
      (pss_cons (ps_set (i := 10) sclaw.nd rfl (Or.inl rfl) (pe_lst (pa_cons (pv 9) (pa_cons (pe_op op_modN (pe_callTy call_intV (by rfl) T.z_int (by decide +kernel) (pa_cons (pe_op (op_addV K rfl) (pe_op (op_addV K rfl) (pv 9) pe_int) (pe_callS G__law_take (hr.mono (by decide)) (by rfl) T.m__law_take T.F__law_take.kp T.b__law_take (fun σ => passAt takes0 σ) (pa_cons (pv 1) (pa_cons (pe_op op_sub (pv 3) pe_int) pa_nil)))) pa_nil)) (pv 3)) pa_nil))))
      (pss_cons (ps_if (pt_cmpR op_lt (pv 3) pe_int (nomark _)) (pss_one (ps_set (i := 10) sclaw.nd rfl (Or.inl rfl) (pe_listRg rfl (by rfl) T.z_list (prg_1 (by rfl) T.z_range (pv 3))))) pss_nil)
      (pss_cons (ps_for PassesOwn.never rfl (pi_seqV K rfl (pv 10)) (pg_name (i := 11) sclaw.nd rfl (Or.inl rfl)) (pss_cons (ps_set (i := 12) sclaw.nd rfl (Or.inl rfl) (pe_methKS0 (pv 4) T.cls_Key T.me_Key_opens G_Key_opens (hr.mono (by decide)) T.k_Key_opens_1_cover_value_blind (fun σ => passAt takes0 σ) (pk_cons (pv 7) (pk_cons (pv 8) (pk_cons (pv 11) pk_nil)))))
      (pss_one (ps_if (PW.pt (pw_or (pt_not (pt_val (pe_callB (call_isiV K rfl) (by rfl) T.z_isinstance (by decide +kernel) (pa_cons (pv 12) (pa_cons (pe_bltn (v := .ty "bool") (by rfl) T.z_bool (by decide +kernel) rfl) pa_nil))))) (pw_or1 (pt_cmpR (op_neV K rfl hr.units) (pv 12) (pe_cmpR (op_eqV K rfl hr.units) (pv 11) (pv 9) (nomark _)) (nomark _))))) (pss_one (ps_ret pe_bl)) pss_nil))))
      (pss_one (ps_if (pt_not (pt_val (pe_callS G__law_same (hr.mono (by decide)) (by rfl) T.m__law_same T.F__law_same.kp T.b__law_same (fun σ => passAt takes0 σ) (pa_cons (pe_methT (pv 4) T.cls_Key T.me_Key_cover G_Key_cover (hr.mono (by decide)) T.b_Key_cover (fun σ => passAt takes0 σ) (pa_cons (pv 8) (pa_cons (pv 9) pa_nil))) (pa_cons (pv 7) pa_nil))))) (pss_one (ps_ret pe_bl)) pss_nil))))))))))))
      (pss_one (ps_ret pe_bl))))))),
    _, run_one (run_assoc (run_setowd (i := 1) (nd_callN (pl_cons (pu_var rfl) pl_nil)) rfl (wk_uns rfl) fun d4 => (run_assoc (run_setoEd (i := 2) (ρs := (fun (s206 : List (Key × PV)) => [(.fz (PV.fls (List.map PV.int ns))), (.ow (.dct s206)), .un, .un, .un, .un, .un, .un, .un, .un, .un, .un, .un])) (s0 := d4) (ef_callMN (is := [1]) (get := (fun (s13 : List (Key × PV)) => [MO.dct s13])) (put := (fun (s14 : List (Key × PV)) (ms16 : List MO) => mos1 moD ms16 >>= fun l15 => Res.val l15)) (by decide) (fun _ => (.cons rfl (Or.inl rfl) .nil)) (fun s mos s' h => by rcases mos with _ | ⟨a, _ | ⟨b, _ | ⟨_, _⟩⟩⟩ <;> first | (cases h; done) | (cases a <;> first | (cases h; rfl) | (cases h; done) | (cases b <;> first | (cases h; rfl) | cases h))) (ea_box (i := 1) (sl := (fun (s12 : List (Key × PV)) => (.ow (.dct s12)))) (fun _ => rfl) (fun _ => Or.inl ⟨_, rfl⟩) (ea_cons (ef_pure (W := (fun _ _ _ _ => False)) fun s7 => pu_int) ea_nil))) rfl (fun _ => rfl) fun d20 s21 => (run_assoc (run_set (i := 3) (pu_dget (vw_ownd rfl) (Pur.vw pu_str)) rfl (wk_uns rfl) fun x25 => (run_assoc (run_setE (i := 4) (ρs := (fun (s205 : List (Key × PV) × List (Key × PV)) => [(.fz (PV.fls (List.map PV.int ns))), (.ow (.dct s205.1)), (.ow (.dct s205.2)), (.fz x25), .un, .un, .un, .un, .un, .un, .un, .un, .un])) (s0 := (s21, d20)) (ef_callM (is := [1, 2]) (get := (fun (s36 : List (Key × PV) × List (Key × PV)) => [MO.dct s36.1, MO.dct s36.2])) (put := (fun (s37 : List (Key × PV) × List (Key × PV)) (ms39 : List MO) => mos2 moD moD ms39 >>= fun l38 => Res.val (l38.1, l38.2))) (by decide) (fun _ => (.cons rfl (Or.inl rfl) (.cons rfl (Or.inl rfl) .nil))) (fun s mos s' h => by rcases mos with _ | ⟨a, _ | ⟨b, _ | ⟨_, _⟩⟩⟩ <;> first | (cases h; done) | (cases a <;> first | (cases h; rfl) | (cases h; done) | (cases b <;> first | (cases h; rfl) | cases h))) (ea_box (i := 1) (sl := (fun (s35 : List (Key × PV) × List (Key × PV)) => (.ow (.dct s35.1)))) (fun _ => rfl) (fun _ => Or.inl ⟨_, rfl⟩) (ea_box (i := 2) (sl := (fun (s34 : List (Key × PV) × List (Key × PV)) => (.ow (.dct s34.2)))) (fun _ => rfl) (fun _ => Or.inl ⟨_, rfl⟩) (ea_cons (ef_pure (W := (fun _ _ _ _ => False)) fun s29 => pu_bl) ea_nil)))) rfl (fun _ => rfl) fun x43 s44 => (run_assoc (run_wk (.keep (.keep (.iced (.keep (.keep (.keep (.keep (.keep (.keep (.keep (.keep (.keep (.keep .nil))))))))))))) (run_seq (ρj := fun (s203 : List (Key × PV)) => [(.fz (PV.fls (List.map PV.int ns))), (.ow (.dct s203)), (.fz (PV.dct s44.2)), (.fz x25), (.fz x43), .un, .un, .un, .un, .un, .un, .un, .un]) (run_for (ρs := fun (s46 : List (Key × PV)) => [(.fz (PV.fls (List.map PV.int ns))), (.ow (.dct s46)), (.fz (PV.dct s44.2)), (.fz x25), (.fz x43), .un, .un, .un, .un, .un, .un, .un, .un]) (s0 := s44.1) (ρe := fun (s46 : List (Key × PV)) (a47 : PV) => [(.fz (PV.fls (List.map PV.int ns))), (.ow (.dct s46)), (.fz (PV.dct s44.2)), (.fz x25), (.fz x43), (.fz a47), .un, .un, .un, .un, .un, .un, .un]) (it_rng1 (Pur.vw pu_int)) (.keep (.keep (.keep (.keep (.keep (.keep (.keep (.keep (.keep (.keep (.keep (.keep (.keep .nil))))))))))))) (wk_uns rfl) (fun s46 => (tg_name (i := 5) rfl (Or.inl rfl))) (fun a47 s46 => run_one (run_assoc (run_setE (i := 6) (ρs := (fun (s200 : List (Key × PV)) => [(.fz (PV.fls (List.map PV.int ns))), (.ow (.dct s200)), (.fz (PV.dct s44.2)), (.fz x25), (.fz x43), (.fz a47), .un, .un, .un, .un, .un, .un, .un])) (s0 := s46) (ef_callR (i := 1) (sl := (fun (s48 : List (Key × PV)) => (.ow (.dct s48)))) (get := (fun (s48 : List (Key × PV)) => MO.dct s48)) (put := (fun (s48 : List (Key × PV)) (mo : MO) => moD mo >>= fun l => Res.val l)) (fun _ => rfl) (fun _ => Or.inl rfl) (fun s mo s' h => by cases mo <;> first | (cases h; rfl) | cases h) (el_cons (ef_pure (W := (fun _ _ _ _ => False)) fun s49 => (pu_var rfl)) el_nil)) rfl (fun _ => rfl) fun x58 s59 => (run_assoc (run_set (i := 7) (pu_call2 (pu_var rfl) (pu_var rfl)) rfl (wk_uns rfl) fun x63 => (run_assoc (run_setE (i := 8) (ρs := (fun (s199 : List (Key × PV)) => [(.fz (PV.fls (List.map PV.int ns))), (.ow (.dct s199)), (.fz (PV.dct s44.2)), (.fz x25), (.fz x43), (.fz a47), (.fz x58), (.fz x63), .un, .un, .un, .un, .un])) (s0 := s59) (ef_callR (i := 1) (sl := (fun (s64 : List (Key × PV)) => (.ow (.dct s64)))) (get := (fun (s64 : List (Key × PV)) => MO.dct s64)) (put := (fun (s64 : List (Key × PV)) (mo : MO) => moD mo >>= fun l => Res.val l)) (fun _ => rfl) (fun _ => Or.inl rfl) (fun s mo s' h => by cases mo <;> first | (cases h; rfl) | cases h) (el_cons (ef_pure (W := (fun _ _ _ _ => False)) fun s65 => (pu_var rfl)) el_nil)) rfl (fun _ => rfl) fun x74 s75 => (run_assoc (run_set (i := 9) (pu_call3 (pu_var rfl) (pu_var rfl) (pu_var rfl)) rfl (wk_uns rfl) fun x80 => (run_assoc (run_if (ts_not (ts_val (Pur.vw (pu_call2 (pu_methK g_Key_blind_for_1_cover_value_is T.ce_Key (pu_var rfl) pl_nil (pl_cons (pu_var rfl) (pl_cons (pu_var rfl) pl_nil))) (pu_var rfl))))) (wk_uns rfl) (run_ret pu_bl rfl rfl (wk_uns rfl)) (run_skip (run_assoc (run_if (ts_not (ts_val (Pur.vw (pu_call2 (pu_methK g_Key_count_openings_1_cover_value_is T.ce_Key (pu_var rfl) pl_nil (pl_cons (pu_var rfl) (pl_cons (pu_var rfl) pl_nil))) pu_int)))) (wk_uns rfl) (run_ret pu_bl rfl rfl (wk_uns rfl)) (run_skip (run_assoc (run_setE (i := 10) (ρs := (fun (s198 : List (Key × PV)) => [(.fz (PV.fls (List.map PV.int ns))), (.ow (.dct s198)), (.fz (PV.dct s44.2)), (.fz x25), (.fz x43), (.fz a47), (.fz x58), (.fz x63), (.fz x74), (.fz x80), .un, .un, .un])) (s0 := s75) (ef_lst (el_cons (ef_pure (W := (fun _ _ _ _ => False)) fun s108 => (pu_var rfl)) (el_cons (ef_op o2_mod (ef_cb1 b1_int (ef_op o2_add (ef_pure (W := (fun _ _ _ _ => False)) fun s113 => (pu_op o2_add (Pur.vw (pu_var rfl)) (Pur.vw pu_int))) (ef_callR (i := 1) (sl := (fun (s117 : List (Key × PV)) => (.ow (.dct s117)))) (get := (fun (s117 : List (Key × PV)) => MO.dct s117)) (put := (fun (s117 : List (Key × PV)) (mo : MO) => moD mo >>= fun l => Res.val l)) (fun _ => rfl) (fun _ => Or.inl rfl) (fun s mo s' h => by cases mo <;> first | (cases h; rfl) | cases h) (el_cons (ef_pure (W := (fun _ _ _ _ => False)) fun s118 => (pu_op o2_sub (Pur.vw (pu_var rfl)) (Pur.vw pu_int))) el_nil)))) (ef_pure (W := (fun _ _ _ _ => False)) fun s134 => (pu_var rfl))) el_nil))) rfl (fun _ => rfl) fun x148 s149 => (run_assoc (run_seq (ρj := fun (s154 : PV) => [(.fz (PV.fls (List.map PV.int ns))), (.ow (.dct s149)), (.fz (PV.dct s44.2)), (.fz x25), (.fz x43), (.fz a47), (.fz x58), (.fz x63), (.fz x74), (.fz x80), (.fz s154), .un, .un]) (run_one (run_if (ts_cmp (Pur.vw (pu_op o2_lt (Pur.vw (pu_var rfl)) (Pur.vw pu_int)))) (wk_uns rfl) (run_set (i := 10) (New.pur' (nw_listRg (rg_1 (Pur.vw (pu_var rfl))))) rfl (wk_uns rfl) fun x159 => (run_next (s := x159) (.keep (.keep (.keep (.keep (.keep (.keep (.keep (.keep (.keep (.keep (.keep (.keep (.keep .nil))))))))))))))) (run_skip (run_next (s := x148) (.keep (.keep (.keep (.keep (.keep (.keep (.keep (.keep (.keep (.keep (.keep (.keep (.keep .nil))))))))))))))))) fun s154 => (run_assoc (run_seq (ρj := fun (s185 : Unit) => [(.fz (PV.fls (List.map PV.int ns))), (.ow (.dct s149)), (.fz (PV.dct s44.2)), (.fz x25), (.fz x43), (.fz a47), (.fz x58), (.fz x63), (.fz x74), (.fz x80), (.fz s154), .un, .un]) (run_for (ρs := fun (s160 : Unit) => [(.fz (PV.fls (List.map PV.int ns))), (.ow (.dct s149)), (.fz (PV.dct s44.2)), (.fz x25), (.fz x43), (.fz a47), (.fz x58), (.fz x63), (.fz x74), (.fz x80), (.fz s154), .un, .un]) (s0 := ()) (ρe := fun (s160 : Unit) (a161 : PV) => [(.fz (PV.fls (List.map PV.int ns))), (.ow (.dct s149)), (.fz (PV.dct s44.2)), (.fz x25), (.fz x43), (.fz a47), (.fz x58), (.fz x63), (.fz x74), (.fz x80), (.fz s154), (.fz a161), .un]) (it_seq (pu_var rfl)) (.keep (.keep (.keep (.keep (.keep (.keep (.keep (.keep (.keep (.keep (.keep (.keep (.keep .nil))))))))))))) (wk_uns rfl) (fun s160 => (tg_name (i := 11) rfl (Or.inl rfl))) (fun a161 s160 => run_one (run_assoc (run_set (i := 12) (pu_methK g_Key_opens_1_cover_value_blind_is T.ce_Key (pu_var rfl) pl_nil (pl_cons (pu_var rfl) (pl_cons (pu_var rfl) (pl_cons (pu_var rfl) pl_nil)))) rfl (wk_uns rfl) fun x172 => (run_if (ts_or (ts_not (ts_val (Pur.vw (pu_cb2 b2_isi (Pur.vw (pu_var rfl)) (Pur.vw pu_ty))))) (ts_cmp (Pur.vw (pu_op o2_ne (Pur.vw (pu_var rfl)) (Pur.vw (pu_op o2_eq (Pur.vw (pu_var rfl)) (Pur.vw (pu_var rfl)))))))) (wk_uns rfl) (run_ret pu_bl rfl rfl (wk_uns rfl)) (run_skip (run_next (s := ()) (.keep (.keep (.keep (.keep (.keep (.keep (.keep (.keep (.keep (.keep (.keep (.drop (.drop .nil)))))))))))))))))))) fun s185 => (run_if (ts_not (ts_val (Pur.vw (pu_call2 (pu_meth T.ce_Key (pu_var rfl) (pl_cons (pu_var rfl) (pl_cons (pu_var rfl) pl_nil))) (pu_var rfl))))) (wk_uns rfl) (run_ret pu_bl rfl rfl (wk_uns rfl)) (run_skip (run_next (s := s149) (.keep (.keep (.keep (.keep (.keep (.drop (.drop (.drop (.drop (.drop (.drop (.keep (.keep .nil)))))))))))))))))))))))))))))))))))))) fun s203 => (run_ret pu_bl rfl rfl (wk_uns rfl))))))))))))), rfl⟩
end
/-! ### reckoning with mirrors -/
section
variable {S L S1 : Type}
@[simp] theorem retF_rt {v : PV} {r : List MO} : retF (.val (.rt v r)) = .val v := rfl
@[simp] theorem retF_nx : retF (.val (.nx ())) = .val .non := rfl
@[simp] theorem retF_exc {c : Str} : retF (.exc c) = .exc c := rfl
@[simp] theorem retR_rt {v : PV} {mo : MO} : retR (.val (.rt v [mo])) = .val (v, mo) := rfl
@[simp] theorem retR_nx {mo : MO} : retR (.val (.nx mo)) = .val (.non, mo) := rfl
@[simp] theorem retN_ro {mo : MO} {r : List MO} : retN (.val (.ro mo r)) = .val mo := rfl
@[simp] theorem seqF_nx {s : S1} {n : S1 → Res (Fl S L)} : seqF (.val (.nx s)) n = n s := rfl
@[simp] theorem seqF_rt {v : PV} {r : List MO} {n : S1 → Res (Fl S L)} : seqF (.val (.rt v r)) n = .val (.rt v r) := rfl
@[simp] theorem seqF_exc {c : Str} {n : S1 → Res (Fl S L)} : seqF (.exc c) n = .exc c := rfl
@[simp] theorem noX_val {α : Type} {a : α} : noX (.val a) = .val a := rfl
@[simp] theorem asB_bl {b : Bool} : asB (.bl b) = .val b := rfl
@[simp] theorem asSq_tup {l : List PV} : asSq (.tup l) = .val l := rfl
@[simp] theorem asSq_lst {l : List PV} : asSq (.lst l) = .val l := rfl
@[simp] theorem asSq_fls {l : List PV} : asSq (.fls l) = .val l := rfl
@[simp] theorem asLi_lst {l : List PV} : asLi (.lst l) = .val l := rfl
@[simp] theorem asTu_tup {l : List PV} : asTu (.tup l) = .val l := rfl
@[simp] theorem partP_int {i : Int} : partP (.int i) = .val i := rfl
@[simp] theorem moL_lst {l : List PV} : moL (.lst l) = .val l := rfl
@[simp] theorem moD_dct {l : List (Key × PV)} : moD (.dct l) = .val l := rfl
@[simp] theorem addP_int {a b : Int} : addP (.int a) (.int b) = .val (.int (a + b)) := rfl
@[simp] theorem subP_int {a b : Int} : subP (.int a) (.int b) = .val (.int (a - b)) := rfl
@[simp] theorem negP_int {a : Int} : negP (.int a) = .val (.int (-a)) := rfl
@[simp] theorem ltP_int {a b : Int} : ltP (.int a) (.int b) = .val (.bl (decide (a < b))) := rfl
@[simp] theorem leP_int {a b : Int} : leP (.int a) (.int b) = .val (.bl (decide (a ≤ b))) := rfl
@[simp] theorem gtP_int {a b : Int} : gtP (.int a) (.int b) = .val (.bl (decide (b < a))) := rfl
@[simp] theorem geP_int {a b : Int} : geP (.int a) (.int b) = .val (.bl (decide (b ≤ a))) := rfl
@[simp] theorem intP_int {a : Int} : intP (.int a) = .val (.int a) := rfl
@[simp] theorem intP_bl {b : Bool} : intP (.bl b) = .val (.int (if b then 1 else 0)) := rfl
@[simp] theorem listP_sq {l : List PV} : listP (.tup l) = .val (.lst l) := rfl
@[simp] theorem listP_lst {l : List PV} : listP (.lst l) = .val (.lst l) := rfl
@[simp] theorem listP_fls {l : List PV} : listP (.fls l) = .val (.lst l) := rfl
@[simp] theorem tupleP_lst {l : List PV} : tupleP (.lst l) = .val (.tup l) := rfl
@[simp] theorem tupleP_tup {l : List PV} : tupleP (.tup l) = .val (.tup l) := rfl
@[simp] theorem lenP_tup {l : List PV} : lenP (.tup l) = .val (.int l.length) := rfl
@[simp] theorem lenP_lst {l : List PV} : lenP (.lst l) = .val (.int l.length) := rfl
@[simp] theorem lenP_fls {l : List PV} : lenP (.fls l) = .val (.int l.length) := rfl
@[simp] theorem isP_non {p : PV} : isP p .non = .val (.bl (isNo p)) := rfl
@[simp] theorem isnP_non {p : PV} : isnP p .non = .val (.bl (!isNo p)) := rfl
@[simp] theorem ap1_one {f : PV → Res PV} {a : PV} : ap1 f [a] = f a := rfl
@[simp] theorem ap2_two {f : PV → PV → Res PV} {a b : PV} : ap2 f [a, b] = f a b := rfl
@[simp] theorem ap3_three {f : PV → PV → PV → Res PV} {a b c : PV} : ap3 f [a, b, c] = f a b c := rfl
@[simp] theorem ap4_four {f : PV → PV → PV → PV → Res PV} {a b c d : PV} : ap4 f [a, b, c, d] = f a b c d := rfl
@[simp] theorem ap5_five {f : PV → PV → PV → PV → PV → Res PV} {a b c d e : PV} : ap5 f [a, b, c, d, e] = f a b c d e := rfl
@[simp] theorem apR0_z {f : MO → Res (PV × MO)} {mo : MO} : apR0 f mo [] = f mo := rfl
@[simp] theorem apR1_o {f : MO → PV → Res (PV × MO)} {mo : MO} {a : PV} : apR1 f mo [a] = f mo a := rfl
@[simp] theorem apR2_t {f : MO → PV → PV → Res (PV × MO)} {mo : MO} {a b : PV} : apR2 f mo [a, b] = f mo a b := rfl
@[simp] theorem apR3_t {f : MO → PV → PV → PV → Res (PV × MO)} {mo : MO} {a b c : PV} : apR3 f mo [a, b, c] = f mo a b c := rfl
@[simp] theorem apN1_o {f : PV → Res MO} {a : PV} : apN1 f [a] = f a := rfl
@[simp] theorem apN2_t {f : PV → PV → Res MO} {a b : PV} : apN2 f [a, b] = f a b := rfl
theorem sized_ok {n : Nat} (h : n ≤ sizeLine) : sized n = .val () := if_pos h
theorem sized_small {n : Nat} (h : n ≤ 10000000) : sized n = .val () := if_pos (Nat.le_trans h (by unfold sizeLine; decide))
theorem mkT_ok {l : List PV} (h : l.length ≤ 10000000) : mkT l = .val (.tup l) := by unfold mkT; rw [sized_small h]; rfl
theorem mkL_ok {l : List PV} (h : l.length ≤ 10000000) : mkL l = .val (.lst l) := by unfold mkL; rw [sized_small h]; rfl
theorem mkN_ok {l : List PV} (h : l.length ≤ 10000000) : mkN l = .val l := by unfold mkN; rw [sized_small h]; rfl
theorem mulI_int {a b : Int} (h : CMul a b) : mulI (.int a) (.int b) = .val (.int (a * b)) := by
  unfold mulI orS ints2
  simp only [if_pos h]
theorem mulP_int {a b : Int} (h : CMul a b) : mulP (.int a) (.int b) = .val (.int (a * b)) := by
  unfold mulP orS
  rw [mulI_int h]
theorem mulP_intW {a b : Int} (h : CMulW a b) : mulP (.int a) (.int b) = .val (.int (a * b)) := by
  by_cases c : CMul a b
  · exact mulP_int c
  · unfold mulP mulI orS ints2
    simp only [if_neg c, if_pos h]
theorem mulP_l {a b : Int} (h1 : -(2 ^ 64) < a) (h2 : a < 2 ^ 64) : mulP (.int a) (.int b) = .val (.int (a * b)) := mulP_int (.inl ⟨h1, h2⟩)
theorem mulP_r {a b : Int} (h1 : -(2 ^ 64) < b) (h2 : b < 2 ^ 64) : mulP (.int a) (.int b) = .val (.int (a * b)) := mulP_int (.inr ⟨h1, h2⟩)
theorem mulPT_l {a b : Int} (h1 : -(2 ^ 64) < a) (h2 : a < 2 ^ 64) : mulPT (.int a) (.int b) = .val (.int (a * b)) := by unfold mulPT orS; rw [mulP_l h1 h2]
theorem modP_int {a b : Int} (h : b ≠ 0) : modP (.int a) (.int b) = .val (.int (a.fmod b)) := if_pos h
theorem modP_pos {a b : Int} (h : 0 < b) : modP (.int a) (.int b) = .val (.int (a % b)) := by
  rw [modP_int (by omega), Int.fmod_eq_emod_of_nonneg a (by omega)]
theorem fdivP_pos {a b : Int} (h : 0 < b) (h2 : b < 1073741824) : fdivP (.int a) (.int b) = .val (.int (a / b)) := by
  unfold fdivP orS ints2
  have c : CDivN a b := ⟨by omega, by omega⟩
  simp only [if_pos c]
  rw [Int.fdiv_eq_ediv_of_nonneg a (by omega)]
theorem powP_int {a b : Int} (h : CPow a b) : powP (.int a) (.int b) = .val (.int (a ^ b.toNat)) := if_pos h
theorem shlP_int {a b : Int} (h : CPow a b) : shlP (.int a) (.int b) = .val (.int (a * 2 ^ b.toNat)) := if_pos h
theorem shrP_int {a b : Int} (h : 0 ≤ b) : shrP (.int a) (.int b) = .val (.int (a / 2 ^ b.toNat)) := if_pos h
theorem ixP_tup {l : List PV} {i : Nat} {p : PV} (h : l[i]? = some p) : ixP (.tup l) (.int (i : Nat)) = .val p := by
  unfold ixP
  have : atI l ((i : Nat) : Int) = some p := atI_nat h
  simp only [this]
theorem ixP_lst {l : List PV} {i : Nat} {p : PV} (h : l[i]? = some p) : ixP (.lst l) (.int (i : Nat)) = .val p := by
  unfold ixP
  have : atI l ((i : Nat) : Int) = some p := atI_nat h
  simp only [this]
theorem rng1_ok {j : Int} (h : 0 ≤ j) (h2 : j < 2 ^ 62) : rng1 (.int j) = .val (rngP 0 j) := if_pos ⟨by omega, h2⟩
theorem rng2_ok {i j : Int} (h : -(2 ^ 62) ≤ i ∧ i < 2 ^ 62 ∧ -(2 ^ 62) ≤ j ∧ j < 2 ^ 62) : rng2 (.int i) (.int j) = .val (rngP i j) := if_pos h
theorem sumPT_ints {is : List Int} : sumPT (.tup (is.map PV.int)) = .val (.int is.sum) := by
  unfold sumPT
  rw [asSq_tup, bind_val, allI_map]
theorem sumPT_lints {is : List Int} : sumPT (.lst (is.map PV.int)) = .val (.int is.sum) := by
  unfold sumPT
  rw [asSq_lst, bind_val, allI_map]
theorem allP_bls {bs : List Bool} : allP (.lst (bs.map PV.bl)) = .val (.bl (bs.all id)) := by
  unfold allP
  rw [asLi_lst, bind_val, allB_map]
theorem anyP_bls {bs : List Bool} : anyP (.lst (bs.map PV.bl)) = .val (.bl (bs.any id)) := by
  unfold anyP
  rw [asLi_lst, bind_val, allB_map]
/-! loops -/
theorem whileF_iter {c : S → Res Bool} {b : S → Res (Fl S S)} (f : Nat → S) (j : Nat) (hc : ∀ i, i < j → c (f i) = .val true) (hb : ∀ i, i < j → b (f i) = .val (.nx (f (i + 1)))) (he : c (f j) = .val false) : ∀ (n i : Nat), i ≤ j → j - i < n → whileF (L := L) c b n (f i) = .val (.nx (f j))
  | 0, i, _, h => by omega
  | n + 1, i, hi, h => by
    unfold whileF
    by_cases e : i = j
    · subst e
      rw [he]
      rfl
    · have hlt : i < j := by omega
      rw [hc i hlt, bind_val, if_pos rfl, hb i hlt]
      exact whileF_iter f j hc hb he n (i + 1) (by omega) (by omega)
theorem forF_iter {body : PV → S → Res (Fl S S)} : ∀ (ps : List PV) (f : Nat → S), (∀ i p, ps[i]? = some p → body p (f i) = .val (.nx (f (i + 1)))) → forF (L := L) body ps (f 0) = .val (.nx (f ps.length))
  | [], f, _ => rfl
  | p :: ps, f, h => by
    unfold forF
    rw [h 0 p rfl]
    exact forF_iter ps (fun i => f (i + 1)) fun i q hq => h (i + 1) q (by simpa using hq)
theorem forF_rng {body : PV → S → Res (Fl S S)} {lo hi : Int} (f : Nat → S) (h : ∀ i : Nat, i < (hi - lo).toNat → body (.int (lo + (i : Nat))) (f i) = .val (.nx (f (i + 1)))) : forF (L := L) body (rngP lo hi) (f 0) = .val (.nx (f (hi - lo).toNat)) := by
  have := forF_iter (L := L) (body := body) (rngP lo hi) f fun i p hp => by
    obtain ⟨h1, rfl⟩ := rng_get hp
    exact h i h1
  rw [rng_len] at this
  exact this
theorem lcF_val {c : PV → Res Bool} {e : PV → Res PV} {g : PV → PV} : ∀ {ps : List PV}, (∀ p, p ∈ ps → c p = .val true) → (∀ p, p ∈ ps → e p = .val (g p)) → lcF (fun x => Res.val x) c e ps = .val (ps.map g)
  | [], _, _ => rfl
  | p :: ps, hc, he => by
    unfold lcF
    rw [noX_val, bind_val, hc p List.mem_cons_self, noX_val, bind_val, if_pos rfl, he p List.mem_cons_self, noX_val, bind_val, lcF_val (fun q hq => hc q (List.mem_cons_of_mem _ hq)) (fun q hq => he q (List.mem_cons_of_mem _ hq))]
    rfl
theorem lcF_rng {e : PV → Res PV} {lo hi : Int} (g : Nat → PV) (h : ∀ i : Nat, i < (hi - lo).toNat → e (.int (lo + (i : Nat))) = .val (g i)) : lcF (fun x => Res.val x) (fun _ => Res.val true) e (rngP lo hi) = .val ((List.range (hi - lo).toNat).map g) := by
  have key : ∀ (l : List Nat), (∀ i, i ∈ l → i < (hi - lo).toNat) → lcF (fun x => Res.val x) (fun _ => Res.val true) e (l.map fun i => PV.int (lo + (i : Nat))) = .val (l.map g) := by
    intro l
    induction l with
    | nil => intro _; rfl
    | cons i l ih =>
      intro hl
      rw [List.map_cons]
      unfold lcF
      rw [noX_val, bind_val, noX_val, bind_val, if_pos rfl, h i (hl i List.mem_cons_self), noX_val, bind_val, ih fun j hj => hl j (List.mem_cons_of_mem _ hj)]
      rfl
  exact key _ fun i hi => List.mem_range.mp hi
/-- with a condition -/
theorem lcF_filter {c : PV → Res Bool} {e : PV → Res PV} {k : PV → Bool} {g : PV → PV} : ∀ {ps : List PV}, (∀ p, p ∈ ps → c p = .val (k p)) → (∀ p, p ∈ ps → k p = true → e p = .val (g p)) → lcF (fun x => Res.val x) c e ps = .val ((ps.filter k).map g)
  | [], _, _ => rfl
  | p :: ps, hc, he => by
    have ih := lcF_filter (ps := ps) (fun q hq => hc q (List.mem_cons_of_mem _ hq)) (fun q hq => he q (List.mem_cons_of_mem _ hq))
    unfold lcF
    rw [noX_val, bind_val, hc p List.mem_cons_self, noX_val, bind_val]
    cases hk : k p with
    | true =>
      rw [if_pos rfl, he p List.mem_cons_self hk, noX_val, bind_val, ih, List.filter_cons_of_pos hk]
      rfl
    | false =>
      rw [if_neg (by decide), ih, List.filter_cons_of_neg (by rw [hk]; decide)]
theorem lc_rng1 {e : PV → Res PV} {n : Nat} (g : Nat → PV) (hn : n ≤ 10000000) (h : ∀ i : Nat, i < n → e (.int (i : Nat)) = .val (g i)) : (rng1 (.int (n : Nat)) >>= fun ps => sized ps.length >>= fun _ => lcF (fun x => Res.val x) (fun _ => Res.val true) e ps) = .val ((List.range n).map g) := by
  have e1 : (((n : Nat) : Int) - 0).toNat = n := by omega
  rw [rng1_ok (by omega) (by omega), bind_val, rng_len, sized_small (by omega), bind_val, lcF_rng (lo := 0) (hi := (n : Nat)) g fun i hi => by rw [Int.zero_add]; exact h i (by omega), e1]
theorem forF_rng1 {S L : Type} {body : PV → S → Res (Fl S S)} {n : Nat} (f : Nat → S) (hn : n ≤ 10000000) (h : ∀ i : Nat, i < n → body (.int (i : Nat)) (f i) = .val (.nx (f (i + 1)))) : (rng1 (.int (n : Nat)) >>= fun ps => forF (L := L) body ps (f 0)) = .val (.nx (f n)) := by
  have e1 : (((n : Nat) : Int) - 0).toNat = n := by omega
  rw [rng1_ok (by omega) (by omega), bind_val, forF_rng (L := L) (lo := 0) (hi := (n : Nat)) f fun i hi => by rw [Int.zero_add]; exact h i (by omega), e1]
theorem shlP_nat {a : Int} {n : Nat} (h : CPow a (n : Int)) : shlP (.int a) (.int n) = .val (.int (a * 2 ^ n)) := by
  rw [shlP_int h]; rfl
theorem shrP_nat {a n : Nat} : shrP (.int a) (.int n) = .val (.int ((a / 2 ^ n : Nat) : Int)) := by
  rw [shrP_int (by omega)]
  simp
theorem modP_nat {a b : Nat} (h : 0 < b) : modP (.int a) (.int b) = .val (.int ((a % b : Nat) : Int)) := by
  rw [modP_pos (by omega)]; rfl
end
/-! ### more of reckoning -/
theorem eqB_int {a b : Int} : eqB (.int a) (.int b) = some (decide (a = b)) := by
  show (if SeqAt.shaped (.int a) = true ∧ SeqAt.shaped (.int b) = true then some (PyData.eqv (.int a) (.int b)) else none) = _
  rw [if_pos ⟨rfl, rfl⟩]
  unfold PyData.eqv
  rfl
theorem eqB_bl {a b : Bool} : eqB (.bl a) (.bl b) = some (decide (a = b)) := by
  show (if SeqAt.shaped (.bool a) = true ∧ SeqAt.shaped (.bool b) = true then some (PyData.eqv (.bool a) (.bool b)) else none) = _
  rw [if_pos ⟨rfl, rfl⟩]
  unfold PyData.eqv
  cases a <;> cases b <;> rfl
theorem eqB_str {a b : Str} (h : SeqAt.shaped (.str a) = true) (h2 : SeqAt.shaped (.str b) = true) : eqB (.str a) (.str b) = some (decide (a = b)) := by
  show (if SeqAt.shaped (.str a) = true ∧ SeqAt.shaped (.str b) = true then some (PyData.eqv (.str a) (.str b)) else none) = _
  rw [if_pos ⟨h, h2⟩]
  unfold PyData.eqv
  rfl
theorem eqP_int {a b : Int} : eqP (.int a) (.int b) = .val (.bl (decide (a = b))) := by unfold eqP; rw [eqB_int]
theorem neP_int {a b : Int} : neP (.int a) (.int b) = .val (.bl (!decide (a = b))) := by unfold neP; rw [eqB_int]
theorem eqP_bl {a b : Bool} : eqP (.bl a) (.bl b) = .val (.bl (decide (a = b))) := by unfold eqP; rw [eqB_bl]
theorem neP_bl {a b : Bool} : neP (.bl a) (.bl b) = .val (.bl (!decide (a = b))) := by unfold neP; rw [eqB_bl]
theorem eqP_str {a b : Str} (h : SeqAt.shaped (.str a) = true) (h2 : SeqAt.shaped (.str b) = true) : eqP (.str a) (.str b) = .val (.bl (decide (a = b))) := by unfold eqP; rw [eqB_str h h2]
theorem neP_str {a b : Str} (h : SeqAt.shaped (.str a) = true) (h2 : SeqAt.shaped (.str b) = true) : neP (.str a) (.str b) = .val (.bl (!decide (a = b))) := by unfold neP; rw [eqB_str h h2]
theorem exc_bind {α β : Type} {c : Str} {f : α → Res β} : (Res.exc c >>= f) = Res.exc c := rfl
theorem addP_tups {a b : List PV} (h : a.length + b.length ≤ 10000000) : addP (.tup a) (.tup b) = .val (.tup (a ++ b)) := by
  unfold addP orS ints2 catS catL catT
  simp only
  rw [if_pos (by exact Nat.le_trans h (by unfold sizeLine; decide))]
theorem addP_lsts {a b : List PV} (h : a.length + b.length ≤ 10000000) : addP (.lst a) (.lst b) = .val (.lst (a ++ b)) := by
  unfold addP orS ints2 catS catL
  simp only
  rw [if_pos (by exact Nat.le_trans h (by unfold sizeLine; decide))]
theorem fdivP_nat {a b : Nat} (h : 0 < b) (h2 : b < 1073741824) : fdivP (.int a) (.int b) = .val (.int ((a / b : Nat) : Int)) := by
  rw [fdivP_pos (by omega) (by omega)]; rfl
theorem forF_unit {L : Type} {body : PV → Unit → Res (Fl Unit Unit)} : ∀ {ps : List PV}, (∀ p, p ∈ ps → body p () = .val (.nx ())) → forF (L := L) body ps () = .val (.nx ())
  | [], _ => rfl
  | p :: ps, h => by
    unfold forF
    rw [h p List.mem_cons_self]
    exact forF_unit fun q hq => h q (List.mem_cons_of_mem _ hq)
theorem ixP_ints {l : List Int} {k : Nat} (h : k < l.length) : ixP (.tup (l.map PV.int)) (.int (k : Nat)) = .val (.int (l.getD k 0)) := ixP_tup (by
  rw [List.getElem?_map, List.getElem?_eq_getElem h, List.getD_eq_getElem?_getD, List.getElem?_eq_getElem h]; rfl)
theorem modP_ex {x b : Int} (h : 0 < b) : ∃ r, modP (.int x) (.int b) = .val (.int r) ∧ 0 ≤ r ∧ r < b := ⟨x % b, modP_pos h, Int.emod_nonneg _ (by omega), Int.emod_lt_of_pos _ h⟩
/-! ### lists of numbers -/
def PN (l : List Nat) : List PV := l.map fun n => PV.int (n : Nat)
theorem PN_len {l : List Nat} : (PN l).length = l.length := List.length_map ..
theorem PN_get {l : List Nat} {i n : Nat} (h : l[i]? = some n) : (PN l)[i]? = some (PV.int (n : Nat)) := by
  unfold PN
  rw [List.getElem?_map, h]
  rfl
theorem rngP_nat {lo hi : Nat} : rngP (lo : Nat) (hi : Nat) = PN (List.range' lo (hi - lo)) := by
  unfold rngP PN
  rw [List.range'_eq_map_range, List.map_map, show ((hi : Int) - (lo : Int)).toNat = hi - lo by omega]
  rfl
theorem rngP_0 {hi : Nat} : rngP 0 (hi : Nat) = PN (List.range hi) := by
  unfold rngP PN
  rw [show ((hi : Int) - 0).toNat = hi by omega]
  refine List.map_congr_left fun i _ => ?_
  rw [Int.zero_add]
theorem lcN {c : PV → Res Bool} {e : PV → Res PV} {k : Nat → Bool} {g : Nat → PV} : ∀ {l : List Nat}, (∀ n, n ∈ l → c (.int (n : Nat)) = .val (k n)) → (∀ n, n ∈ l → k n = true → e (.int (n : Nat)) = .val (g n)) → lcF (fun x => Res.val x) c e (PN l) = .val ((l.filter k).map g)
  | [], _, _ => rfl
  | n :: l, hc, he => by
    have ih := lcN (l := l) (fun q hq => hc q (List.mem_cons_of_mem _ hq)) (fun q hq => he q (List.mem_cons_of_mem _ hq))
    have ih' : lcF (fun x => Res.val x) c e (l.map fun n => PV.int (n : Nat)) = .val ((l.filter k).map g) := ih
    unfold PN
    rw [List.map_cons]
    unfold lcF
    rw [noX_val, bind_val, hc n List.mem_cons_self, noX_val, bind_val]
    cases hk : k n with
    | true =>
      rw [if_pos rfl, he n List.mem_cons_self hk, noX_val, bind_val, ih', List.filter_cons_of_pos hk]
      rfl
    | false =>
      rw [if_neg (by decide), ih', List.filter_cons_of_neg (by rw [hk]; decide)]
theorem ixT {l : List Nat} {i : Nat} (h : i < l.length) : ixP (.tup (PN l)) (.int (i : Nat)) = .val (.int ((l.getD i 0 : Nat) : Int)) := ixP_tup (by
  rw [PN_get (List.getElem?_eq_getElem h), List.getD_eq_getElem?_getD, List.getElem?_eq_getElem h]; rfl)
theorem ixL {l : List Nat} {i : Nat} (h : i < l.length) : ixP (.lst (PN l)) (.int (i : Nat)) = .val (.int ((l.getD i 0 : Nat) : Int)) := ixP_lst (by
  rw [PN_get (List.getElem?_eq_getElem h), List.getD_eq_getElem?_getD, List.getElem?_eq_getElem h]; rfl)
theorem ixLast {l : List PV} {x : PV} : ixP (.lst (l ++ [x])) (.int (-1)) = .val x := by
  unfold ixP
  have : atI (l ++ [x]) (-1) = some x := by
    have e : ixN (l.length + 1) (-1) = some l.length := by
      unfold ixN
      rw [if_neg (by decide), if_pos (by omega)]
      congr 1
      omega
    unfold atI
    rw [List.length_append, List.length_singleton, e]
    simp
  simp only [this]
theorem sized_lt {n : Nat} (h : n ≤ 10000000) : sized n = .val () := sized_small h
theorem rng2_nat {a b : Nat} (ha : a < 2 ^ 62) (hb : b < 2 ^ 62) : rng2 (.int (a : Nat)) (.int (b : Nat)) = .val (PN (List.range' a (b - a))) := by
  rw [rng2_ok ⟨by omega, by omega, by omega, by omega⟩, rngP_nat]
theorem rng1_nat {a : Nat} (ha : a < 2 ^ 62) : rng1 (.int (a : Nat)) = .val (PN (List.range a)) := by
  rw [rng1_ok (by omega) (by omega), rngP_0]
/-- enumerate, from k on -/
def enumF : Nat → List PV → List PV
  | _, [] => []
  | k, x :: r => .tup [.int (k : Nat), x] :: enumF (k + 1) r
theorem enumP_F (ps : List PV) : enumP ps = enumF 0 ps := by
  have key : ∀ (ps : List PV) (k : Nat), (List.range' k ps.length).zipWith (fun (i : Nat) p => PV.tup [.int i, p]) ps = enumF k ps := by
    intro ps
    induction ps with
    | nil => intro k; rfl
    | cons x r ih =>
      intro k
      rw [List.length_cons, List.range'_succ, List.zipWith_cons_cons, ih (k + 1)]
      rfl
  unfold enumP
  rw [List.range_eq_range', key]
theorem enumF_len : ∀ (ps : List PV) (k : Nat), (enumF k ps).length = ps.length
  | [], _ => rfl
  | _ :: r, k => congrArg (· + 1) (enumF_len r (k + 1))
/-- the dictionary of the places of numbers, from k on -/
def DX : Nat → List Nat → List (Key × PV)
  | _, [] => []
  | k, x :: r => (.inl (x : Nat), .int (k : Nat)) :: DX (k + 1) r
theorem DX_none {x : Int} : ∀ {l : List Nat} {k : Nat}, (∀ n : Nat, n ∈ l → (n : Int) ≠ x) → valP (DX k l) (.inl x) = none
  | [], _, _ => rfl
  | n :: r, k, h => by
    have ih := DX_none (x := x) (l := r) (k := k + 1) fun m hm => h m (List.mem_cons_of_mem _ hm)
    unfold valP at ih ⊢
    have hn : ¬ ((Sum.inl (n : Int) : Key) = .inl x) := fun z => h n List.mem_cons_self (Sum.inl.inj z)
    show Option.map _ (List.find? _ ((.inl (n : Int), .int (k : Nat)) :: DX (k + 1) r)) = none
    rw [List.find?_cons_of_neg (by simpa using hn)]
    exact ih
theorem DX_get {x : Nat} : ∀ {l : List Nat} {k i : Nat}, l.Nodup → l[i]? = some x → valP (DX k l) (.inl (x : Nat)) = some (.int ((k + i : Nat) : Int))
  | [], _, _, _, h => by cases h
  | n :: r, k, 0, _, h => by
    cases h
    show Option.map _ (List.find? _ ((.inl (x : Int), .int (k : Nat)) :: DX (k + 1) r)) = _
    rw [List.find?_cons_of_pos (by simp)]
    rfl
  | n :: r, k, i + 1, nd, h => by
    obtain ⟨n1, n2⟩ := List.nodup_cons.mp nd
    have h' : r[i]? = some x := h
    have ih := DX_get (l := r) (k := k + 1) (i := i) n2 h'
    have hx : x ∈ r := List.mem_of_getElem? h'
    have hn : ¬ ((Sum.inl (n : Int) : Key) = .inl (x : Nat)) := fun z => n1 (by
      have : n = x := by have := Sum.inl.inj z; omega
      rw [this]; exact hx)
    unfold valP at ih ⊢
    show Option.map _ (List.find? _ ((.inl (n : Int), .int (k : Nat)) :: DX (k + 1) r)) = _
    rw [List.find?_cons_of_neg (by simpa using hn), ih, show k + 1 + i = k + (i + 1) by omega]
theorem putP_new {kvs : List (Key × PV)} {k : Key} {v : PV} (h : valP kvs k = none) : putP kvs k v = kvs ++ [(k, v)] := by
  unfold putP
  rw [if_neg]
  intro z
  obtain ⟨kv, h1, h2⟩ := List.any_eq_true.mp z
  unfold valP at h
  rw [Option.map_eq_none_iff, List.find?_eq_none] at h
  exact h kv h1 h2
theorem valP_app {a b : List (Key × PV)} {k : Key} (h : valP a k = none) : valP (a ++ b) k = valP b k := by
  unfold valP at h ⊢
  rw [Option.map_eq_none_iff] at h
  rw [List.find?_append, h, Option.none_or]
theorem dcX : ∀ (l : List Nat) (k : Nat) (acc : List (Key × PV)), l.Nodup → (∀ n, n ∈ l → valP acc (.inl (n : Nat)) = none) →
    dcF un2 (fun (_ : PV × PV) => (Res.val true)) (fun (a : PV × PV) => (Res.val a.2)) (fun (a : PV × PV) => (Res.val a.1)) (enumF k (PN l)) acc = .val (acc ++ DX k l)
  | [], _, acc, _, _ => by
    show Res.val acc = _
    rw [show DX _ [] = [] from rfl, List.append_nil]
  | n :: r, k, acc, nd, h => by
    obtain ⟨n1, n2⟩ := List.nodup_cons.mp nd
    have hn := h n List.mem_cons_self
    have ih := dcX r (k + 1) (acc ++ [(.inl (n : Nat), .int (k : Nat))]) n2 fun m hm => by
      rw [valP_app (h m (List.mem_cons_of_mem _ hm))]
      have : ¬ ((Sum.inl (n : Int) : Key) = .inl (m : Nat)) := fun z => n1 (by
        have : n = m := by have := Sum.inl.inj z; omega
        rw [this]; exact hm)
      unfold valP
      rw [List.find?_cons_of_neg (by simpa using this)]
      rfl
    show dcF un2 _ _ _ (PV.tup [.int (k : Nat), .int (n : Nat)] :: enumF (k + 1) (PN r)) acc = _
    unfold dcF
    have hu : un2 (PV.tup [.int (k : Nat), .int (n : Nat)]) = .val (.int (k : Nat), .int (n : Nat)) := rfl
    have hk : keyP (.int (n : Nat)) = .val (.inl (n : Nat)) := rfl
    rw [hu, noX_val, bind_val, noX_val, bind_val, if_pos rfl, noX_val, bind_val, hk, bind_val, noX_val, bind_val, putP_new hn, ih, List.append_assoc]
    rfl
theorem PN_ints {l : List Nat} : PN l = (l.map fun n => ((n : Nat) : Int)).map PV.int := by
  unfold PN
  rw [List.map_map]
  rfl
theorem flR_PN {l : List Nat} : flR (.tup (PN l)) = .val (.tup (PN l)) := by
  unfold flR
  rw [PN_ints]
  simp only [allI_map]
theorem apR4_f {f : MO → PV → PV → PV → PV → Res (PV × MO)} {mo : MO} {a b c d : PV} : apR4 f mo [a, b, c, d] = f mo a b c d := rfl
/-! ### the law's pool -/
def Pl (cells : List Int) (at_ : Nat) (rest left : Int) (small : Bool) (seed turn : Int) : List (Key × PV) :=
  [(.inr "cells", .lst (cells.map PV.int)), (.inr "at", .int (at_ : Nat)), (.inr "rest", .int rest), (.inr "left", .int left), (.inr "small", .bl small), (.inr "seed", .int seed), (.inr "turn", .int turn)]
def Px (d : List (Key × PV)) : Prop := ∃ cells at_ rest left small seed turn, d = Pl cells at_ rest left small seed turn
section
variable {cells : List Int} {at_ : Nat} {rest left seed turn x : Int} {small b : Bool}
theorem pg_cells : dgetP (.dct (Pl cells at_ rest left small seed turn)) (.str "cells") = .val (.lst (cells.map PV.int)) := rfl
theorem pg_at : dgetP (.dct (Pl cells at_ rest left small seed turn)) (.str "at") = .val (.int (at_ : Nat)) := rfl
theorem pg_rest : dgetP (.dct (Pl cells at_ rest left small seed turn)) (.str "rest") = .val (.int rest) := rfl
theorem pg_left : dgetP (.dct (Pl cells at_ rest left small seed turn)) (.str "left") = .val (.int left) := rfl
theorem pg_small : dgetP (.dct (Pl cells at_ rest left small seed turn)) (.str "small") = .val (.bl small) := rfl
theorem pg_seed : dgetP (.dct (Pl cells at_ rest left small seed turn)) (.str "seed") = .val (.int seed) := rfl
theorem pg_turn : dgetP (.dct (Pl cells at_ rest left small seed turn)) (.str "turn") = .val (.int turn) := rfl
theorem pp_at {n : Nat} : putP (Pl cells at_ rest left small seed turn) (.inr "at") (.int (n : Nat)) = Pl cells n rest left small seed turn := rfl
theorem pp_rest : putP (Pl cells at_ rest left small seed turn) (.inr "rest") (.int x) = Pl cells at_ x left small seed turn := rfl
theorem pp_left : putP (Pl cells at_ rest left small seed turn) (.inr "left") (.int x) = Pl cells at_ rest x small seed turn := rfl
theorem pp_small : putP (Pl cells at_ rest left small seed turn) (.inr "small") (.bl b) = Pl cells at_ rest left b seed turn := rfl
theorem pp_turn : putP (Pl cells at_ rest left small seed turn) (.inr "turn") (.int x) = Pl cells at_ rest left small seed x := rfl
theorem p_sz : sized ((Pl cells at_ rest left small seed turn).length + 1) = .val () := sized_small (by show 8 ≤ 10000000; decide)
end
theorem keyP_str {s : Str} : keyP (.str s) = .val (.inr s) := rfl
def GoodD (m : Int) (R : Res (PV × MO)) : Prop := ∃ r d', R = .val (.int r, .dct d') ∧ 0 ≤ r ∧ r < m ∧ Px d'
theorem partD {m : Int} {M : Res (Fl (List (Key × PV)) Empty)} {N : List (Key × PV) → Res (Fl MO Empty)} (h1 : ∃ d, M = .val (.nx d) ∧ Px d) (h2 : ∀ d, Px d → GoodD m (retR (N d))) : GoodD m (retR (seqF M N)) := by
  obtain ⟨d, rfl, hb⟩ := h1
  exact h2 d hb
theorem mixed_ok (c t : Int) {m : Int} (hm : 0 < m) : ∃ r : Int, m__law_mixed (.int c) (.int t) (.int m) = .val (.int r) ∧ 0 ≤ r ∧ r < m := by
  have m1 : ∀ a, mulP (.int a) (.int 48271) = .val (.int (a * 48271)) := fun a => mulP_r (by decide) (by decide)
  have m2 : ∀ a, mulP (.int a) (.int 1000000000039) = .val (.int (a * 1000000000039)) := fun a => mulP_r (by decide) (by decide)
  have m3 : ∀ a, mulP (.int a) (.int 7046029254386353) = .val (.int (a * 7046029254386353)) := fun a => mulP_r (by decide) (by decide)
  obtain ⟨o, e, h1, h2⟩ := modP_ex (x := c * 48271 + t * 1000000000039 + 12345678910111213) (b := 2305843009213693951) (by decide)
  have m5 : mulP (.int o) (.int o) = .val (.int (o * o)) := mulP_l (by omega) (by omega)
  obtain ⟨r, e2, _⟩ := modP_ex (x := (o * o + t) * 7046029254386353) (b := 2305843009213693951) (by decide)
  have f8 : fdivP (.int r) (.int 8) = .val (.int (r / 8)) := fdivP_pos (by decide) (by decide)
  obtain ⟨z, e3, h3⟩ := modP_ex (x := r / 8) hm
  refine ⟨z, ?_, h3⟩
  unfold m__law_mixed
  simp -implicitDefEqProofs only [bind_val, asB_bl, if_true, Bool.not_true, Bool.not_false, Bool.false_eq_true, if_false, retF_rt, seqF_nx, seqF_rt, asSq_lst, asSq_tup, partP_int, leP_int, ltP_int, gtP_int, geP_int, addP_int, subP_int, intP_int, tupleP_lst, asLi_lst, m1, m2, e, m5, m3, e2, f8, e3]
theorem take_ok {d : List (Key × PV)} (hd : Px d) {m : Int} (hm : 0 < m) (hm2 : m < 1073741824) : GoodD m (m__law_take (.dct d) (.int m)) := by
  obtain ⟨cells, a, rest, left, small, seed, turn, rfl⟩ := hd
  have p18 : powP (.int 10) (.int 18) = .val (.int 1000000000000000000) := rfl
  have c0 : eqP (.int left) (.int 0) = .val (.bl (decide (left = 0))) := eqP_int
  have mk : mkL [PV.int 60, PV.int 2] = .val (.lst [PV.int 60, PV.int 2]) := mkL_ok (by show 2 ≤ 10000000; decide)
  have ll : lenP (.lst (cells.map PV.int)) = .val (.int (cells.length : Nat)) := by rw [lenP_lst, List.length_map]
  have c1 : ∀ a : Nat, ((a : Nat) : Int) + 1 = ((a + 1 : Nat) : Int) := fun _ => rfl
  unfold m__law_take
  simp -implicitDefEqProofs only [bind_val, asB_bl, if_true, Bool.not_true, Bool.not_false, Bool.false_eq_true, if_false, retF_rt, seqF_nx, seqF_rt, asSq_lst, asSq_tup, partP_int, leP_int, ltP_int, gtP_int, geP_int, addP_int, subP_int, intP_int, tupleP_lst, asLi_lst, pg_turn, keyP_str, p_sz, pp_turn]
  refine partD ?_ ?_
  · by_cases h1 : left = 0
    · by_cases h2 : (a : Int) < (cells.length : Int)
      · have ic : ixP (.lst (cells.map PV.int)) (.int (a : Nat)) = .val (.int (cells.getD a 0)) := ixP_lst (by
          rw [List.getElem?_map, List.getElem?_eq_getElem (by omega), List.getD_eq_getElem?_getD, List.getElem?_eq_getElem (by omega)]; rfl)
        cases h3 : decide (cells.getD a 0 < 1000000000000000000) with
        | true =>
          have ix : ixP (.lst [PV.int 60, PV.int 2]) (.int 1) = .val (.int 2) := rfl
          refine ⟨Pl cells (a + 1) (cells.getD a 0) 2 true seed (turn + 1), ?_, ⟨_, _, _, _, _, _, _, rfl⟩⟩
          simp -implicitDefEqProofs only [bind_val, asB_bl, if_true, Bool.not_true, Bool.not_false, Bool.false_eq_true, if_false, retF_rt, seqF_nx, seqF_rt, asSq_lst, asSq_tup, partP_int, leP_int, ltP_int, gtP_int, geP_int, addP_int, subP_int, intP_int, tupleP_lst, asLi_lst, pg_left, c0, decide_eq_true h1, pg_at, pg_cells, ll, decide_eq_true h2, ic, keyP_str, p_sz, pp_rest, c1, pp_at, pg_rest, p18, h3, pp_small, mk, pg_small, intP_bl, ix, pp_left]
        | false =>
          have ix : ixP (.lst [PV.int 60, PV.int 2]) (.int 0) = .val (.int 60) := rfl
          refine ⟨Pl cells (a + 1) (cells.getD a 0) 60 false seed (turn + 1), ?_, ⟨_, _, _, _, _, _, _, rfl⟩⟩
          simp -implicitDefEqProofs only [bind_val, asB_bl, if_true, Bool.not_true, Bool.not_false, Bool.false_eq_true, if_false, retF_rt, seqF_nx, seqF_rt, asSq_lst, asSq_tup, partP_int, leP_int, ltP_int, gtP_int, geP_int, addP_int, subP_int, intP_int, tupleP_lst, asLi_lst, pg_left, c0, decide_eq_true h1, pg_at, pg_cells, ll, decide_eq_true h2, ic, keyP_str, p_sz, pp_rest, c1, pp_at, pg_rest, p18, h3, pp_small, mk, pg_small, intP_bl, ix, pp_left]
      · refine ⟨_, ?_, ⟨cells, a, rest, left, small, seed, turn + 1, rfl⟩⟩
        simp -implicitDefEqProofs only [bind_val, asB_bl, if_true, Bool.not_true, Bool.not_false, Bool.false_eq_true, if_false, retF_rt, seqF_nx, seqF_rt, asSq_lst, asSq_tup, partP_int, leP_int, ltP_int, gtP_int, geP_int, addP_int, subP_int, intP_int, tupleP_lst, asLi_lst, pg_left, c0, decide_eq_true h1, pg_at, pg_cells, ll, decide_eq_false h2]
    · refine ⟨_, ?_, ⟨cells, a, rest, left, small, seed, turn + 1, rfl⟩⟩
      simp -implicitDefEqProofs only [bind_val, asB_bl, if_true, Bool.not_true, Bool.not_false, Bool.false_eq_true, if_false, retF_rt, seqF_nx, seqF_rt, asSq_lst, asSq_tup, partP_int, leP_int, ltP_int, gtP_int, geP_int, addP_int, subP_int, intP_int, tupleP_lst, asLi_lst, pg_left, c0, decide_eq_false h1]
  · intro d hd
    obtain ⟨cells, a, rest, left, small, seed, turn, rfl⟩ := hd
    have c0 : eqP (.int left) (.int 0) = .val (.bl (decide (left = 0))) := eqP_int
    obtain ⟨r1, e1, h1⟩ := mixed_ok seed turn hm
    obtain ⟨r2, e2, h2⟩ := mixed_ok rest turn hm
    obtain ⟨r3, e3, h3⟩ := modP_ex (x := rest) hm
    by_cases hl : left = 0
    · refine ⟨r1, Pl cells a rest left small seed turn, ?_, h1.1, h1.2, ⟨_, _, _, _, _, _, _, rfl⟩⟩
      simp -implicitDefEqProofs only [bind_val, asB_bl, if_true, Bool.not_true, Bool.not_false, Bool.false_eq_true, if_false, retF_rt, seqF_nx, seqF_rt, asSq_lst, asSq_tup, partP_int, leP_int, ltP_int, gtP_int, geP_int, addP_int, subP_int, intP_int, tupleP_lst, asLi_lst, pg_left, c0, decide_eq_true hl, pg_seed, pg_turn, e1, retR_rt]
    · cases small with
      | true =>
        refine ⟨r2, Pl cells a rest (left - 1) true seed turn, ?_, h2.1, h2.2, ⟨_, _, _, _, _, _, _, rfl⟩⟩
        simp -implicitDefEqProofs only [bind_val, asB_bl, if_true, Bool.not_true, Bool.not_false, Bool.false_eq_true, if_false, retF_rt, seqF_nx, seqF_rt, asSq_lst, asSq_tup, partP_int, leP_int, ltP_int, gtP_int, geP_int, addP_int, subP_int, intP_int, tupleP_lst, asLi_lst, pg_left, c0, decide_eq_false hl, keyP_str, p_sz, pp_left, pg_small, pg_rest, pg_turn, e2, retR_rt]
      | false =>
        have z0 : eqP (.int (rest / m)) (.int 0) = .val (.bl (decide (rest / m = 0))) := eqP_int
        cases hz : decide (rest / m = 0) with
        | true =>
          refine ⟨r3, Pl cells a (rest / m) 0 false seed turn, ?_, h3.1, h3.2, ⟨_, _, _, _, _, _, _, rfl⟩⟩
          simp -implicitDefEqProofs only [bind_val, asB_bl, if_true, Bool.not_true, Bool.not_false, Bool.false_eq_true, if_false, retF_rt, seqF_nx, seqF_rt, asSq_lst, asSq_tup, partP_int, leP_int, ltP_int, gtP_int, geP_int, addP_int, subP_int, intP_int, tupleP_lst, asLi_lst, pg_left, c0, decide_eq_false hl, keyP_str, p_sz, pp_left, pg_small, pg_rest, e3, fdivP_pos hm hm2, pp_rest, z0, hz, retR_rt]
        | false =>
          refine ⟨r3, Pl cells a (rest / m) (left - 1) false seed turn, ?_, h3.1, h3.2, ⟨_, _, _, _, _, _, _, rfl⟩⟩
          simp -implicitDefEqProofs only [bind_val, asB_bl, if_true, Bool.not_true, Bool.not_false, Bool.false_eq_true, if_false, retF_rt, seqF_nx, seqF_rt, asSq_lst, asSq_tup, partP_int, leP_int, ltP_int, gtP_int, geP_int, addP_int, subP_int, intP_int, tupleP_lst, asLi_lst, pg_left, c0, decide_eq_false hl, keyP_str, p_sz, pp_left, pg_small, pg_rest, e3, fdivP_pos hm hm2, pp_rest, z0, hz, retR_rt]
theorem take_nat {d : List (Key × PV)} (hd : Px d) {m : Nat} (hm : 0 < m) (hm2 : m < 1073741824) : ∃ (r : Nat) (d' : List (Key × PV)), m__law_take (.dct d) (.int (m : Nat)) = .val (.int (r : Nat), .dct d') ∧ r < m ∧ Px d' := by
  obtain ⟨r, d', e, h0, h1, hb'⟩ := take_ok hd (m := (m : Nat)) (by omega) (by omega)
  obtain ⟨n, rfl⟩ := Int.eq_ofNat_of_zero_le h0
  exact ⟨n, d', e, by omega, hb'⟩
/-! ### numbers: powers modulo a prime, subgroups by trying all -/
theorem pm_odd (r s e p : Nat) (h : e % 2 = 1) : (r * s % p) * (s * s % p) ^ (e / 2) % p = r * s ^ e % p := by
  have he : e = e / 2 + e / 2 + 1 := by omega
  have h1 : s ^ e = s * (s * s) ^ (e / 2) := by
    conv => lhs; rw [he]
    rw [Nat.pow_succ, Nat.pow_add, ← Nat.mul_pow, Nat.mul_comm]
  rw [h1, ← Nat.mul_assoc, Nat.mul_mod (r * s % p), Nat.mul_mod (r * s), Nat.mod_mod, ← Nat.pow_mod]
theorem pm_even (r s e p : Nat) (h : e % 2 = 0) : r * (s * s % p) ^ (e / 2) % p = r * s ^ e % p := by
  have he : e = e / 2 + e / 2 := by omega
  have h1 : s ^ e = (s * s) ^ (e / 2) := by
    conv => lhs; rw [he]
    rw [Nat.pow_add, ← Nat.mul_pow]
  rw [h1, Nat.mul_mod r, Nat.mul_mod r ((s * s) ^ (e / 2)), ← Nat.pow_mod]
theorem pow_red {g p q : Nat} (h : g ^ q % p = 1 % p) (n : Nat) : g ^ n % p = g ^ (n % q) % p := by
  have h1 : g ^ n = (g ^ q) ^ (n / q) * g ^ (n % q) := by
    rw [← Nat.pow_mul, ← Nat.pow_add, Nat.div_add_mod]
  rw [h1, Nat.mul_mod, Nat.pow_mod, h, ← Nat.pow_mod, Nat.one_pow, ← Nat.mul_mod, Nat.one_mul]
def memN (p q : Nat) : List Nat := (List.range' 1 (p - 1)).filter fun x => Nat.beq (x ^ q % p) 1
def powL (g p q : Nat) : List Nat := (List.range q).map fun i => g ^ i % p
def hasN (x : Nat) : List Nat → Bool
  | [] => false
  | y :: r => (Nat.beq x y) || hasN x r
def ndN : List Nat → Bool
  | [] => true
  | y :: r => (!hasN y r) && ndN r
def prB (n : Nat) : Bool := Nat.ble 2 n && (List.range' 2 38).all fun k => Nat.blt n (k * k) || !(Nat.beq (n % k) 0)
def fbN (p e : Nat) : List Nat → Nat → Nat
  | [], c => c
  | a :: l, _ => if Nat.beq (a ^ e % p) 1 = true then fbN p e l (a ^ e % p) else a ^ e % p
def baseN (p q : Nat) : Nat := fbN p ((p - 1) / q) (List.range' 2 (p - 2)) 1
def chkN (p q : Nat) : Bool := match memN p q with
  | 1 :: g :: r => Nat.beq (r.length + 2) q && Nat.beq (g ^ q % p) 1 && (powL g p q).all (fun x => hasN x (1 :: g :: r)) && (1 :: g :: r).all (fun x => hasN x (powL g p q)) && ndN (powL g p q)
      && (1 :: g :: r).all (fun x => hasN x (powL (baseN p q) p q)) && Nat.beq (baseN p q ^ q % p) 1
  | _ => false
def goodN (p q : Nat) : Bool := Nat.ble p 1000 && Nat.ble 3 q && Nat.ble q 127 && prB p && prB q && Nat.beq ((p - 1) % q) 0
def allN : Bool := (List.range 1001).all fun p => !prB p || (List.range 128).all fun q => !goodN p q || chkN p q
theorem allN_true : allN = true := by decide +kernel
theorem hasN_iff {x : Nat} : ∀ {l : List Nat}, hasN x l = true ↔ x ∈ l
  | [] => ⟨fun h => (nomatch h), fun h => (nomatch h)⟩
  | y :: r => by
    unfold hasN
    rw [Bool.or_eq_true, hasN_iff, List.mem_cons, Nat.beq_eq]
theorem ndN_nodup : ∀ {l : List Nat}, ndN l = true → l.Nodup
  | [], _ => List.nodup_nil
  | y :: r, h => by
    unfold ndN at h
    rw [Bool.and_eq_true, Bool.not_eq_true', Bool.eq_false_iff] at h
    exact List.nodup_cons.mpr ⟨fun z => h.1 (hasN_iff.mpr z), ndN_nodup h.2⟩
theorem powL_get {g p q i : Nat} (h : i < (powL g p q).length) : (powL g p q)[i] = g ^ i % p := by simp [powL]
/-- the subgroup of order q modulo p, with its generator g -/
structure PG (p q g : Nat) : Prop where
  p1 : p ≤ 1000
  q3 : 3 ≤ q
  q127 : q ≤ 127
  pp : prB p = true
  qp : prB q = true
  dv : (p - 1) % q = 0
  p2 : 2 ≤ p
  h0 : (memN p q)[0]? = some 1
  h1 : (memN p q)[1]? = some g
  len : (memN p q).length = q
  gq : g ^ q % p = 1
  all : ∀ x, x ∈ memN p q → ∃ i, i < q ∧ g ^ i % p = x
  ins : ∀ i, i < q → g ^ i % p ∈ memN p q
  inj : ∀ i j, i < q → j < q → g ^ i % p = g ^ j % p → i = j
  bas : ∀ x, x ∈ memN p q → ∃ i, i < q ∧ baseN p q ^ i % p = x
  bq : baseN p q ^ q % p = 1
theorem pg {p q : Nat} (h : goodN p q = true) : ∃ g, PG p q g := by
  have h' := h
  unfold goodN at h'
  simp only [Bool.and_eq_true, Nat.ble_eq, Nat.beq_eq] at h'
  obtain ⟨⟨⟨⟨⟨h1, h2⟩, h3⟩, h4⟩, h5⟩, h6⟩ := h'
  have p2 : 2 ≤ p := by
    have := h4
    unfold prB at this
    rw [Bool.and_eq_true, Nat.ble_eq] at this
    exact this.1
  have a := List.all_eq_true.mp allN_true p (List.mem_range.mpr (by omega))
  rw [h4, Bool.not_true, Bool.false_or] at a
  have b := List.all_eq_true.mp a q (List.mem_range.mpr (by omega))
  rw [h, Bool.not_true, Bool.false_or] at b
  unfold chkN at b
  split at b
  · next g r e =>
    simp only [Bool.and_eq_true, Nat.beq_eq] at b
    obtain ⟨⟨⟨⟨⟨⟨b1, b2⟩, b3⟩, b4⟩, b5⟩, b6⟩, b7⟩ := b
    have nd := ndN_nodup b5
    rw [← e] at b3 b4 b6
    refine ⟨g, h1, h2, h3, h4, h5, h6, p2, by rw [e]; rfl, by rw [e]; rfl, by rw [e]; exact b1, b2, fun x hx => ?_, fun i hi => ?_, fun i j hi hj hh => ?_, fun x hx => ?_, b7⟩
    · obtain ⟨i, hi, e⟩ := List.mem_map.mp (hasN_iff.mp (List.all_eq_true.mp b4 x hx))
      exact ⟨i, List.mem_range.mp hi, e⟩
    · exact hasN_iff.mp (List.all_eq_true.mp b3 _ (List.mem_map.mpr ⟨i, List.mem_range.mpr hi, rfl⟩))
    · have li : i < (powL g p q).length := by unfold powL; rw [List.length_map, List.length_range]; exact hi
      have lj : j < (powL g p q).length := by unfold powL; rw [List.length_map, List.length_range]; exact hj
      refine (List.getElem_inj (h₀ := li) (h₁ := lj) nd).mp ?_
      rw [powL_get li, powL_get lj]
      exact hh
    · obtain ⟨i, hi, e⟩ := List.mem_map.mp (hasN_iff.mp (List.all_eq_true.mp b6 x hx))
      exact ⟨i, List.mem_range.mp hi, e⟩
  · cases b
theorem mem_memN {p q x : Nat} : x ∈ memN p q ↔ 1 ≤ x ∧ x < p ∧ x ^ q % p = 1 := by
  unfold memN
  rw [List.mem_filter, List.mem_range'_1, Nat.beq_eq]
  constructor
  · rintro ⟨⟨a, b⟩, c⟩
    exact ⟨a, by omega, c⟩
  · rintro ⟨a, b, c⟩
    exact ⟨⟨a, by omega⟩, c⟩
def invAll : Bool := (List.range 128).all fun q => !prB q || (List.range q).all fun c => Nat.beq c 0 || (List.range q).any fun d => Nat.beq (c * d % q) 1
theorem invAll_true : invAll = true := by decide +kernel
theorem invN {q c : Nat} (hq : prB q = true) (h127 : q ≤ 127) (hc : c < q) (h0 : c ≠ 0) : ∃ d, d < q ∧ c * d % q = 1 := by
  have a := List.all_eq_true.mp invAll_true q (List.mem_range.mpr (by omega))
  rw [hq, Bool.not_true, Bool.false_or] at a
  have b := List.all_eq_true.mp a c (List.mem_range.mpr hc)
  rw [show Nat.beq c 0 = false from Bool.eq_false_iff.mpr fun z => h0 (Nat.beq_eq.mp z), Bool.false_or] at b
  obtain ⟨d, hd, e⟩ := List.any_eq_true.mp b
  exact ⟨d, List.mem_range.mp hd, Nat.beq_eq.mp e⟩
/-! ### mirrors: primes, powers -/
def tb : Res PV → Bool → Bool
  | .val (.bl a), b => a == b
  | _, _ => false
theorem tb_eq {r : Res PV} {b : Bool} (h : tb r b = true) : r = .val (.bl b) := by
  unfold tb at h
  split at h
  · rw [eq_of_beq h]
  · cases h
theorem reckP : ((List.range 1601).all fun n => tb (m_is_prime (.int n)) (prB n)) = true := by decide +kernel
theorem reckL : ((List.range 1001).all fun n => tb (m__law_is_prime (.int n)) (prB n)) = true := by decide +kernel
theorem isPrime {n : Nat} (h : n < 1601) : m_is_prime (.int (n : Nat)) = .val (.bl (prB n)) ∧ True :=
  ⟨tb_eq (List.all_eq_true.mp reckP n (List.mem_range.mpr h)), trivial⟩
theorem lawPrime {n : Nat} (h : n < 1001) : m__law_is_prime (.int (n : Nat)) = .val (.bl (prB n)) := tb_eq (List.all_eq_true.mp reckL n (List.mem_range.mpr h))
theorem isPrime_neg {n : Int} (h : n < 2) : m_is_prime (.int n) = .val (.bl false) := by
  unfold m_is_prime
  simp -implicitDefEqProofs only [bind_val, asB_bl, if_true, Bool.not_true, Bool.not_false, Bool.false_eq_true, if_false, retF_rt, seqF_nx, seqF_rt, asSq_lst, asSq_tup, partP_int, leP_int, ltP_int, gtP_int, geP_int, addP_int, subP_int, intP_int, tupleP_lst, asLi_lst, decide_eq_true h]
theorem eqP_nat {a b : Nat} : eqP (.int (a : Nat)) (.int (b : Nat)) = .val (.bl (Nat.beq a b)) := by
  rw [eqP_int]
  by_cases c : a = b
  · subst c
    rw [decide_eq_true rfl, Nat.beq_refl]
  · rw [decide_eq_false (by omega), show Nat.beq a b = false from Bool.eq_false_iff.mpr fun z => c (Nat.beq_eq.mp z)]
theorem mulP_nat {a b : Nat} (h : a < 2 ^ 64) : mulP (.int (a : Nat)) (.int (b : Nat)) = .val (.int ((a * b : Nat) : Int)) := by
  rw [mulP_l (by omega) (by omega)]; rfl
theorem powmod_ok {x e p : Nat} (hx : x < 100000) (he : e < 100000) (h1 : 2 ≤ p) (h2 : p < 100000) : m__power_modulo (.int (x : Nat)) (.int (e : Nat)) (.int (p : Nat)) = .val (.int ((x ^ e % p : Nat) : Int)) := by
  have z2 : ∀ n : Nat, modP (.int (n : Nat)) (.int 2) = .val (.int ((n % 2 : Nat) : Int)) := fun n => modP_nat (b := 2) (by decide)
  have d2 : ∀ n : Nat, fdivP (.int (n : Nat)) (.int 2) = .val (.int ((n / 2 : Nat) : Int)) := fun n => fdivP_nat (b := 2) (by decide) (by decide)
  have q1 : ∀ n : Nat, eqP (.int (n : Nat)) (.int 1) = .val (.bl (Nat.beq n 1)) := fun n => eqP_nat (b := 1)
  have key : ∀ (n e r s : Nat), e < n → r < p → s < 100000 → ∃ s' : PV × PV × PV, whileF (L := Empty) (fun (s3 : PV × PV × PV) => (((Res.val s3.2.2) >>= fun x4 => (Res.val (PV.int 0)) >>= fun x5 => gtP x4 x5) >>= asB)) (fun (s3 : PV × PV × PV) => (seqF (S1 := PV) (((((Res.val s3.2.2) >>= fun x6 => (Res.val (PV.int 2)) >>= fun x7 => modP x6 x7) >>= fun x8 => (Res.val (PV.int 1)) >>= fun x9 => eqP x8 x9) >>= asB) >>= fun b10 => if b10 = true then ((((Res.val s3.1) >>= fun x12 => (Res.val s3.2.1) >>= fun x13 => mulP x12 x13) >>= fun x14 => (Res.val (PV.int (p : Nat))) >>= fun x15 => modP x14 x15) >>= fun x16 => (Res.val (.nx x16))) else (Res.val (.nx s3.1))) fun s11 => ((((Res.val s3.2.1) >>= fun x17 => (Res.val s3.2.1) >>= fun x18 => mulP x17 x18) >>= fun x19 => (Res.val (PV.int (p : Nat))) >>= fun x20 => modP x19 x20) >>= fun x21 => (((Res.val s3.2.2) >>= fun x22 => (Res.val (PV.int 2)) >>= fun x23 => fdivP x22 x23) >>= fun x24 => (Res.val (.nx (s11, x21, x24))))))) n (.int (r : Nat), .int (s : Nat), .int (e : Nat)) = .val (.nx s') ∧ s'.1 = .int ((r * s ^ e % p : Nat) : Int) := by
    intro n
    induction n with
    | zero => intro e r s h; omega
    | succ n ih =>
      intro e r s h hr hs
      unfold whileF
      by_cases c : e = 0
      · subst c
        have g : ¬ (0 : Int) < ((0 : Nat) : Int) := by omega
        refine ⟨(.int (r : Nat), .int (s : Nat), .int ((0 : Nat) : Int)), ?_, ?_⟩
        · simp -implicitDefEqProofs only [bind_val, asB_bl, if_true, Bool.not_true, Bool.not_false, Bool.false_eq_true, if_false, retF_rt, seqF_nx, seqF_rt, asSq_lst, asSq_tup, partP_int, leP_int, ltP_int, gtP_int, geP_int, addP_int, subP_int, intP_int, tupleP_lst, asLi_lst, decide_eq_false g]
        · rw [Nat.pow_zero, Nat.mul_one, Nat.mod_eq_of_lt hr]
      · have g : (0 : Int) < ((e : Nat) : Int) := by omega
        have sq : s * s % p < 100000 := Nat.lt_trans (Nat.mod_lt _ (by omega)) h2
        rcases Nat.mod_two_eq_zero_or_one e with ee | ee
        · obtain ⟨s', h1', h2'⟩ := ih (e / 2) r (s * s % p) (by omega) hr sq
          refine ⟨s', ?_, by rw [h2', pm_even _ _ _ _ ee]⟩
          have b1 : Nat.beq 0 1 = false := rfl
          simp -implicitDefEqProofs only [bind_val, asB_bl, if_true, Bool.not_true, Bool.not_false, Bool.false_eq_true, if_false, retF_rt, seqF_nx, seqF_rt, asSq_lst, asSq_tup, partP_int, leP_int, ltP_int, gtP_int, geP_int, addP_int, subP_int, intP_int, tupleP_lst, asLi_lst, decide_eq_true g, z2, ee, q1, b1, mulP_nat (show s < 2 ^ 64 by omega), modP_nat (show 0 < p by omega), d2]
          exact h1'
        · obtain ⟨s', h1', h2'⟩ := ih (e / 2) (r * s % p) (s * s % p) (by omega) (Nat.mod_lt _ (by omega)) sq
          refine ⟨s', ?_, by rw [h2', pm_odd _ _ _ _ ee]⟩
          have b1 : Nat.beq 1 1 = true := rfl
          simp -implicitDefEqProofs only [bind_val, asB_bl, if_true, Bool.not_true, Bool.not_false, Bool.false_eq_true, if_false, retF_rt, seqF_nx, seqF_rt, asSq_lst, asSq_tup, partP_int, leP_int, ltP_int, gtP_int, geP_int, addP_int, subP_int, intP_int, tupleP_lst, asLi_lst, decide_eq_true g, z2, ee, q1, b1, mulP_nat (show s < 2 ^ 64 by omega), mulP_nat (show r < 2 ^ 64 by omega), modP_nat (show 0 < p by omega), d2]
          exact h1'
  obtain ⟨s', h1', h2'⟩ := key FUEL e 1 x (Nat.lt_of_lt_of_le he (by decide)) (by omega) hx
  unfold m__power_modulo
  have h1'' := h1'
  change whileF _ _ FUEL (PV.int 1, PV.int (x : Nat), PV.int (e : Nat)) = _ at h1''
  simp -implicitDefEqProofs only [bind_val] at h1''
  simp -implicitDefEqProofs only [bind_val, asB_bl, if_true, Bool.not_true, Bool.not_false, Bool.false_eq_true, if_false, retF_rt, seqF_nx, seqF_rt, asSq_lst, asSq_tup, partP_int, leP_int, ltP_int, gtP_int, geP_int, addP_int, subP_int, intP_int, tupleP_lst, asLi_lst, h1'', h2', Nat.one_mul]
theorem lawpower_ok {x e p : Nat} (hx : x < 100000) (he : e < 1024) (h1 : 2 ≤ p) (h2 : p < 100000) : m__law_power (.int (x : Nat)) (.int (e : Nat)) (.int (p : Nat)) = .val (.int ((x ^ e % p : Nat) : Int)) := by
  have z2 : ∀ n : Nat, modP (.int (n : Nat)) (.int 2) = .val (.int ((n % 2 : Nat) : Int)) := fun n => modP_nat (b := 2) (by decide)
  have d2 : ∀ n : Nat, fdivP (.int (n : Nat)) (.int 2) = .val (.int ((n / 2 : Nat) : Int)) := fun n => fdivP_nat (b := 2) (by decide) (by decide)
  have q1 : ∀ n : Nat, eqP (.int (n : Nat)) (.int 1) = .val (.bl (Nat.beq n 1)) := fun n => eqP_nat (b := 1)
  have key : ∀ (ps : List PV) (e r s : Nat), e < 2 ^ ps.length → r < p → s < 100000 → ∃ s' : PV × PV × PV, forF (L := Empty) (fun (x26 : PV) (s4 : PV × PV × PV) => (fun x => Res.val x) x26 >>= fun (a5 : PV) => (seqF (S1 := PV) ((((((Res.val s4.2.1) >>= intP) >>= fun x6 => (Res.val (PV.int 2)) >>= fun x7 => modP x6 x7) >>= fun x8 => (Res.val (PV.int 1)) >>= fun x9 => eqP x8 x9) >>= asB) >>= fun b10 => if b10 = true then (((((Res.val s4.1) >>= fun x12 => (Res.val s4.2.2) >>= fun x13 => mulP x12 x13) >>= intP) >>= fun x14 => (Res.val (PV.int (p : Nat))) >>= fun x15 => modP x14 x15) >>= fun x16 => (Res.val (.nx x16))) else (Res.val (.nx s4.1))) fun s11 => (((Res.val s4.2.1) >>= fun x17 => (Res.val (PV.int 2)) >>= fun x18 => fdivP x17 x18) >>= fun x19 => (((((Res.val s4.2.2) >>= fun x20 => (Res.val s4.2.2) >>= fun x21 => mulP x20 x21) >>= intP) >>= fun x22 => (Res.val (PV.int (p : Nat))) >>= fun x23 => modP x22 x23) >>= fun x24 => (Res.val (.nx (s11, x19, x24))))))) ps (.int (r : Nat), .int (e : Nat), .int (s : Nat)) = .val (.nx s') ∧ s'.1 = .int ((r * s ^ e % p : Nat) : Int) := by
    intro ps
    induction ps with
    | nil =>
      intro e r s h hr hs
      have c : e = 0 := by simp only [List.length_nil, Nat.pow_zero] at h; omega
      subst c
      exact ⟨_, rfl, by rw [Nat.pow_zero, Nat.mul_one, Nat.mod_eq_of_lt hr]⟩
    | cons t ps ih =>
      intro e r s h hr hs
      rw [List.length_cons, Nat.pow_succ] at h
      unfold forF
      have sq : s * s % p < 100000 := Nat.lt_trans (Nat.mod_lt _ (by omega)) h2
      rcases Nat.mod_two_eq_zero_or_one e with ee | ee
      · obtain ⟨s', h1', h2'⟩ := ih (e / 2) r (s * s % p) (by omega) hr sq
        refine ⟨s', ?_, by rw [h2', pm_even _ _ _ _ ee]⟩
        have b1 : Nat.beq 0 1 = false := rfl
        simp -implicitDefEqProofs only [bind_val, asB_bl, if_true, Bool.not_true, Bool.not_false, Bool.false_eq_true, if_false, retF_rt, seqF_nx, seqF_rt, asSq_lst, asSq_tup, partP_int, leP_int, ltP_int, gtP_int, geP_int, addP_int, subP_int, intP_int, tupleP_lst, asLi_lst, z2, ee, q1, b1, mulP_nat (show s < 2 ^ 64 by omega), modP_nat (show 0 < p by omega), d2]
        exact h1'
      · obtain ⟨s', h1', h2'⟩ := ih (e / 2) (r * s % p) (s * s % p) (by omega) (Nat.mod_lt _ (by omega)) sq
        refine ⟨s', ?_, by rw [h2', pm_odd _ _ _ _ ee]⟩
        have b1 : Nat.beq 1 1 = true := rfl
        simp -implicitDefEqProofs only [bind_val, asB_bl, if_true, Bool.not_true, Bool.not_false, Bool.false_eq_true, if_false, retF_rt, seqF_nx, seqF_rt, asSq_lst, asSq_tup, partP_int, leP_int, ltP_int, gtP_int, geP_int, addP_int, subP_int, intP_int, tupleP_lst, asLi_lst, z2, ee, q1, b1, mulP_nat (show s < 2 ^ 64 by omega), mulP_nat (show r < 2 ^ 64 by omega), modP_nat (show 0 < p by omega), d2]
        exact h1'
  obtain ⟨s', h1', h2'⟩ := key (rngP 0 10) e 1 x (by rw [show (rngP 0 10).length = 10 from rfl]; exact he) (by omega) hx
  have r12 : rng1 (.int 10) = .val (rngP 0 10) := rng1_ok (by decide) (by decide)
  unfold m__law_power
  have h1'' := h1'
  change forF _ _ (PV.int 1, PV.int (e : Nat), PV.int (x : Nat)) = _ at h1''
  simp -implicitDefEqProofs only [bind_val] at h1''
  simp -implicitDefEqProofs only [bind_val, asB_bl, if_true, Bool.not_true, Bool.not_false, Bool.false_eq_true, if_false, retF_rt, seqF_nx, seqF_rt, asSq_lst, asSq_tup, partP_int, leP_int, ltP_int, gtP_int, geP_int, addP_int, subP_int, intP_int, tupleP_lst, asLi_lst, r12, h1'', h2', Nat.one_mul]
/-! ### loops -/
theorem forF_find {S L : Type} {body : PV → S → Res (Fl S S)} {Good : PV → List MO → Prop} {s : S} : ∀ {ps : List PV}, (∀ p, p ∈ ps → body p s = .val (.nx s) ∨ ∃ v r, body p s = .val (.rt v r) ∧ Good v r) →
    (forF (L := L) body ps s = .val (.nx s) ∧ ∀ p, p ∈ ps → body p s = .val (.nx s)) ∨ ∃ v r, forF (L := L) body ps s = .val (.rt v r) ∧ Good v r
  | [], _ => .inl ⟨rfl, fun _ h => (nomatch h)⟩
  | p :: ps, h => by
    unfold forF
    rcases h p List.mem_cons_self with e | ⟨v, r, e, g⟩
    · rcases forF_find (L := L) (fun q hq => h q (List.mem_cons_of_mem _ hq)) with ⟨e2, a⟩ | ⟨v, r, e2, g⟩
      · rw [e]
        exact .inl ⟨e2, fun q hq => by
          rcases List.mem_cons.mp hq with rfl | hq
          · exact e
          · exact a q hq⟩
      · rw [e]
        exact .inr ⟨v, r, e2, g⟩
    · rw [e]
      exact .inr ⟨v, r, rfl, g⟩
theorem forF_same {S L : Type} {body : PV → S → Res (Fl S S)} {s : S} : ∀ {ps : List PV}, (∀ p, p ∈ ps → body p s = .val (.nx s)) → forF (L := L) body ps s = .val (.nx s)
  | [], _ => rfl
  | p :: ps, h => by
    unfold forF
    rw [h p List.mem_cons_self]
    exact forF_same fun q hq => h q (List.mem_cons_of_mem _ hq)
theorem forF_inv {S L : Type} {body : PV → S → Res (Fl S S)} {I : S → Prop} : ∀ {ps : List PV} {s : S}, I s → (∀ p, p ∈ ps → ∀ s, I s → ∃ s', body p s = .val (.nx s') ∧ I s') → ∃ s', forF (L := L) body ps s = .val (.nx s') ∧ I s'
  | [], s, h, _ => ⟨s, rfl, h⟩
  | p :: ps, s, h, hb => by
    obtain ⟨s1, e, h1⟩ := hb p List.mem_cons_self s h
    obtain ⟨s2, e2, h2⟩ := forF_inv (L := L) h1 fun q hq => hb q (List.mem_cons_of_mem _ hq)
    refine ⟨s2, ?_, h2⟩
    unfold forF
    rw [e]
    exact e2
theorem neP_nat {a b : Nat} : neP (.int (a : Nat)) (.int (b : Nat)) = .val (.bl (!Nat.beq a b)) := by
  have h : (decide ((a : Int) = (b : Int))) = Nat.beq a b := by
    have := eqP_nat (a := a) (b := b)
    rw [eqP_int] at this
    exact PV.bl.inj (Res.val.inj this)
  rw [neP_int, h]
/-! ### groups of either kind: how they are made -/
theorem q1 (n : Nat) : eqP (.int (n : Nat)) (.int 1) = .val (.bl (Nat.beq n 1)) := eqP_nat (b := 1)
theorem memN_len {p q : Nat} : (memN p q).length ≤ p := by
  unfold memN
  exact Nat.le_trans (List.length_filter_le ..) (by rw [List.length_range']; omega)
theorem hassub_ok {p q : Nat} (h : goodN p q = true) : m__has_subgroup (.int (p : Nat)) (.int (q : Nat)) = .val (.bl true) := by
  obtain ⟨g, G⟩ := pg h
  have h1 := G.p1
  have h2 := G.q3
  have h3 := G.q127
  have h4 := G.p2
  have e1 : ¬ (1000 : Int) < (p : Nat) := by omega
  have e2 : (3 : Int) ≤ (q : Nat) := by omega
  have e3 : ((q : Nat) : Int) ≤ 127 := by omega
  have e4 : ((p : Nat) : Int) - 1 = ((p - 1 : Nat) : Int) := by omega
  have e5 : eqP (.int ((0 : Nat) : Int)) (.int 0) = .val (.bl true) := eqP_nat (a := 0) (b := 0)
  unfold m__has_subgroup
  simp -implicitDefEqProofs only [bind_val, asB_bl, if_true, Bool.not_true, Bool.not_false, Bool.false_eq_true, if_false, retF_rt, seqF_nx, seqF_rt, asSq_lst, asSq_tup, partP_int, leP_int, ltP_int, gtP_int, geP_int, addP_int, subP_int, intP_int, tupleP_lst, asLi_lst, decide_eq_false e1, decide_eq_true e2, decide_eq_true e3, (isPrime (show p < 1601 by omega)).1, (isPrime (show q < 1601 by omega)).1, G.pp, G.qp, e4, modP_nat (show 0 < q by omega), G.dv, e5]
theorem powL_len {g p q : Nat} : (powL g p q).length = q := by
  unfold powL
  rw [List.length_map, List.length_range]
theorem powL_get? {g p q i : Nat} (h : i < q) : (powL g p q)[i]? = some (g ^ i % p) := by
  unfold powL
  rw [List.getElem?_map, List.getElem?_range h]
  rfl
theorem powL_succ {g p n : Nat} : powL g p (n + 1) = powL g p n ++ [g ^ n % p] := by
  unfold powL
  rw [List.range_succ, List.map_append]
  rfl
theorem PN_app {l : List Nat} {x : Nat} : PN (l ++ [x]) = PN l ++ [.int (x : Nat)] := by
  unfold PN
  rw [List.map_append]
  rfl
theorem powL_nodup {p q g : Nat} (G : PG p q g) : (powL g p q).Nodup := List.pairwise_iff_getElem.mpr fun i j hi hj hij e => by
  have hj' := hj
  rw [powL_len] at hj'
  rw [powL_get hi, powL_get hj] at e
  have := G.inj i j (by omega) hj' e
  omega
theorem powL_mem {p q g : Nat} (G : PG p q g) {x : Nat} : x ∈ powL g p q ↔ x ∈ memN p q := by
  constructor
  · intro h
    obtain ⟨i, hi, rfl⟩ := List.mem_map.mp h
    exact G.ins i (List.mem_range.mp hi)
  · intro h
    obtain ⟨i, hi, rfl⟩ := G.all x h
    exact List.mem_map.mpr ⟨i, List.mem_range.mpr hi, rfl⟩
theorem pm_len {g p n : Nat} : (PN (powL g p n)).length = n := by rw [PN_len, powL_len]
def PL (P : Nat → Nat) (n : Nat) : List Nat := (List.range n).map P
theorem PL_len {P : Nat → Nat} {n : Nat} : (PL P n).length = n := by unfold PL; rw [List.length_map, List.length_range]
theorem PL_succ {P : Nat → Nat} {n : Nat} : PL P (n + 1) = PL P n ++ [P n] := by
  unfold PL
  rw [List.range_succ, List.map_append]
  rfl
theorem PL_get {P : Nat → Nat} {n i : Nat} (h : i < n) : (PL P n)[i]? = some (P i) := by
  unfold PL
  rw [List.getElem?_map, List.getElem?_range h]
  rfl
theorem powersof_gen {S : PV} {q g u : Nat} {P : Nat → Nat} (hq : 1 ≤ q) (hq2 : q < 10000) (hu : fldP cs_unit "unit" S = .val (.int (u : Nat))) (ho : fldP cs_order "order" S = .val (.int (q : Nat))) (h0 : P 0 = u)
    (hm : ∀ k : Nat, k + 1 < q → (sel [("PowerGroup", ap3 m_PowerGroup_multiply), ("TableGroup", ap3 m_TableGroup_multiply)] "multiply" S >>= fun g15 => g15 [S, .int (P k : Nat), .int (g : Nat)]) = .val (.int (P (k + 1) : Nat))) :
    m_Group__powers_of S (.int (g : Nat)) = .val (.tup (PN (PL P q))) := by
  have e1 : ∀ a : PV, mkN [a] = .val [a] := fun a => mkN_ok (by show 1 ≤ 10000000; decide)
  have e2 : ((q : Nat) : Int) - 1 = ((q - 1 : Nat) : Int) := by omega
  have e3 : negP (.int 1) = .val (.int (-1)) := rfl
  have lp := forF_rng1 (S := List PV) (L := Empty) (n := q - 1) (body := fun (x19 : PV) (s6 : List PV) => (sel [("PowerGroup", ap3 m_PowerGroup_multiply), ("TableGroup", ap3 m_TableGroup_multiply)] "multiply" S >>= fun g15 => (ixP (PV.lst s6) (PV.int (-1)) >>= fun x12 => Res.val [x12, PV.int (g : Nat)]) >>= fun ps16 => g15 (S :: ps16)) >>= fun x17 => sized (s6.length + 1) >>= fun _ => (Res.val (Fl.nx (s6 ++ [x17]))))
    (fun i => PN (PL P (i + 1))) (by omega) fun i hi => by
      have hx : ixP (.lst (PN (PL P (i + 1)))) (.int (-1)) = .val (.int (P i : Nat)) := by
        rw [PL_succ, PN_app]
        exact ixLast
      have hz : sized ((PN (PL P (i + 1))).length + 1) = .val () := sized_small (by rw [PN_len, PL_len]; omega)
      have hm' := hm i (by omega)
      simp -implicitDefEqProofs only [bind_val, asB_bl, if_true, Bool.not_true, Bool.not_false, Bool.false_eq_true, if_false, retF_rt, seqF_nx, seqF_rt, asSq_lst, asSq_tup, partP_int, leP_int, ltP_int, gtP_int, geP_int, addP_int, subP_int, intP_int, tupleP_lst, asLi_lst, hx, hm', hz]
      rw [PL_succ (n := i + 1), PN_app]
  have st : PN (PL P (0 + 1)) = [PV.int (u : Nat)] := by
    unfold PL PN
    show [PV.int (P 0 : Nat)] = _
    rw [h0]
  rw [st, show q - 1 + 1 = q by omega] at lp
  unfold m_Group__powers_of
  simp -implicitDefEqProofs only [bind_val, asB_bl, if_true, Bool.not_true, Bool.not_false, Bool.false_eq_true, if_false, retF_rt, seqF_nx, seqF_rt, asSq_lst, asSq_tup, partP_int, leP_int, ltP_int, gtP_int, geP_int, addP_int, subP_int, intP_int, tupleP_lst, asLi_lst, hu, ho, e1, e2, e3, lp]
def fsPg (a : PV) (q u : Nat) (M : List Nat) (g : Nat) (P : List Nat) : List (Str × PV) := [("modulus", a), ("order", .int (q : Nat)), ("unit", .int (u : Nat)), ("members", .tup (PN M)), ("generator", .int (g : Nat)), ("_powers", .tup (PN P)), ("_exponents", .dct (DX 0 P))]
theorem initPg {a : PV} {q u g m0 m1 : Nat} {M : List Nat} {P : Nat → Nat} (hq : 1 ≤ q) (hq2 : q < 10000) (hM0 : M[0]? = some m0) (hM1 : M[1]? = some m1) (hg : g = if m0 = u then m1 else m0) (h0 : P 0 = u) (nd : (PL P q).Nodup)
    (hm : ∀ (e : PV) (k : Nat), k + 1 < q → (ap3 m_PowerGroup_multiply) [.ins "PowerGroup" [("modulus", a), ("order", .int (q : Nat)), ("unit", .int (u : Nat)), ("members", .tup (PN M)), ("generator", e)], .int (P k : Nat), .int (g : Nat)] = .val (.int (P (k + 1) : Nat))) :
    m_Group___init__ (.ob "PowerGroup" [("modulus", a)]) (.int (q : Nat)) (.int (u : Nat)) (.tup (PN M)) = .val (.non, .ob "PowerGroup" (fsPg a q u M g (PL P q))) := by
  have f2 : ∀ a b : PV, setF cs_order "PowerGroup" [("modulus", a)] "order" b = .val [("modulus", a), ("order", b)] := fun _ _ => rfl
  have f3 : ∀ a b c : PV, setF cs_unit "PowerGroup" [("modulus", a), ("order", b)] "unit" c = .val [("modulus", a), ("order", b), ("unit", c)] := fun _ _ _ => rfl
  have f4 : ∀ a b c d : PV, setF cs_members "PowerGroup" [("modulus", a), ("order", b), ("unit", c)] "members" d = .val [("modulus", a), ("order", b), ("unit", c), ("members", d)] := fun _ _ _ _ => rfl
  have f5 : ∀ a b c d e : PV, setF cs_generator "PowerGroup" [("modulus", a), ("order", b), ("unit", c), ("members", d)] "generator" e = .val [("modulus", a), ("order", b), ("unit", c), ("members", d), ("generator", e)] := fun _ _ _ _ _ => rfl
  have f6 : ∀ a b c d e f : PV, setF cs__powers "PowerGroup" [("modulus", a), ("order", b), ("unit", c), ("members", d), ("generator", e)] "_powers" f = .val [("modulus", a), ("order", b), ("unit", c), ("members", d), ("generator", e), ("_powers", f)] := fun _ _ _ _ _ _ => rfl
  have f7 : ∀ a b c d e f h : PV, setF cs__exponents "PowerGroup" [("modulus", a), ("order", b), ("unit", c), ("members", d), ("generator", e), ("_powers", f)] "_exponents" h = .val [("modulus", a), ("order", b), ("unit", c), ("members", d), ("generator", e), ("_powers", f), ("_exponents", h)] := fun _ _ _ _ _ _ _ => rfl
  have g1 : ∀ a b c d e : PV, fldP cs_generator "generator" (.ins "PowerGroup" [("modulus", a), ("order", b), ("unit", c), ("members", d), ("generator", e)]) = .val e := fun _ _ _ _ _ => rfl
  have g2 : ∀ a b c d e : PV, fldP cs_unit "unit" (.ins "PowerGroup" [("modulus", a), ("order", b), ("unit", c), ("members", d), ("generator", e)]) = .val c := fun _ _ _ _ _ => rfl
  have g3 : ∀ a b c d e : PV, fldP cs_order "order" (.ins "PowerGroup" [("modulus", a), ("order", b), ("unit", c), ("members", d), ("generator", e)]) = .val b := fun _ _ _ _ _ => rfl
  have g5 : ∀ a b c d e f : PV, fldP cs__powers "_powers" (.ins "PowerGroup" [("modulus", a), ("order", b), ("unit", c), ("members", d), ("generator", e), ("_powers", f)]) = .val f := fun _ _ _ _ _ _ => rfl
  have s1 : ∀ a b c d e : PV, sel [("PowerGroup", ap3 m_PowerGroup_multiply), ("TableGroup", ap3 m_TableGroup_multiply)] "multiply" (.ins "PowerGroup" [("modulus", a), ("order", b), ("unit", c), ("members", d), ("generator", e)]) = .val (ap3 m_PowerGroup_multiply) := fun _ _ _ _ _ => rfl
  have s2 : ∀ a b c d e : PV, sel [("PowerGroup", ap2 m_Group__powers_of), ("TableGroup", ap2 m_Group__powers_of)] "_powers_of" (.ins "PowerGroup" [("modulus", a), ("order", b), ("unit", c), ("members", d), ("generator", e)]) = .val (ap2 m_Group__powers_of) := fun _ _ _ _ _ => rfl
  have pw := powersof_gen (S := .ins "PowerGroup" [("modulus", a), ("order", .int (q : Nat)), ("unit", .int (u : Nat)), ("members", .tup (PN M)), ("generator", .int (g : Nat))]) (g := g) (P := P) hq hq2 (g2 ..) (g3 ..) h0 fun k hk => by
    rw [s1, bind_val]
    exact hm _ k hk
  have i0 : ixP (.tup (PN M)) (.int 0) = .val (.int (m0 : Nat)) := ixP_tup (i := 0) (PN_get hM0)
  have i1 : ixP (.tup (PN M)) (.int 1) = .val (.int (m1 : Nat)) := ixP_tup (i := 1) (PN_get hM1)
  have en := enumP_F (PN (PL P q))
  have sz : sized (enumF 0 (PN (PL P q))).length = .val () := sized_small (by rw [enumF_len, PN_len, PL_len]; omega)
  have dc := dcX (PL P q) 0 [] nd fun _ _ => rfl
  have e1 : eqP (.int (m0 : Nat)) (.int (u : Nat)) = .val (.bl (Nat.beq m0 u)) := eqP_nat
  unfold m_Group___init__
  by_cases c : m0 = u
  · rw [if_pos c] at hg
    subst hg
    rw [show Nat.beq m0 u = true from Nat.beq_eq.mpr c] at e1
    simp -implicitDefEqProofs only [bind_val, asB_bl, if_true, Bool.not_true, Bool.not_false, Bool.false_eq_true, if_false, retF_rt, seqF_nx, seqF_rt, asSq_lst, asSq_tup, partP_int, leP_int, ltP_int, gtP_int, geP_int, addP_int, subP_int, intP_int, tupleP_lst, asLi_lst, f2, f3, f4, i0, e1, i1, f5, s2, g1, ap2_two, pw, flR_PN, f6, g5, asTu_tup, en, sz, dc, f7, List.nil_append, retR_nx]
    rfl
  · rw [if_neg c] at hg
    subst hg
    rw [show Nat.beq g u = false from Bool.eq_false_iff.mpr fun z => c (Nat.beq_eq.mp z)] at e1
    simp -implicitDefEqProofs only [bind_val, asB_bl, if_true, Bool.not_true, Bool.not_false, Bool.false_eq_true, if_false, retF_rt, seqF_nx, seqF_rt, asSq_lst, asSq_tup, partP_int, leP_int, ltP_int, gtP_int, geP_int, addP_int, subP_int, intP_int, tupleP_lst, asLi_lst, f2, f3, f4, i0, e1, i1, f5, s2, g1, ap2_two, pw, flR_PN, f6, g5, asTu_tup, en, sz, dc, f7, List.nil_append, retR_nx]
    rfl
def fsTg (a : PV) (q u : Nat) (M : List Nat) (g : Nat) (P : List Nat) : List (Str × PV) := [("table", a), ("order", .int (q : Nat)), ("unit", .int (u : Nat)), ("members", .tup (PN M)), ("generator", .int (g : Nat)), ("_powers", .tup (PN P)), ("_exponents", .dct (DX 0 P))]
theorem initTg {a : PV} {q u g m0 m1 : Nat} {M : List Nat} {P : Nat → Nat} (hq : 1 ≤ q) (hq2 : q < 10000) (hM0 : M[0]? = some m0) (hM1 : M[1]? = some m1) (hg : g = if m0 = u then m1 else m0) (h0 : P 0 = u) (nd : (PL P q).Nodup)
    (hm : ∀ (e : PV) (k : Nat), k + 1 < q → (ap3 m_TableGroup_multiply) [.ins "TableGroup" [("table", a), ("order", .int (q : Nat)), ("unit", .int (u : Nat)), ("members", .tup (PN M)), ("generator", e)], .int (P k : Nat), .int (g : Nat)] = .val (.int (P (k + 1) : Nat))) :
    m_Group___init__ (.ob "TableGroup" [("table", a)]) (.int (q : Nat)) (.int (u : Nat)) (.tup (PN M)) = .val (.non, .ob "TableGroup" (fsTg a q u M g (PL P q))) := by
  have f2 : ∀ a b : PV, setF cs_order "TableGroup" [("table", a)] "order" b = .val [("table", a), ("order", b)] := fun _ _ => rfl
  have f3 : ∀ a b c : PV, setF cs_unit "TableGroup" [("table", a), ("order", b)] "unit" c = .val [("table", a), ("order", b), ("unit", c)] := fun _ _ _ => rfl
  have f4 : ∀ a b c d : PV, setF cs_members "TableGroup" [("table", a), ("order", b), ("unit", c)] "members" d = .val [("table", a), ("order", b), ("unit", c), ("members", d)] := fun _ _ _ _ => rfl
  have f5 : ∀ a b c d e : PV, setF cs_generator "TableGroup" [("table", a), ("order", b), ("unit", c), ("members", d)] "generator" e = .val [("table", a), ("order", b), ("unit", c), ("members", d), ("generator", e)] := fun _ _ _ _ _ => rfl
  have f6 : ∀ a b c d e f : PV, setF cs__powers "TableGroup" [("table", a), ("order", b), ("unit", c), ("members", d), ("generator", e)] "_powers" f = .val [("table", a), ("order", b), ("unit", c), ("members", d), ("generator", e), ("_powers", f)] := fun _ _ _ _ _ _ => rfl
  have f7 : ∀ a b c d e f h : PV, setF cs__exponents "TableGroup" [("table", a), ("order", b), ("unit", c), ("members", d), ("generator", e), ("_powers", f)] "_exponents" h = .val [("table", a), ("order", b), ("unit", c), ("members", d), ("generator", e), ("_powers", f), ("_exponents", h)] := fun _ _ _ _ _ _ _ => rfl
  have g1 : ∀ a b c d e : PV, fldP cs_generator "generator" (.ins "TableGroup" [("table", a), ("order", b), ("unit", c), ("members", d), ("generator", e)]) = .val e := fun _ _ _ _ _ => rfl
  have g2 : ∀ a b c d e : PV, fldP cs_unit "unit" (.ins "TableGroup" [("table", a), ("order", b), ("unit", c), ("members", d), ("generator", e)]) = .val c := fun _ _ _ _ _ => rfl
  have g3 : ∀ a b c d e : PV, fldP cs_order "order" (.ins "TableGroup" [("table", a), ("order", b), ("unit", c), ("members", d), ("generator", e)]) = .val b := fun _ _ _ _ _ => rfl
  have g5 : ∀ a b c d e f : PV, fldP cs__powers "_powers" (.ins "TableGroup" [("table", a), ("order", b), ("unit", c), ("members", d), ("generator", e), ("_powers", f)]) = .val f := fun _ _ _ _ _ _ => rfl
  have s1 : ∀ a b c d e : PV, sel [("PowerGroup", ap3 m_PowerGroup_multiply), ("TableGroup", ap3 m_TableGroup_multiply)] "multiply" (.ins "TableGroup" [("table", a), ("order", b), ("unit", c), ("members", d), ("generator", e)]) = .val (ap3 m_TableGroup_multiply) := fun _ _ _ _ _ => rfl
  have s2 : ∀ a b c d e : PV, sel [("PowerGroup", ap2 m_Group__powers_of), ("TableGroup", ap2 m_Group__powers_of)] "_powers_of" (.ins "TableGroup" [("table", a), ("order", b), ("unit", c), ("members", d), ("generator", e)]) = .val (ap2 m_Group__powers_of) := fun _ _ _ _ _ => rfl
  have pw := powersof_gen (S := .ins "TableGroup" [("table", a), ("order", .int (q : Nat)), ("unit", .int (u : Nat)), ("members", .tup (PN M)), ("generator", .int (g : Nat))]) (g := g) (P := P) hq hq2 (g2 ..) (g3 ..) h0 fun k hk => by
    rw [s1, bind_val]
    exact hm _ k hk
  have i0 : ixP (.tup (PN M)) (.int 0) = .val (.int (m0 : Nat)) := ixP_tup (i := 0) (PN_get hM0)
  have i1 : ixP (.tup (PN M)) (.int 1) = .val (.int (m1 : Nat)) := ixP_tup (i := 1) (PN_get hM1)
  have en := enumP_F (PN (PL P q))
  have sz : sized (enumF 0 (PN (PL P q))).length = .val () := sized_small (by rw [enumF_len, PN_len, PL_len]; omega)
  have dc := dcX (PL P q) 0 [] nd fun _ _ => rfl
  have e1 : eqP (.int (m0 : Nat)) (.int (u : Nat)) = .val (.bl (Nat.beq m0 u)) := eqP_nat
  unfold m_Group___init__
  by_cases c : m0 = u
  · rw [if_pos c] at hg
    subst hg
    rw [show Nat.beq m0 u = true from Nat.beq_eq.mpr c] at e1
    simp -implicitDefEqProofs only [bind_val, asB_bl, if_true, Bool.not_true, Bool.not_false, Bool.false_eq_true, if_false, retF_rt, seqF_nx, seqF_rt, asSq_lst, asSq_tup, partP_int, leP_int, ltP_int, gtP_int, geP_int, addP_int, subP_int, intP_int, tupleP_lst, asLi_lst, f2, f3, f4, i0, e1, i1, f5, s2, g1, ap2_two, pw, flR_PN, f6, g5, asTu_tup, en, sz, dc, f7, List.nil_append, retR_nx]
    rfl
  · rw [if_neg c] at hg
    subst hg
    rw [show Nat.beq g u = false from Bool.eq_false_iff.mpr fun z => c (Nat.beq_eq.mp z)] at e1
    simp -implicitDefEqProofs only [bind_val, asB_bl, if_true, Bool.not_true, Bool.not_false, Bool.false_eq_true, if_false, retF_rt, seqF_nx, seqF_rt, asSq_lst, asSq_tup, partP_int, leP_int, ltP_int, gtP_int, geP_int, addP_int, subP_int, intP_int, tupleP_lst, asLi_lst, f2, f3, f4, i0, e1, i1, f5, s2, g1, ap2_two, pw, flR_PN, f6, g5, asTu_tup, en, sz, dc, f7, List.nil_append, retR_nx]
    rfl
theorem members_mir {p q : Nat} (p2 : 2 ≤ p) (hp : p < 100000) (hq : q < 4096) : (rng2 (.int 1) (.int (p : Nat)) >>= fun ps15 => sized ps15.length >>= fun _ => lcF (fun x => Res.val x) (fun (a9 : PV) => (m__power_modulo a9 (.int (q : Nat)) (.int (p : Nat)) >>= fun x13 => eqP x13 (PV.int 1)) >>= asB) (fun (a9 : PV) => (Res.val a9)) ps15) = .val (PN (memN p q)) := by
  have r : rng2 (.int 1) (.int (p : Nat)) = .val (PN (List.range' 1 (p - 1))) := rng2_nat (a := 1) (by omega) (by omega)
  have z : sized (PN (List.range' 1 (p - 1))).length = .val () := sized_small (by rw [PN_len, List.length_range']; omega)
  have l := lcN (c := fun a9 => (m__power_modulo a9 (.int (q : Nat)) (.int (p : Nat)) >>= fun x13 => eqP x13 (PV.int 1)) >>= asB) (e := fun a => Res.val a) (k := fun x => Nat.beq (x ^ q % p) 1) (g := fun n => .int (n : Nat)) (l := List.range' 1 (p - 1))
    (fun n hn => by
      have := List.mem_range'_1.mp hn
      simp -implicitDefEqProofs only [bind_val, asB_bl, if_true, Bool.not_true, Bool.not_false, Bool.false_eq_true, if_false, retF_rt, seqF_nx, seqF_rt, asSq_lst, asSq_tup, partP_int, leP_int, ltP_int, gtP_int, geP_int, addP_int, subP_int, intP_int, tupleP_lst, asLi_lst, powmod_ok (show n < 100000 by omega) (show q < 100000 by omega) p2 hp, q1]) (fun _ _ _ => rfl)
  rw [r, bind_val, z, bind_val, l]
  rfl
theorem makeP {p q g : Nat} (G : PG p q g) (hg : goodN p q = true) : m_PowerGroup___init__ (.ob "PowerGroup" []) (.int (p : Nat)) (.int (q : Nat)) = .val (.non, .ob "PowerGroup" (fsPg (.int (p : Nat)) q 1 (memN p q) g (powL g p q))) := by
  have h1 := G.p1
  have h2 := G.q3
  have h3 := G.q127
  have h4 := G.p2
  have f1 : ∀ a : PV, setF cs_modulus "PowerGroup" [] "modulus" a = .val [("modulus", a)] := fun _ => rfl
  have g4 : ∀ a b c d e : PV, fldP cs_modulus "modulus" (.ins "PowerGroup" [("modulus", a), ("order", b), ("unit", c), ("members", d), ("generator", e)]) = .val a := fun _ _ _ _ _ => rfl
  have eP : PL (fun k => g ^ k % p) q = powL g p q := rfl
  have hi := initPg (a := .int (p : Nat)) (q := q) (u := 1) (g := g) (P := fun k => g ^ k % p) (by omega) (by omega) G.h0 G.h1 (by rw [if_pos rfl]) (by show g ^ 0 % p = 1; rw [Nat.pow_zero, Nat.mod_eq_of_lt (by omega)]) (by rw [eP]; exact powL_nodup G) fun e k hk => by
    have lt : g ^ k % p < p := Nat.mod_lt _ (by omega)
    have hs : g ^ k % p * g % p = g ^ (k + 1) % p := by rw [Nat.pow_succ, Nat.mul_mod, Nat.mod_mod, ← Nat.mul_mod]
    rw [ap3_three]
    unfold m_PowerGroup_multiply
    simp -implicitDefEqProofs only [bind_val, asB_bl, if_true, Bool.not_true, Bool.not_false, Bool.false_eq_true, if_false, retF_rt, seqF_nx, seqF_rt, asSq_lst, asSq_tup, partP_int, leP_int, ltP_int, gtP_int, geP_int, addP_int, subP_int, intP_int, tupleP_lst, asLi_lst, mulP_nat (show g ^ k % p < 2 ^ 64 by omega), g4, modP_nat (show 0 < p by omega), hs]
  rw [eP] at hi
  have hi' : ∀ m : PV, m = .tup (PN (memN p q)) → m_Group___init__ (.ob "PowerGroup" [("modulus", .int (p : Nat))]) (.int (q : Nat)) (.int 1) m = .val (.non, .ob "PowerGroup" (fsPg (.int (p : Nat)) q 1 (memN p q) g (powL g p q))) := fun m hm => by
    subst hm
    exact hi
  have mm := members_mir (q := q) h4 (show p < 100000 by omega) (by omega)
  unfold m_PowerGroup___init__
  simp -implicitDefEqProofs only [bind_val, asB_bl, if_true, Bool.not_true, Bool.not_false, Bool.false_eq_true, if_false, retF_rt, seqF_nx, seqF_rt, asSq_lst, asSq_tup, partP_int, leP_int, ltP_int, gtP_int, geP_int, addP_int, subP_int, intP_int, tupleP_lst, asLi_lst, hassub_ok hg, f1]
  rw [mm]
  simp -implicitDefEqProofs only [bind_val, asB_bl, if_true, Bool.not_true, Bool.not_false, Bool.false_eq_true, if_false, retF_rt, seqF_nx, seqF_rt, asSq_lst, asSq_tup, partP_int, leP_int, ltP_int, gtP_int, geP_int, addP_int, subP_int, intP_int, tupleP_lst, asLi_lst]
  unfold supP
  simp -implicitDefEqProofs only [bind_val, asB_bl, if_true, Bool.not_true, Bool.not_false, Bool.false_eq_true, if_false, retF_rt, seqF_nx, seqF_rt, asSq_lst, asSq_tup, partP_int, leP_int, ltP_int, gtP_int, geP_int, addP_int, subP_int, intP_int, tupleP_lst, asLi_lst, if_pos, apR3_t, hi', noX_val, retR_nx]
theorem frO_ob {C : Str} {fs : List (Str × PV)} : frO (.non, .ob C fs) = .val (.ins C fs) := rfl
/-! ### rows in a drawn sequence, and their tables -/
theorem pop_perm : ∀ {l : List Nat} {i : Nat} (h : i < l.length), (l[i] :: l.eraseIdx i).Perm l
  | x :: l, 0, _ => List.Perm.refl _
  | x :: l, i + 1, h => (List.Perm.swap x _ _).trans (List.Perm.cons x (pop_perm (Nat.lt_of_succ_lt_succ h)))
theorem PN_erase : ∀ {l : List Nat} {i : Nat}, (PN l).eraseIdx i = PN (l.eraseIdx i)
  | [], _ => rfl
  | x :: l, 0 => rfl
  | x :: l, i + 1 => congrArg (PV.int (x : Nat) :: ·) (PN_erase (l := l) (i := i))
theorem popL_PN {l : List Nat} {i : Nat} (h : i < l.length) (h2 : i < 100000) : popL (PN l) (.int (i : Nat)) = .val (.int (l[i] : Nat), PN (l.eraseIdx i)) := by
  have e : seqIndex? ((i : Nat) : Int) (PN l).length = some i := by
    have := (ixN_seq (n := (PN l).length) (i := ((i : Nat) : Int)) (j := i) (by
      unfold ixN
      rw [if_pos (by omega), if_pos (by rw [PN_len]; omega)]
      rfl)).1
    exact this
  unfold popL
  show (if -(2 ^ 63) ≤ ((i : Nat) : Int) ∧ ((i : Nat) : Int) < 2 ^ 63 then _ else _) = _
  rw [if_pos ⟨by omega, by omega⟩, e]
  show (match (PN l)[i]? with | some y => Res.val (y, (PN l).eraseIdx i) | none => .stuck) = _
  rw [PN_get (List.getElem?_eq_getElem h), PN_erase]
theorem setL_nat {l : List PV} {i : Nat} {x : PV} (h : i < l.length) : setL l (.int (i : Nat)) x = .val (l.set i x) := by
  have e : ixN l.length ((i : Nat) : Int) = some i := by
    unfold ixN
    rw [if_pos (by omega), if_pos (by omega)]
    rfl
  unfold setL
  simp only [e]
def RowOk (row : List Nat) (q : Nat) : Prop := row.Perm (List.range q)
def Rg (row : List Nat) (i : Nat) : Nat := row.getD i 0
def pl (row : List Nat) (a : Nat) : Nat := row.idxOf a
section
variable {row : List Nat} {q : Nat}
theorem RowOk.len (h : RowOk row q) : row.length = q := by have := h.length_eq; rwa [List.length_range] at this
theorem RowOk.nd (h : RowOk row q) : row.Nodup := (List.Perm.nodup_iff h).mpr List.nodup_range
theorem RowOk.mem (h : RowOk row q) {a : Nat} : a ∈ row ↔ a < q := by rw [h.mem_iff, List.mem_range]
theorem RowOk.get (h : RowOk row q) {i : Nat} (hi : i < q) : row[i]? = some (Rg row i) := by
  have : i < row.length := by rw [h.len]; exact hi
  unfold Rg
  rw [List.getD_eq_getElem?_getD, List.getElem?_eq_getElem this]
  rfl
theorem RowOk.lt (h : RowOk row q) {i : Nat} (hi : i < q) : Rg row i < q := h.mem.mp (List.mem_of_getElem? (h.get hi))
theorem RowOk.pl_lt (h : RowOk row q) {a : Nat} (ha : a < q) : pl row a < q := by
  have := List.idxOf_lt_length_of_mem (h.mem.mpr ha)
  rw [h.len] at this
  exact this
theorem RowOk.Rg_pl (h : RowOk row q) {a : Nat} (ha : a < q) : Rg row (pl row a) = a := by
  have hl := List.idxOf_lt_length_of_mem (h.mem.mpr ha)
  unfold Rg pl
  rw [List.getD_eq_getElem?_getD, List.getElem?_eq_getElem hl, Option.getD_some, List.getElem_idxOf]
theorem RowOk.pl_Rg (h : RowOk row q) {i : Nat} (hi : i < q) : pl row (Rg row i) = i := by
  have hl : i < row.length := by rw [h.len]; exact hi
  unfold Rg pl
  rw [List.getD_eq_getElem?_getD, List.getElem?_eq_getElem hl, Option.getD_some, h.nd.idxOf_getElem]
end
/-- the sequence is drawn -/
def rowT (row : List Nat) (q a : Nat) : List Nat := (List.range q).map fun b => Rg row ((pl row a + pl row b) % q)
def tabV (row : List Nat) (q : Nat) : PV := .tup ((List.range q).map fun a => PV.tup (PN (rowT row q a)))
theorem rowT_len {row : List Nat} {q a : Nat} : (rowT row q a).length = q := by unfold rowT; rw [List.length_map, List.length_range]
theorem rowT_get {row : List Nat} {q a b : Nat} (h : b < q) : (rowT row q a)[b]? = some (Rg row ((pl row a + pl row b) % q)) := by
  unfold rowT
  rw [List.getElem?_map, List.getElem?_range h]
  rfl
theorem tab_ix {row : List Nat} {q a : Nat} (h : a < q) : ixP (tabV row q) (.int (a : Nat)) = .val (.tup (PN (rowT row q a))) := ixP_tup (by rw [List.getElem?_map, List.getElem?_range h]; rfl)
theorem tab_ix2 {row : List Nat} {q a b : Nat} (h : b < q) : ixP (.tup (PN (rowT row q a))) (.int (b : Nat)) = .val (.int (Rg row ((pl row a + pl row b) % q) : Nat)) := ixP_tup (PN_get (rowT_get h))
theorem tab_len {row : List Nat} {q : Nat} : lenP (tabV row q) = .val (.int (q : Nat)) := by
  show Res.val (PV.int (((List.range q).map fun a => PV.tup (PN (rowT row q a))).length : Nat)) = _
  rw [List.length_map, List.length_range]
/-! ### a group of a table is made -/
theorem allT {l : List PV} : allP (.lst (l.map fun _ => PV.bl true)) = .val (.bl true) := by
  have : (l.map fun _ => PV.bl true) = (l.map fun _ => true).map PV.bl := by rw [List.map_map]; rfl
  have ha : ((l.map fun _ => true).all id) = true := by
    rw [List.all_map]
    exact List.all_eq_true.mpr fun _ _ => rfl
  rw [this, allP_bls, ha]
theorem allTN {l : List Nat} : allP (.lst (l.map fun _ => PV.bl true)) = .val (.bl true) := by
  have : (l.map fun _ => PV.bl true) = (l.map fun _ => true).map PV.bl := by rw [List.map_map]; rfl
  have ha : ((l.map fun _ => true).all id) = true := by
    rw [List.all_map]
    exact List.all_eq_true.mpr fun _ _ => rfl
  rw [this, allP_bls, ha]
theorem lcT {e : PV → Res PV} {l : List PV} (h : ∀ p, p ∈ l → e p = .val (.bl true)) : lcF (fun x => Res.val x) (fun (_ : PV) => Res.val true) e l = .val (l.map fun _ => PV.bl true) := lcF_val (fun _ _ => rfl) h
theorem rgL_nat {q : Nat} (h : q ≤ 10000) : rgL 0 (q : Nat) = .val (PN (List.range q)) := by
  unfold rgL
  rw [if_pos ⟨by decide, by decide, by omega, by omega, by omega⟩, rngP_0]
theorem filt {r : Nat} : ∀ {q : Nat}, r < q → (List.range q).filter (fun u => Nat.beq u r) = [r]
  | 0, h => by omega
  | n + 1, h => by
    rw [List.range_succ, List.filter_append]
    by_cases c : r = n
    · subst c
      have : (List.range r).filter (fun u => Nat.beq u r) = [] := List.filter_eq_nil_iff.mpr fun a ha z => by
        have h1 := List.mem_range.mp ha
        have h2 := Nat.beq_eq.mp z
        omega
      rw [this, List.filter_cons_of_pos (by rw [Nat.beq_refl])]
      rfl
    · have hn : [n].filter (fun u => Nat.beq u r) = [] := List.filter_eq_nil_iff.mpr fun a ha z => by
        rcases List.mem_singleton.mp ha with rfl
        exact c (Nat.beq_eq.mp z).symm
      rw [filt (by omega), hn, List.append_nil]
section
variable {row : List Nat} {q : Nat}
/-- the product by the places -/
def Tp (row : List Nat) (q a b : Nat) : Nat := Rg row ((pl row a + pl row b) % q)
theorem Tp_lt (h : RowOk row q) (h0 : 0 < q) {a b : Nat} : Tp row q a b < q := h.lt (Nat.mod_lt _ h0)
theorem tab2 {a b : Nat} (ha : a < q) (hb : b < q) : (ixP (tabV row q) (.int (a : Nat)) >>= fun x => ixP x (.int (b : Nat))) = .val (.int (Tp row q a b : Nat)) := by
  rw [tab_ix ha, bind_val, tab_ix2 hb]
  rfl
theorem residue_ok {x : Nat} (hx : x < q) : m_is_residue (.int (q : Nat)) (.int (x : Nat)) = .val (.bl true) := by
  have e1 : isiP (.int (x : Nat)) (.ty "int") = .val (.bl true) := rfl
  have c1 : (0 : Int) ≤ (x : Nat) := by omega
  have c2 : ((x : Nat) : Int) < (q : Nat) := by omega
  unfold m_is_residue
  simp -implicitDefEqProofs only [bind_val, asB_bl, if_true, Bool.not_true, Bool.not_false, Bool.false_eq_true, if_false, retF_rt, seqF_nx, seqF_rt, asSq_lst, asSq_tup, partP_int, leP_int, ltP_int, gtP_int, geP_int, addP_int, subP_int, intP_int, tupleP_lst, asLi_lst, e1, decide_eq_true c1, decide_eq_true c2]
theorem residue_row {l : List Nat} (hl : l.length = q) (hq : q < 10000) (h : ∀ x, x ∈ l → x < q) : m_is_residue_row (.int (q : Nat)) (.int (q : Nat)) (.tup (PN l)) = .val (.bl true) := by
  have e1 : isiP (.tup (PN l)) (.ty "tuple") = .val (.bl true) := rfl
  have e2 : lenP (.tup (PN l)) = .val (.int (q : Nat)) := by rw [lenP_tup, PN_len, hl]
  have e3 : eqP (.int (q : Nat)) (.int (q : Nat)) = .val (.bl true) := by rw [eqP_nat, Nat.beq_refl]
  have e4 : m_is_tuple_of (.int (q : Nat)) (.tup (PN l)) = .val (.bl true) := by
    unfold m_is_tuple_of
    simp -implicitDefEqProofs only [bind_val, asB_bl, if_true, Bool.not_true, Bool.not_false, Bool.false_eq_true, if_false, retF_rt, seqF_nx, seqF_rt, asSq_lst, asSq_tup, partP_int, leP_int, ltP_int, gtP_int, geP_int, addP_int, subP_int, intP_int, tupleP_lst, asLi_lst, e1, e2, e3]
  have sz : sized (PN l).length = .val () := sized_small (by rw [PN_len]; omega)
  have lc := lcT (e := fun a => m_is_residue (.int (q : Nat)) a) (l := PN l) fun p hp => by
    obtain ⟨x, hx, rfl⟩ := List.mem_map.mp hp
    exact residue_ok (h x hx)
  unfold m_is_residue_row
  simp -implicitDefEqProofs only [bind_val, asB_bl, if_true, Bool.not_true, Bool.not_false, Bool.false_eq_true, if_false, retF_rt, seqF_nx, seqF_rt, asSq_lst, asSq_tup, partP_int, leP_int, ltP_int, gtP_int, geP_int, addP_int, subP_int, intP_int, tupleP_lst, asLi_lst, e4, sz, lc, allT]
theorem square_ok (h : RowOk row q) (h3 : 3 ≤ q) (h13 : q ≤ 13) (hp : prB q = true) : m__is_square (tabV row q) = .val (.bl true) := by
  have e1 : isiP (tabV row q) (.ty "tuple") = .val (.bl true) := rfl
  have c1 : (3 : Int) ≤ (q : Nat) := by omega
  have c2 : ((q : Nat) : Int) ≤ 13 := by omega
  have ip := (isPrime (n := q) (by omega)).1
  have sq : asSq (tabV row q) = .val ((List.range q).map fun a => PV.tup (PN (rowT row q a))) := rfl
  have sz : sized ((List.range q).map fun a => PV.tup (PN (rowT row q a))).length = .val () := sized_small (by rw [List.length_map, List.length_range]; omega)
  have lc := lcT (e := fun a => m_is_residue_row (.int (q : Nat)) (.int (q : Nat)) a) (l := (List.range q).map fun a => PV.tup (PN (rowT row q a))) fun p hp => by
    obtain ⟨a, ha, rfl⟩ := List.mem_map.mp hp
    refine residue_row rowT_len (by omega) fun x hx => ?_
    obtain ⟨b, _, rfl⟩ := List.mem_map.mp hx
    exact h.lt (Nat.mod_lt _ (by omega))
  unfold m__is_square
  simp -implicitDefEqProofs only [bind_val, asB_bl, if_true, Bool.not_true, Bool.not_false, Bool.false_eq_true, if_false, retF_rt, seqF_nx, seqF_rt, asSq_lst, asSq_tup, partP_int, leP_int, ltP_int, gtP_int, geP_int, addP_int, subP_int, intP_int, tupleP_lst, asLi_lst, e1, tab_len, decide_eq_true c1, decide_eq_true c2, ip, hp, sq, sz, lc, allT]
theorem units_ok (h : RowOk row q) (h3 : 3 ≤ q) (h13 : q ≤ 13) : m__units (tabV row q) = .val (.lst [.int (Rg row 0 : Nat)]) := by
  have r0 : Rg row 0 < q := h.lt (by omega)
  have rg := rgL_nat (q := q) (by omega)
  have sz : sized (PN (List.range q)).length = .val () := sized_small (by rw [PN_len, List.length_range]; omega)
  have inner : ∀ u, u < q → lcF (fun x => Res.val x) (fun (_ : PV) => Res.val true) (fun (a7 : PV) => (((ixP (tabV row q) (.int (u : Nat)) >>= fun x16 => ixP x16 a7) >>= fun x18 => eqP x18 a7) >>= asB) >>= fun b20 => if b20 = true then ((ixP (tabV row q) a7 >>= fun x10 => ixP x10 (.int (u : Nat))) >>= fun x12 => eqP x12 a7) else Res.val (PV.bl false)) (PN (List.range q)) = .val (((List.range q).map fun a => Nat.beq (Tp row q u a) a && Nat.beq (Tp row q a u) a).map PV.bl) := fun u hu => by
    have l := lcN (c := fun _ => Res.val true) (e := fun (a7 : PV) => (((ixP (tabV row q) (.int (u : Nat)) >>= fun x16 => ixP x16 a7) >>= fun x18 => eqP x18 a7) >>= asB) >>= fun b20 => if b20 = true then ((ixP (tabV row q) a7 >>= fun x10 => ixP x10 (.int (u : Nat))) >>= fun x12 => eqP x12 a7) else Res.val (PV.bl false)) (k := fun _ => true) (g := fun a => PV.bl (Nat.beq (Tp row q u a) a && Nat.beq (Tp row q a u) a)) (l := List.range q) (fun _ _ => rfl) fun a ha _ => by
      have ha' := List.mem_range.mp ha
      have t1 := tab2 (row := row) hu ha'
      have t2 := tab2 (row := row) ha' hu
      cases c : Nat.beq (Tp row q u a) a with
      | true => simp -implicitDefEqProofs only [bind_val, asB_bl, if_true, Bool.not_true, Bool.not_false, Bool.false_eq_true, if_false, retF_rt, seqF_nx, seqF_rt, asSq_lst, asSq_tup, partP_int, leP_int, ltP_int, gtP_int, geP_int, addP_int, subP_int, intP_int, tupleP_lst, asLi_lst, t1, t2, eqP_nat, c, Bool.true_and]
      | false => simp -implicitDefEqProofs only [bind_val, asB_bl, if_true, Bool.not_true, Bool.not_false, Bool.false_eq_true, if_false, retF_rt, seqF_nx, seqF_rt, asSq_lst, asSq_tup, partP_int, leP_int, ltP_int, gtP_int, geP_int, addP_int, subP_int, intP_int, tupleP_lst, asLi_lst, t1, t2, eqP_nat, c, Bool.false_and]
    rw [l, List.filter_eq_self.mpr fun _ _ => rfl, List.map_map]
    rfl
  have val : ∀ u, u < q → ((List.range q).map fun a => Nat.beq (Tp row q u a) a && Nat.beq (Tp row q a u) a).all id = Nat.beq u (Rg row 0) := fun u hu => by
    rw [List.all_map]
    cases c : Nat.beq u (Rg row 0) with
    | true =>
      have e := Nat.beq_eq.mp c
      subst e
      refine List.all_eq_true.mpr fun a ha => ?_
      have ha' := List.mem_range.mp ha
      have p0 : pl row (Rg row 0) = 0 := h.pl_Rg (by omega)
      have t1 : Tp row q (Rg row 0) a = a := by
        unfold Tp
        rw [p0, Nat.zero_add, Nat.mod_eq_of_lt (h.pl_lt ha'), h.Rg_pl ha']
      have t2 : Tp row q a (Rg row 0) = a := by
        unfold Tp
        rw [p0, Nat.add_zero, Nat.mod_eq_of_lt (h.pl_lt ha'), h.Rg_pl ha']
      show (Nat.beq (Tp row q (Rg row 0) a) a && Nat.beq (Tp row q a (Rg row 0)) a) = true
      rw [t1, t2, Nat.beq_refl]
      rfl
    | false =>
      refine Bool.eq_false_iff.mpr fun z => ?_
      have := List.all_eq_true.mp z (Rg row 0) (List.mem_range.mpr r0)
      have := (Bool.and_eq_true_iff.mp this).1
      have e := Nat.beq_eq.mp this
      have t1 : Tp row q u (Rg row 0) = u := by
        unfold Tp
        rw [h.pl_Rg (by omega), Nat.add_zero, Nat.mod_eq_of_lt (h.pl_lt hu), h.Rg_pl hu]
      rw [t1] at e
      exact Bool.eq_false_iff.mp c (Nat.beq_eq.mpr e)
  have outer := lcN (c := fun (a6 : PV) => (((((sized (PN (List.range q)).length >>= fun _ => lcF (fun x => Res.val x) (fun (_ : PV) => Res.val true) (fun (a7 : PV) => (((ixP (tabV row q) a6 >>= fun x16 => ixP x16 a7) >>= fun x18 => eqP x18 a7) >>= asB) >>= fun b20 => if b20 = true then ((ixP (tabV row q) a7 >>= fun x10 => ixP x10 a6) >>= fun x12 => eqP x12 a7) else Res.val (PV.bl false)) (PN (List.range q))) >>= fun ps22 => Res.val (PV.lst ps22)) >>= allP) >>= asB))) (e := fun a => Res.val a) (k := fun u => Nat.beq u (Rg row 0)) (g := fun n => .int (n : Nat)) (l := List.range q)
    (fun u hu => by
      have hu' := List.mem_range.mp hu
      rw [sz, bind_val, inner u hu', bind_val, bind_val, allP_bls, val u hu']
      rfl) (fun _ _ _ => rfl)
  rw [filt r0] at outer
  simp -implicitDefEqProofs only [bind_val, sz] at outer
  have ap : ∀ l : List PV, asSq (.lst l) = .val l := fun _ => rfl
  unfold m__units
  simp -implicitDefEqProofs only [bind_val, asB_bl, if_true, Bool.not_true, Bool.not_false, Bool.false_eq_true, if_false, retF_rt, seqF_nx, seqF_rt, asSq_lst, asSq_tup, partP_int, leP_int, ltP_int, gtP_int, geP_int, addP_int, subP_int, intP_int, tupleP_lst, asLi_lst, tab_len, rg, sz, outer]
  rfl
theorem assoc_ok (h : RowOk row q) (h3 : 3 ≤ q) (h13 : q ≤ 13) : m__is_associative (tabV row q) = .val (.bl true) := by
  have q0 : 0 < q := by omega
  have rg := rgL_nat (q := q) (by omega)
  have sz : sized (PN (List.range q)).length = .val () := sized_small (by rw [PN_len, List.length_range]; omega)
  have as : ∀ a b c, Tp row q (Tp row q a b) c = Tp row q a (Tp row q b c) := fun a b c => by
    unfold Tp
    rw [h.pl_Rg (Nat.mod_lt _ q0), h.pl_Rg (Nat.mod_lt _ q0), Nat.mod_add_mod, Nat.add_mod_mod, Nat.add_assoc]
  have inner : ∀ a b, a < q → b < q → lcF (fun x => Res.val x) (fun (_ : PV) => Res.val true) (fun (a10 : PV) => (((ixP (tabV row q) (.int (a : Nat)) >>= fun x13 => ixP x13 (.int (b : Nat))) >>= fun x16 => ixP (tabV row q) x16) >>= fun x17 => ixP x17 a10) >>= fun x27 => (ixP (tabV row q) (.int (a : Nat)) >>= fun x25 => (ixP (tabV row q) (.int (b : Nat)) >>= fun x23 => ixP x23 a10) >>= fun x26 => ixP x25 x26) >>= fun x28 => eqP x27 x28) (PN (List.range q)) = .val ((PN (List.range q)).map fun _ => PV.bl true) := fun a b ha hb => lcT fun p hp => by
    obtain ⟨c, hc, rfl⟩ := List.mem_map.mp hp
    have hc' := List.mem_range.mp hc
    have t1 := tab2 (row := row) ha hb
    have t2 := tab2 (row := row) hb hc'
    have t3 := tab2 (row := row) (a := Tp row q a b) (b := c) (Tp_lt h q0) hc'
    have t4 := tab2 (row := row) (a := a) (b := Tp row q b c) ha (Tp_lt h q0)
    rw [tab_ix ha, bind_val] at t1 t4
    rw [tab_ix hb, bind_val] at t2
    rw [tab_ix (Tp_lt h q0), bind_val] at t3
    simp -implicitDefEqProofs only [bind_val, asB_bl, if_true, Bool.not_true, Bool.not_false, Bool.false_eq_true, if_false, retF_rt, seqF_nx, seqF_rt, asSq_lst, asSq_tup, partP_int, leP_int, ltP_int, gtP_int, geP_int, addP_int, subP_int, intP_int, tupleP_lst, asLi_lst, tab_ix ha, t1, tab_ix hb, t2, tab_ix (Tp_lt h q0), t3, t4, as, eqP_nat, Nat.beq_refl]
  unfold m__is_associative
  simp -implicitDefEqProofs only [bind_val, asB_bl, if_true, Bool.not_true, Bool.not_false, Bool.false_eq_true, if_false, retF_rt, seqF_nx, seqF_rt, asSq_lst, asSq_tup, partP_int, leP_int, ltP_int, gtP_int, geP_int, addP_int, subP_int, intP_int, tupleP_lst, asLi_lst, tab_len, rg]
  rw [forF_unit ?ho]
  case ho =>
    intro p hp
    obtain ⟨a, ha, rfl⟩ := List.mem_map.mp hp
    rw [forF_unit ?hi]
    case hi =>
      intro p2 hp2
      obtain ⟨b, hb, rfl⟩ := List.mem_map.mp hp2
      have i2 := inner a b (List.mem_range.mp ha) (List.mem_range.mp hb)
      simp -implicitDefEqProofs only [bind_val] at i2
      simp -implicitDefEqProofs only [bind_val, asB_bl, if_true, Bool.not_true, Bool.not_false, Bool.false_eq_true, if_false, retF_rt, seqF_nx, seqF_rt, asSq_lst, asSq_tup, partP_int, leP_int, ltP_int, gtP_int, geP_int, addP_int, subP_int, intP_int, tupleP_lst, asLi_lst, sz, i2, allT]
    try simp -implicitDefEqProofs only [bind_val, asB_bl, if_true, Bool.not_true, Bool.not_false, Bool.false_eq_true, if_false, retF_rt, seqF_nx, seqF_rt, asSq_lst, asSq_tup, partP_int, leP_int, ltP_int, gtP_int, geP_int, addP_int, subP_int, intP_int, tupleP_lst, asLi_lst]
  try simp -implicitDefEqProofs only [bind_val, asB_bl, if_true, Bool.not_true, Bool.not_false, Bool.false_eq_true, if_false, retF_rt, seqF_nx, seqF_rt, asSq_lst, asSq_tup, partP_int, leP_int, ltP_int, gtP_int, geP_int, addP_int, subP_int, intP_int, tupleP_lst, asLi_lst]
theorem rowT_nodup (h : RowOk row q) (q0 : 0 < q) {a : Nat} (ha : a < q) : (rowT row q a).Nodup := List.pairwise_iff_getElem.mpr fun i j hi hj hij e => by
  have hi' := hi
  have hj' := hj
  rw [rowT_len] at hi' hj'
  have e1 := rowT_get (row := row) (a := a) hi'
  have e2 := rowT_get (row := row) (a := a) hj'
  rw [List.getElem?_eq_getElem hi] at e1
  rw [List.getElem?_eq_getElem hj] at e2
  rw [e] at e1
  have e3 := Option.some.inj (e1.symm.trans e2)
  have e4 := congrArg (pl row) e3
  rw [h.pl_Rg (Nat.mod_lt _ q0), h.pl_Rg (Nat.mod_lt _ q0)] at e4
  have p1 := h.pl_lt hi'
  have p2 := h.pl_lt hj'
  have p3 := h.pl_lt ha
  have e5 : pl row i = pl row j := by
    by_cases c1 : pl row a + pl row i < q
    · rw [Nat.mod_eq_of_lt c1] at e4
      by_cases c2 : pl row a + pl row j < q
      · rw [Nat.mod_eq_of_lt c2] at e4
        omega
      · rw [Nat.mod_eq_sub_mod (by omega), Nat.mod_eq_of_lt (by omega)] at e4
        omega
    · rw [Nat.mod_eq_sub_mod (by omega), Nat.mod_eq_of_lt (by omega)] at e4
      by_cases c2 : pl row a + pl row j < q
      · rw [Nat.mod_eq_of_lt c2] at e4
        omega
      · rw [Nat.mod_eq_sub_mod (show pl row a + pl row j ≥ q by omega), Nat.mod_eq_of_lt (by omega)] at e4
        omega
  have := h.Rg_pl hi'
  rw [e5, h.Rg_pl hj'] at this
  omega
theorem nodup_ints : ∀ {l : List Nat}, l.Nodup → (l.map fun n => ((n : Nat) : Int)).Nodup := fun h => List.pairwise_map.mpr (List.Pairwise.imp (fun h e => h (by omega)) h)
theorem lenSet_ok {l : List Nat} (h : l.Nodup) (hl : l.length < 1000) : lenSetP (.tup (PN l)) = .val (.int (l.length : Nat)) := by
  unfold lenSetP
  rw [PN_ints]
  simp only [allI_map]
  rw [if_pos (by rw [List.length_map]; exact hl), dedupI_nodup (nodup_ints h), List.length_map]
theorem grouptable_ok (h : RowOk row q) (h3 : 3 ≤ q) (h13 : q ≤ 13) (hp : prB q = true) : m__is_group_table (tabV row q) = .val (.bl true) := by
  have t1 : truP (.lst [.int (Rg row 0 : Nat)]) = .val true := rfl
  have sq : asSq (tabV row q) = .val ((List.range q).map fun a => PV.tup (PN (rowT row q a))) := rfl
  have sz : sized ((List.range q).map fun a => PV.tup (PN (rowT row q a))).length = .val () := sized_small (by rw [List.length_map, List.length_range]; omega)
  have lc := lcT (e := fun a => lenSetP a >>= fun x9 => lenP (tabV row q) >>= fun x10 => eqP x9 x10) (l := (List.range q).map fun a => PV.tup (PN (rowT row q a))) fun p hp => by
    obtain ⟨a, ha, rfl⟩ := List.mem_map.mp hp
    have ls := lenSet_ok (rowT_nodup h (by omega) (List.mem_range.mp ha)) (by rw [rowT_len]; omega)
    rw [rowT_len] at ls
    simp -implicitDefEqProofs only [bind_val, asB_bl, if_true, Bool.not_true, Bool.not_false, Bool.false_eq_true, if_false, retF_rt, seqF_nx, seqF_rt, asSq_lst, asSq_tup, partP_int, leP_int, ltP_int, gtP_int, geP_int, addP_int, subP_int, intP_int, tupleP_lst, asLi_lst, ls, tab_len, eqP_nat, Nat.beq_refl]
  have lc' := lc
  simp -implicitDefEqProofs only [bind_val, tab_len] at lc'
  unfold m__is_group_table
  simp -implicitDefEqProofs only [bind_val, asB_bl, if_true, Bool.not_true, Bool.not_false, Bool.false_eq_true, if_false, retF_rt, seqF_nx, seqF_rt, asSq_lst, asSq_tup, partP_int, leP_int, ltP_int, gtP_int, geP_int, addP_int, subP_int, intP_int, tupleP_lst, asLi_lst, square_ok h h3 h13 hp, units_ok h h3 h13, t1, sq, sz, tab_len, lc', allT, assoc_ok h h3 h13]
/-- a factor that can be taken back -/
theorem mulinv {c d q k : Nat} (e : c * d % q = 1) (hk : k < q) : d * (c * k % q) % q = k := by
  have q1 : 1 < q := by
    by_cases h : q = 1
    · subst h
      rw [Nat.mod_one] at e
      cases e
    · omega
  rw [Nat.mul_mod, Nat.mod_mod, ← Nat.mul_mod, ← Nat.mul_assoc, Nat.mul_comm d c, Nat.mul_mod, e, Nat.one_mul, Nat.mod_mod, Nat.mod_eq_of_lt hk]
def tgG (row : List Nat) : Nat := if 0 = Rg row 0 then 1 else 0
def tgC (row : List Nat) : Nat := pl row (tgG row)
theorem tgG_lt (h3 : 3 ≤ q) : tgG row < q := by unfold tgG; split <;> omega
theorem tgC_lt (h : RowOk row q) (h3 : 3 ≤ q) : tgC row < q := h.pl_lt (tgG_lt h3)
theorem tgC_ne (h : RowOk row q) (h3 : 3 ≤ q) : tgC row ≠ 0 := fun z => by
  have e := h.Rg_pl (tgG_lt (row := row) h3)
  have z' : pl row (tgG row) = 0 := z
  rw [z'] at e
  unfold tgG at e
  split at e <;> omega
def tgP (row : List Nat) (q k : Nat) : Nat := Rg row (tgC row * k % q)
theorem tgP_nodup (h : RowOk row q) (h3 : 3 ≤ q) (h127 : q ≤ 127) (hp : prB q = true) : (PL (tgP row q) q).Nodup := by
  obtain ⟨d, hd, e⟩ := invN hp h127 (tgC_lt h h3) (tgC_ne h h3)
  refine List.pairwise_iff_getElem.mpr fun i j hi hj hij ee => ?_
  have hi' := hi
  have hj' := hj
  rw [PL_len] at hi' hj'
  have e1 := PL_get (P := tgP row q) hi'
  have e2 := PL_get (P := tgP row q) hj'
  rw [List.getElem?_eq_getElem hi] at e1
  rw [List.getElem?_eq_getElem hj] at e2
  rw [ee] at e1
  have e3 := congrArg (pl row) (Option.some.inj (e1.symm.trans e2))
  unfold tgP at e3
  rw [h.pl_Rg (Nat.mod_lt _ (by omega)), h.pl_Rg (Nat.mod_lt _ (by omega))] at e3
  have k1 := mulinv e hi'
  have k2 := mulinv e hj'
  rw [e3, k2] at k1
  omega
theorem makeT (h : RowOk row q) (h3 : 3 ≤ q) (h13 : q ≤ 13) (hp : prB q = true) : m_TableGroup___init__ (.ob "TableGroup" []) (tabV row q) = .val (.non, .ob "TableGroup" (fsTg (tabV row q) q (Rg row 0) (List.range q) (tgG row) (PL (tgP row q) q))) := by
  have q0 : 0 < q := by omega
  have f1 : ∀ a : PV, setF cs_table "TableGroup" [] "table" a = .val [("table", a)] := fun _ => rfl
  have g4 : ∀ a b c d e : PV, fldP cs_table "table" (.ins "TableGroup" [("table", a), ("order", b), ("unit", c), ("members", d), ("generator", e)]) = .val a := fun _ _ _ _ _ => rfl
  have hi := initTg (a := tabV row q) (q := q) (u := Rg row 0) (g := tgG row) (M := List.range q) (m0 := 0) (m1 := 1) (P := tgP row q) (by omega) (by omega) (List.getElem?_range (by omega)) (List.getElem?_range (by omega)) rfl (by unfold tgP; rw [Nat.mul_zero, Nat.zero_mod]) (tgP_nodup h h3 (by omega) hp) fun e k hk => by
    have lt : tgP row q k < q := h.lt (Nat.mod_lt _ q0)
    have lg := tgG_lt (row := row) h3
    have t := tab2 (row := row) lt lg
    have hs : Tp row q (tgP row q k) (tgG row) = tgP row q (k + 1) := by
      unfold Tp tgP
      rw [h.pl_Rg (Nat.mod_lt _ q0), Nat.mod_add_mod]
      rfl
    rw [hs, tab_ix lt, bind_val] at t
    rw [ap3_three]
    unfold m_TableGroup_multiply
    simp -implicitDefEqProofs only [bind_val, asB_bl, if_true, Bool.not_true, Bool.not_false, Bool.false_eq_true, if_false, retF_rt, seqF_nx, seqF_rt, asSq_lst, asSq_tup, partP_int, leP_int, ltP_int, gtP_int, geP_int, addP_int, subP_int, intP_int, tupleP_lst, asLi_lst, g4, tab_ix lt, t]
  have u0 : ixP (.lst [.int (Rg row 0 : Nat)]) (.int 0) = .val (.int (Rg row 0 : Nat)) := rfl
  have rg := rgL_nat (q := q) (by omega)
  unfold m_TableGroup___init__
  simp -implicitDefEqProofs only [bind_val, asB_bl, if_true, Bool.not_true, Bool.not_false, Bool.false_eq_true, if_false, retF_rt, seqF_nx, seqF_rt, asSq_lst, asSq_tup, partP_int, leP_int, ltP_int, gtP_int, geP_int, addP_int, subP_int, intP_int, tupleP_lst, asLi_lst, grouptable_ok h h3 h13 hp, f1, tab_len, units_ok h h3 h13, u0, rg]
  unfold supP
  simp -implicitDefEqProofs only [bind_val, asB_bl, if_true, Bool.not_true, Bool.not_false, Bool.false_eq_true, if_false, retF_rt, seqF_nx, seqF_rt, asSq_lst, asSq_tup, partP_int, leP_int, ltP_int, gtP_int, geP_int, addP_int, subP_int, intP_int, tupleP_lst, asLi_lst, if_pos, apR3_t, hi, noX_val, retR_nx]
end
/-! ### a group, its members by the law's exponents -/
structure GW (O : PV) (row : List Nat) (q : Nat) : Prop where
  q3 : 3 ≤ q
  q127 : q ≤ 127
  qp : prB q = true
  len : row.length = q
  lt : ∀ i, i < q → Rg row i < 100000
  slog : sel [("PowerGroup", ap3 m_Group_log), ("TableGroup", ap3 m_Group_log)] "log" O = .val (ap3 m_Group_log)
  spow : sel [("PowerGroup", ap3 m_Group_power), ("TableGroup", ap3 m_Group_power)] "power" O = .val (ap3 m_Group_power)
  shas : sel [("PowerGroup", ap2 m_Group_has), ("TableGroup", ap2 m_Group_has)] "has" O = .val (ap2 m_Group_has)
  scom : sel [("PowerGroup", ap3 m_Group_combine), ("TableGroup", ap3 m_Group_combine)] "combine" O = .val (ap3 m_Group_combine)
  sinv : sel [("PowerGroup", ap2 m_Group_inverse_of), ("TableGroup", ap2 m_Group_inverse_of)] "inverse_of" O = .val (ap2 m_Group_inverse_of)
  mul : ∃ f, sel [("PowerGroup", ap3 m_PowerGroup_multiply), ("TableGroup", ap3 m_TableGroup_multiply)] "multiply" O = .val f ∧ ∀ i j, i < q → j < q → f [O, .int (Rg row i : Nat), .int (Rg row j : Nat)] = .val (.int (Rg row ((i + j) % q) : Nat))
  ord : fldP cs_order "order" O = .val (.int (q : Nat))
  uni : fldP cs_unit "unit" O = .val (.int (Rg row 0 : Nat))
  pow : ∃ (P : List Nat) (c d : Nat), fldP cs__powers "_powers" O = .val (.tup (PN P)) ∧ fldP cs__exponents "_exponents" O = .val (.dct (DX 0 P)) ∧ P.length = q ∧ P.Nodup ∧ c < q ∧ d < q ∧ c * d % q = 1 ∧ ∀ k, k < q → P[k]? = some (Rg row (c * k % q))
theorem Rg_powL {b p q i : Nat} (h : i < q) : Rg (powL b p q) i = b ^ i % p := by
  unfold Rg
  rw [List.getD_eq_getElem?_getD, powL_get? h]
  rfl
theorem gwP {p q g : Nat} (G : PG p q g) : GW (.ins "PowerGroup" (fsPg (.int (p : Nat)) q 1 (memN p q) g (powL g p q))) (powL (baseN p q) p q) q := by
  have h1 := G.p1
  have q3 := G.q3
  have p2 := G.p2
  have gm : g ∈ memN p q := List.mem_of_getElem? G.h1
  have gp := (mem_memN.mp gm).2.1
  obtain ⟨c, hc, ec⟩ := G.bas g gm
  have c0 : c ≠ 0 := fun z => by
    subst z
    rw [Nat.pow_zero, Nat.mod_eq_of_lt (by omega)] at ec
    have := G.inj 0 1 (by omega) (by omega) (by rw [Nat.pow_zero, Nat.pow_one, ← ec])
    omega
  obtain ⟨d, hd, e⟩ := invN G.qp G.q127 hc c0
  have b1 : baseN p q ^ q % p = 1 % p := by rw [G.bq, Nat.mod_eq_of_lt (by omega)]
  refine ⟨q3, G.q127, G.qp, powL_len, fun i hi => ?_, rfl, rfl, rfl, rfl, rfl, ⟨_, rfl, fun i j hi hj => ?_⟩, rfl, ?_, ⟨powL g p q, c, d, rfl, rfl, powL_len, powL_nodup G, hc, hd, e, fun k hk => ?_⟩⟩
  · rw [Rg_powL hi]
    have := Nat.mod_lt (baseN p q ^ i) (show 0 < p by omega)
    omega
  · have lt := Nat.mod_lt (baseN p q ^ i) (show 0 < p by omega)
    have fm : fldP cs_modulus "modulus" (.ins "PowerGroup" (fsPg (.int (p : Nat)) q 1 (memN p q) g (powL g p q))) = .val (.int (p : Nat)) := rfl
    rw [Rg_powL hi, Rg_powL hj, Rg_powL (Nat.mod_lt _ (by omega)), ap3_three, ← pow_red b1, Nat.pow_add, Nat.mul_mod]
    unfold m_PowerGroup_multiply
    simp -implicitDefEqProofs only [bind_val, asB_bl, if_true, Bool.not_true, Bool.not_false, Bool.false_eq_true, if_false, retF_rt, seqF_nx, seqF_rt, asSq_lst, asSq_tup, partP_int, leP_int, ltP_int, gtP_int, geP_int, addP_int, subP_int, intP_int, tupleP_lst, asLi_lst, mulP_nat (show baseN p q ^ i % p < 2 ^ 64 by omega), fm, modP_nat (show 0 < p by omega)]
  · rw [Rg_powL (by omega), Nat.pow_zero, Nat.mod_eq_of_lt (by omega)]
    rfl
  · rw [powL_get? hk, Rg_powL (Nat.mod_lt _ (by omega)), ← pow_red b1, Nat.pow_mul, Nat.pow_mod (baseN p q ^ c), ec]
theorem gwT {row : List Nat} {q : Nat} (h : RowOk row q) (h3 : 3 ≤ q) (h13 : q ≤ 13) (hp : prB q = true) : GW (.ins "TableGroup" (fsTg (tabV row q) q (Rg row 0) (List.range q) (tgG row) (PL (tgP row q) q))) row q := by
  have q0 : 0 < q := by omega
  obtain ⟨d, hd, e⟩ := invN hp (by omega) (tgC_lt h h3) (tgC_ne h h3)
  refine ⟨h3, by omega, hp, h.len, fun i hi => ?_, rfl, rfl, rfl, rfl, rfl, ⟨_, rfl, fun i j hi hj => ?_⟩, rfl, rfl, ⟨PL (tgP row q) q, tgC row, d, rfl, rfl, PL_len, tgP_nodup h h3 (by omega) hp, tgC_lt h h3, hd, e, fun k hk => PL_get hk⟩⟩
  · have := h.lt hi
    omega
  · have ft : fldP cs_table "table" (.ins "TableGroup" (fsTg (tabV row q) q (Rg row 0) (List.range q) (tgG row) (PL (tgP row q) q))) = .val (tabV row q) := rfl
    have t := tab2 (row := row) (h.lt hi) (h.lt hj)
    have hs : Tp row q (Rg row i) (Rg row j) = Rg row ((i + j) % q) := by
      unfold Tp
      rw [h.pl_Rg hi, h.pl_Rg hj]
    rw [hs, tab_ix (h.lt hi), bind_val] at t
    rw [ap3_three]
    unfold m_TableGroup_multiply
    simp -implicitDefEqProofs only [bind_val, asB_bl, if_true, Bool.not_true, Bool.not_false, Bool.false_eq_true, if_false, retF_rt, seqF_nx, seqF_rt, asSq_lst, asSq_tup, partP_int, leP_int, ltP_int, gtP_int, geP_int, addP_int, subP_int, intP_int, tupleP_lst, asLi_lst, ft, tab_ix (h.lt hi), t]
def invB : Bool := (List.range 128).all fun q => !prB q || (List.range q).all fun a => Nat.beq a 0 || match m_inverse (.int (a : Nat)) (.int (q : Nat)) with
  | .val (.int b) => decide (0 ≤ b ∧ b < q) && Nat.beq (a * b.toNat % q) 1
  | _ => false
theorem invB_true : invB = true := by decide +kernel
theorem inverse_ok {q a : Nat} (hq : prB q = true) (h127 : q ≤ 127) (ha : a < q) (h0 : a ≠ 0) : ∃ b : Nat, b < q ∧ m_inverse (.int (a : Nat)) (.int (q : Nat)) = .val (.int (b : Nat)) ∧ a * b % q = 1 := by
  have x := List.all_eq_true.mp invB_true q (List.mem_range.mpr (by omega))
  rw [hq, Bool.not_true, Bool.false_or] at x
  have y := List.all_eq_true.mp x a (List.mem_range.mpr ha)
  rw [show Nat.beq a 0 = false from Bool.eq_false_iff.mpr fun z => h0 (Nat.beq_eq.mp z), Bool.false_or] at y
  split at y
  · next b e =>
    rw [Bool.and_eq_true, decide_eq_true_eq] at y
    obtain ⟨⟨y1, y2⟩, y3⟩ := y
    obtain ⟨n, rfl⟩ := Int.eq_ofNat_of_zero_le y1
    exact ⟨n, by omega, e, Nat.beq_eq.mp y3⟩
  · cases y
section
variable {O : PV} {row : List Nat} {q : Nat}
theorem GW.get (W : GW O row q) {i : Nat} (hi : i < q) : row[i]? = some (Rg row i) := by
  have : i < row.length := by rw [W.len]; exact hi
  unfold Rg
  rw [List.getD_eq_getElem?_getD, List.getElem?_eq_getElem this]
  rfl
theorem GW.inj (W : GW O row q) {i j : Nat} (hi : i < q) (hj : j < q) (e : Rg row i = Rg row j) : i = j := by
  obtain ⟨P, c, d, h1, h2, len, nd, hc, hd, ec, al⟩ := W.pow
  have q0 : 0 < q := by omega
  have ed : d * c % q = 1 := by rw [Nat.mul_comm]; exact ec
  have a1 := al (d * i % q) (Nat.mod_lt _ q0)
  have a2 := al (d * j % q) (Nat.mod_lt _ q0)
  rw [mulinv ed hi] at a1
  rw [mulinv ed hj, ← e] at a2
  have l1 : d * i % q < P.length := by rw [len]; exact Nat.mod_lt _ q0
  have l2 : d * j % q < P.length := by rw [len]; exact Nat.mod_lt _ q0
  rw [List.getElem?_eq_getElem l1] at a1
  rw [List.getElem?_eq_getElem l2] at a2
  have e2 : d * i % q = d * j % q := (List.getElem_inj (h₀ := l1) (h₁ := l2) nd).mp ((Option.some.inj a1).trans (Option.some.inj a2).symm)
  have k1 := mulinv ed hi
  rw [e2, mulinv ed hj] at k1
  omega
theorem GW.power (W : GW O row q) {i : Nat} (hi : i < q) (n : Int) : ∃ j : Nat, ((i : Int) * n) % (q : Int) = (j : Int) ∧ j < q ∧ m_Group_power O (.int (Rg row i : Nat)) (.int n) = .val (.int (Rg row j : Nat)) := by
  obtain ⟨P, c, d, h1, h2, len, nd, hc, hd, ec, al⟩ := W.pow
  have h3 := W.q3
  have h127 := W.q127
  have q0 : 0 < q := by omega
  have q0' : (0 : Int) < (q : Int) := by omega
  have ed : d * c % q = 1 := by rw [Nat.mul_comm]; exact ec
  have eE : d * i % q < q := Nat.mod_lt _ q0
  have a1 := al (d * i % q) eE
  rw [mulinv ed hi] at a1
  have dg : dgetP (.dct (DX 0 P)) (.int (Rg row i : Nat)) = .val (.int ((d * i % q : Nat) : Int)) := by
    have e := DX_get (k := 0) nd a1
    unfold dgetP
    show (match valP (DX 0 P) (.inl (Rg row i : Nat)) with | some p => Res.val p | none => .stuck) = _
    rw [e, Nat.zero_add]
  obtain ⟨j, hj⟩ := Int.eq_ofNat_of_zero_le (Int.emod_nonneg (((d * i % q : Nat) : Int) * n) (by omega : (q : Int) ≠ 0))
  have hj2 := Int.emod_lt_of_pos (((d * i % q : Nat) : Int) * n) q0'
  have jq : j < q := by omega
  have ml : mulP (.int ((d * i % q : Nat) : Int)) (.int n) = .val (.int (((d * i % q : Nat) : Int) * n)) := mulP_l (by omega) (by omega)
  have md : modP (.int (((d * i % q : Nat) : Int) * n)) (.int (q : Nat)) = .val (.int (j : Nat)) := by rw [modP_pos q0', hj]
  have ix : ixP (.tup (PN P)) (.int (j : Nat)) = .val (.int (Rg row (c * j % q) : Nat)) := ixP_tup (PN_get (al j jq))
  refine ⟨c * j % q, ?_, Nat.mod_lt _ q0, ?_⟩
  · have e1 : ((c * j % q : Nat) : Int) = ((c : Int) * (((d * i % q : Nat) : Int) * n)) % (q : Int) := by
      rw [Int.natCast_emod, Int.natCast_mul, ← hj, Int.mul_emod, Int.emod_emod, ← Int.mul_emod]
    have e2 : ((c : Int) * ((d * i % q : Nat) : Int)) % (q : Int) = (i : Int) := by
      have := mulinv ed hi
      have e3 : ((c * (d * i % q) % q : Nat) : Int) = (i : Int) := by rw [this]
      rw [Int.natCast_emod, Int.natCast_mul] at e3
      exact e3
    rw [e1, ← Int.mul_assoc, Int.mul_emod ((c : Int) * ((d * i % q : Nat) : Int)) n, e2, Int.mul_emod (i : Int) n, Int.emod_eq_of_lt (a := (i : Int)) (by omega) (by omega)]
  · unfold m_Group_power
    simp -implicitDefEqProofs only [bind_val, asB_bl, if_true, Bool.not_true, Bool.not_false, Bool.false_eq_true, if_false, retF_rt, seqF_nx, seqF_rt, asSq_lst, asSq_tup, partP_int, leP_int, ltP_int, gtP_int, geP_int, addP_int, subP_int, intP_int, tupleP_lst, asLi_lst, h1, h2, dg, ml, W.ord, md, ix]
theorem GW.log0 (W : GW O row q) {i : Nat} : m_Group_log O (.int (Rg row i : Nat)) (.int (Rg row 0 : Nat)) = .val (.int 0) := by
  unfold m_Group_log
  simp -implicitDefEqProofs only [bind_val, asB_bl, if_true, Bool.not_true, Bool.not_false, Bool.false_eq_true, if_false, retF_rt, seqF_nx, seqF_rt, asSq_lst, asSq_tup, partP_int, leP_int, ltP_int, gtP_int, geP_int, addP_int, subP_int, intP_int, tupleP_lst, asLi_lst, W.uni, eqP_nat, Nat.beq_refl]
theorem GW.logNo (W : GW O row q) {k : Nat} (hk : k < q) (h0 : k ≠ 0) : m_Group_log O (.int (Rg row 0 : Nat)) (.int (Rg row k : Nat)) = .exc "NoLogarithm" := by
  have h3 := W.q3
  have n1 : Nat.beq (Rg row k) (Rg row 0) = false := Bool.eq_false_iff.mpr fun z => h0 (W.inj hk (by omega) (Nat.beq_eq.mp z))
  unfold m_Group_log
  simp -implicitDefEqProofs only [bind_val, asB_bl, if_true, Bool.not_true, Bool.not_false, Bool.false_eq_true, if_false, retF_rt, seqF_nx, seqF_rt, asSq_lst, asSq_tup, partP_int, leP_int, ltP_int, gtP_int, geP_int, addP_int, subP_int, intP_int, tupleP_lst, asLi_lst, W.uni, eqP_nat, n1, Nat.beq_refl]
  rfl
theorem GW.log (W : GW O row q) {i k : Nat} (hi : i < q) (hk : k < q) (h0 : i ≠ 0) : ∃ e : Nat, e < q ∧ i * e % q = k ∧ m_Group_log O (.int (Rg row i : Nat)) (.int (Rg row k : Nat)) = .val (.int (e : Nat)) := by
  have h3 := W.q3
  have h127 := W.q127
  have q0 : 0 < q := by omega
  by_cases k0 : k = 0
  · subst k0
    exact ⟨0, by omega, by rw [Nat.mul_zero, Nat.zero_mod], W.log0⟩
  obtain ⟨P, c, d, h1, h2, len, nd, hc, hd, ec, al⟩ := W.pow
  have ed : d * c % q = 1 := by rw [Nat.mul_comm]; exact ec
  have dg : ∀ i, i < q → dgetP (.dct (DX 0 P)) (.int (Rg row i : Nat)) = .val (.int ((d * i % q : Nat) : Int)) := fun i hi => by
    have a1 := al (d * i % q) (Nat.mod_lt _ q0)
    rw [mulinv ed hi] at a1
    have e := DX_get (k := 0) nd a1
    unfold dgetP
    show (match valP (DX 0 P) (.inl (Rg row i : Nat)) with | some p => Res.val p | none => .stuck) = _
    rw [e, Nat.zero_add]
  have n1 : Nat.beq (Rg row k) (Rg row 0) = false := Bool.eq_false_iff.mpr fun z => k0 (W.inj hk (by omega) (Nat.beq_eq.mp z))
  have n2 : Nat.beq (Rg row i) (Rg row 0) = false := Bool.eq_false_iff.mpr fun z => h0 (W.inj hi (by omega) (Nat.beq_eq.mp z))
  have ei0 : d * i % q ≠ 0 := fun z => by
    have := mulinv ed hi
    rw [z, Nat.mul_zero, Nat.zero_mod] at this
    omega
  have eil : d * i % q < q := Nat.mod_lt _ q0
  have ekl : d * k % q < q := Nat.mod_lt _ q0
  obtain ⟨b, hb, iv, eb⟩ := inverse_ok W.qp h127 eil ei0
  refine ⟨d * k % q * b % q, Nat.mod_lt _ q0, ?_, ?_⟩
  · have e1 : i * (d * k % q * b % q) % q = i * (d * k * b) % q := by
      rw [Nat.mul_mod, Nat.mod_mod, Nat.mul_mod (d * k % q), Nat.mod_mod, ← Nat.mul_mod (d * k), ← Nat.mul_mod]
    have e2 : d * i * b % q = 1 := by
      rw [Nat.mul_mod, Nat.mod_mod] at eb
      rw [Nat.mul_mod]
      exact eb
    rw [e1, show i * (d * k * b) = k * (d * i * b) by ac_rfl, Nat.mul_mod, e2, Nat.mul_one, Nat.mod_mod, Nat.mod_eq_of_lt hk]
  · unfold m_Group_log
    simp -implicitDefEqProofs only [bind_val, asB_bl, if_true, Bool.not_true, Bool.not_false, Bool.false_eq_true, if_false, retF_rt, seqF_nx, seqF_rt, asSq_lst, asSq_tup, partP_int, leP_int, ltP_int, gtP_int, geP_int, addP_int, subP_int, intP_int, tupleP_lst, asLi_lst, W.uni, eqP_nat, n1, n2, h2, dg k hk, dg i hi, W.ord, iv, mulP_nat (show d * k % q < 2 ^ 64 by omega), modP_nat q0]
end
/-! ### the law's draws: pool, order, modulus -/
theorem pool_ok (ns : List Int) (h : ns.length ≤ 63) : ∃ d, m__law_pool (.fls (ns.map PV.int)) = .val (.dct d) ∧ Px d := by
  have m1 : ∀ a, mulP (.int a) (.int 1000003) = .val (.int (a * 1000003)) := fun a => mulP_r (by decide) (by decide)
  obtain ⟨s1, e1, i, rfl⟩ := forF_inv (S := PV) (L := Empty) (body := fun (x12 : PV) (s2 : PV) => (((mulP s2 (.int 1000003) >>= fun x6 => addP x6 x12) >>= intP) >>= fun x8 => modP x8 (PV.int 2305843009213693951)) >>= fun x10 => Res.val (.nx x10)) (I := fun s => ∃ i, s = .int i) (ps := ns.map PV.int) (s := .int 7) ⟨7, rfl⟩ (fun p hp s hs => by
    obtain ⟨n, _, rfl⟩ := List.mem_map.mp hp
    obtain ⟨i, rfl⟩ := hs
    obtain ⟨o, eo, _⟩ := modP_ex (x := i * 1000003 + n) (b := 2305843009213693951) (by decide)
    refine ⟨.int o, ?_, o, rfl⟩
    simp -implicitDefEqProofs only [bind_val, asB_bl, if_true, Bool.not_true, Bool.not_false, Bool.false_eq_true, if_false, retF_rt, seqF_nx, seqF_rt, asSq_lst, asSq_tup, partP_int, leP_int, ltP_int, gtP_int, geP_int, addP_int, subP_int, intP_int, tupleP_lst, asLi_lst, m1, eo])
  have mk : mkN [] = .val [] := mkN_ok (by decide)
  have up : upto15 [((.inr "cells" : Key), PV.non), (.inr "at", .non), (.inr "rest", .non), (.inr "left", .non), (.inr "small", .non), (.inr "seed", .non), (.inr "turn", .non)].length = .val () := rfl
  have up7 : ∀ a b c d e f g : Key × PV, upto15 [a, b, c, d, e, f, g].length = .val () := fun _ _ _ _ _ _ _ => rfl
  have mg : ∀ cells : List Int, mergeP [] [((.inr "cells" : Key), PV.lst (cells.map PV.int)), (.inr "at", .int 0), (.inr "rest", .int 0), (.inr "left", .int 0), (.inr "small", .bl true), (.inr "seed", .int i), (.inr "turn", .int 0)] = Pl cells 0 0 0 true i 0 := fun _ => rfl
  cases ns with
  | nil =>
    have g0 : decide ((0 : Int) < (([] : List PV).length : Nat)) = false := rfl
    refine ⟨Pl [] 0 0 0 true i 0, ?_, ⟨_, _, _, _, _, _, _, rfl⟩⟩
    have mg0 := mg []
    rw [List.map_nil] at e1 mg0
    unfold m__law_pool
    rw [List.map_nil]
    simp -implicitDefEqProofs only [bind_val, asB_bl, if_true, Bool.not_true, Bool.not_false, Bool.false_eq_true, if_false, retF_rt, seqF_nx, seqF_rt, asSq_lst, asSq_tup, partP_int, leP_int, ltP_int, gtP_int, geP_int, addP_int, subP_int, intP_int, tupleP_lst, asLi_lst, asSq_fls, e1, lenP_lst, g0, keyP_str, up7, mg0, retN_ro]
  | cons n ns =>
    have g0 : ∀ l : List PV, decide ((0 : Int) < ((PV.int n :: l).length : Nat)) = true := fun l => by
      rw [decide_eq_true]
      rw [List.length_cons]
      omega
    have g1 : decide ((0 : Int) < (([] : List PV).length : Nat)) = false := rfl
    have ix : ∀ l : List PV, ixP (.lst (PV.int n :: l)) (.int 0) = .val (.int n) := fun l => ixP_lst (i := 0) rfl
    have md : modP (.int n) (.int 2) = .val (.int (n % 2)) := modP_pos (by decide)
    have fd : fdivP (.int n) (.int 2) = .val (.int (n / 2)) := fdivP_pos (by decide) (by decide)
    have sl : ∀ l : List PV, setL (PV.int n :: l) (.int 0) (.int (n / 2)) = .val (PV.int (n / 2) :: l) := fun l => setL_nat (i := 0) (by rw [List.length_cons]; omega)
    have q1 : eqP (.int (n % 2)) (.int 1) = .val (.bl (decide (n % 2 = 1))) := eqP_int
    cases hc : decide (n % 2 = 1) with
    | true =>
      refine ⟨Pl [] 0 0 0 true i 0, ?_, ⟨_, _, _, _, _, _, _, rfl⟩⟩
      have mg0 := mg []
      rw [List.map_nil] at mg0
      unfold m__law_pool
      simp -implicitDefEqProofs only [bind_val, asB_bl, if_true, Bool.not_true, Bool.not_false, Bool.false_eq_true, if_false, retF_rt, seqF_nx, seqF_rt, asSq_lst, asSq_tup, partP_int, leP_int, ltP_int, gtP_int, geP_int, addP_int, subP_int, intP_int, tupleP_lst, asLi_lst, asSq_fls, e1]
      rw [List.map_cons]
      simp -implicitDefEqProofs only [bind_val, asB_bl, if_true, Bool.not_true, Bool.not_false, Bool.false_eq_true, if_false, retF_rt, seqF_nx, seqF_rt, asSq_lst, asSq_tup, partP_int, leP_int, ltP_int, gtP_int, geP_int, addP_int, subP_int, intP_int, tupleP_lst, asLi_lst, lenP_lst, g0, ix, md, q1, hc, mk, g1, keyP_str, up7, mg0, retN_ro]
    | false =>
      refine ⟨Pl (n / 2 :: ns) 0 0 0 true i 0, ?_, ⟨_, _, _, _, _, _, _, rfl⟩⟩
      have mg0 := mg (n / 2 :: ns)
      rw [List.map_cons] at mg0
      unfold m__law_pool
      simp -implicitDefEqProofs only [bind_val, asB_bl, if_true, Bool.not_true, Bool.not_false, Bool.false_eq_true, if_false, retF_rt, seqF_nx, seqF_rt, asSq_lst, asSq_tup, partP_int, leP_int, ltP_int, gtP_int, geP_int, addP_int, subP_int, intP_int, tupleP_lst, asLi_lst, asSq_fls, e1]
      rw [List.map_cons]
      simp -implicitDefEqProofs only [bind_val, asB_bl, if_true, Bool.not_true, Bool.not_false, Bool.false_eq_true, if_false, retF_rt, seqF_nx, seqF_rt, asSq_lst, asSq_tup, partP_int, leP_int, ltP_int, gtP_int, geP_int, addP_int, subP_int, intP_int, tupleP_lst, asLi_lst, lenP_lst, g0, ix, md, q1, hc, fd, sl, keyP_str, up7, mg0, retN_ro]
def oddP : List Nat := (List.range' 3 125).filter prB
theorem oddP_len : oddP.length = 30 := by decide +kernel
theorem oddP_all : ∀ x, x ∈ oddP → 3 ≤ x ∧ x ≤ 127 ∧ prB x = true := fun x hx => by
  obtain ⟨h1, h2⟩ := List.mem_filter.mp hx
  have := List.mem_range'_1.mp h1
  exact ⟨by omega, by omega, h2⟩
theorem order_ok {d : List (Key × PV)} (hd : Px d) : ∃ (q : Nat) (d' : List (Key × PV)), m__law_order (.dct d) (.int 127) = .val (.int (q : Nat), .dct d') ∧ Px d' ∧ 3 ≤ q ∧ q ≤ 127 ∧ prB q = true := by
  have r1 : rng2 (.int 3) (.int 128) = .val (PN (List.range' 3 125)) := rng2_nat (a := 3) (b := 128) (by decide) (by decide)
  have a1 : (127 : Int) + 1 = 128 := rfl
  have sz : sized (PN (List.range' 3 125)).length = .val () := sized_small (by rw [PN_len, List.length_range']; decide)
  have l1 := lcN (c := fun a5 => m__law_is_prime a5 >>= asB) (e := fun a => Res.val a) (k := prB) (g := fun n => PV.int (n : Nat)) (l := List.range' 3 125) (fun n hn => by
    have := List.mem_range'_1.mp hn
    rw [lawPrime (by omega)]
    rfl) (fun _ _ _ => rfl)
  change lcF _ _ _ _ = .val (PN oddP) at l1
  have ln : lenP (.lst (PN oddP)) = .val (.int (30 : Nat)) := by rw [lenP_lst, PN_len, oddP_len]
  obtain ⟨i, d1, t1, hi, h1⟩ := take_nat hd (m := 30) (by decide) (by decide)
  obtain ⟨j, d2, t2, hj, h2⟩ := take_nat h1 (m := 30) (by decide) (by decide)
  obtain ⟨k, d3, t3, hk, h3⟩ := take_nat h2 (m := 5) (by decide) (by decide)
  have t3' : m__law_take (.dct d2) (.int 5) = .val (.int (k : Nat), .dct d3) := t3
  have t1' : m__law_take (.dct d) (.int 30) = .val (.int (i : Nat), .dct d1) := t1
  have t2' : m__law_take (.dct d1) (.int 30) = .val (.int (j : Nat), .dct d2) := t2
  have gi : oddP[i]? = some (oddP.getD i 0) := by
    have : i < oddP.length := by rw [oddP_len]; exact hi
    rw [List.getD_eq_getElem?_getD, List.getElem?_eq_getElem this]; rfl
  have gj : oddP[j]? = some (oddP.getD j 0) := by
    have : j < oddP.length := by rw [oddP_len]; exact hj
    rw [List.getD_eq_getElem?_getD, List.getElem?_eq_getElem this]; rfl
  have xi : ixP (.lst (PN oddP)) (.int (i : Nat)) = .val (.int (oddP.getD i 0 : Nat)) := ixP_lst (PN_get gi)
  have xj : ixP (.lst (PN oddP)) (.int (j : Nat)) = .val (.int (oddP.getD j 0 : Nat)) := ixP_lst (PN_get gj)
  have mi := oddP_all _ (List.mem_of_getElem? gi)
  have mj := oddP_all _ (List.mem_of_getElem? gj)
  have fin : ∃ q : Nat, ixP (.lst [PV.int 3, PV.int 5, PV.int 7, .int (oddP.getD i 0 : Nat), .int (oddP.getD j 0 : Nat)]) (.int (k : Nat)) = .val (.int (q : Nat)) ∧ 3 ≤ q ∧ q ≤ 127 ∧ prB q = true := by
    match k, hk with
    | 0, _ => exact ⟨3, ixP_lst (i := 0) rfl, by decide, by decide, by decide +kernel⟩
    | 1, _ => exact ⟨5, ixP_lst (i := 1) rfl, by decide, by decide, by decide +kernel⟩
    | 2, _ => exact ⟨7, ixP_lst (i := 2) rfl, by decide, by decide, by decide +kernel⟩
    | 3, _ => exact ⟨_, ixP_lst (i := 3) rfl, mi⟩
    | 4, _ => exact ⟨_, ixP_lst (i := 4) rfl, mj⟩
    | n + 5, h => omega
  obtain ⟨q, xq, hq⟩ := fin
  have mk : ∀ a b c d e : PV, mkL [a, b, c, d, e] = .val (.lst [a, b, c, d, e]) := fun _ _ _ _ _ => mkL_ok (by show 5 ≤ 10000000; decide)
  refine ⟨q, d3, ?_, h3, hq⟩
  unfold m__law_order
  simp -implicitDefEqProofs only [bind_val, asB_bl, if_true, Bool.not_true, Bool.not_false, Bool.false_eq_true, if_false, retF_rt, seqF_nx, seqF_rt, asSq_lst, asSq_tup, partP_int, leP_int, ltP_int, gtP_int, geP_int, addP_int, subP_int, intP_int, tupleP_lst, asLi_lst, a1, r1, sz]
  rw [l1]
  simp -implicitDefEqProofs only [bind_val, asB_bl, if_true, Bool.not_true, Bool.not_false, Bool.false_eq_true, if_false, retF_rt, seqF_nx, seqF_rt, asSq_lst, asSq_tup, partP_int, leP_int, ltP_int, gtP_int, geP_int, addP_int, subP_int, intP_int, tupleP_lst, asLi_lst, noX_val, ln, apR1_o, t1, moD_dct, xi, t2, xj, mk, t3', xq, retR_rt]
theorem modulus_ok {d : List (Key × PV)} (hd : Px d) {q : Nat} (h1 : 3 ≤ q) (h2 : q ≤ 127) (hq : prB q = true) : ∃ (n : Nat) (d' : List (Key × PV)), m__law_modulus (.dct d) (.int (q : Nat)) = .val (.int (n : Nat), .dct d') ∧ Px d' ∧ (n = 0 ∨ (0 < n ∧ goodN n q = true)) := by
  have hmn : 7 ≤ 999 / q := (Nat.le_div_iff_mul_le (by omega)).mpr (by omega)
  have hmx : 999 / q ≤ 333 := Nat.div_le_of_le_mul (by omega)
  have hdm : q * (999 / q) ≤ 999 := Nat.mul_div_le 999 q
  generalize hM : 999 / q = M at *
  obtain ⟨r, d', t, hr, hb'⟩ := take_nat hd (m := M) (by omega) (by omega)
  have fd : fdivP (.int 999) (.int (q : Nat)) = .val (.int (M : Nat)) := by
    have := fdivP_nat (a := 999) (b := q) (by omega) (by omega)
    rw [hM] at this
    exact this
  have r1 : rng1 (.int (M : Nat)) = .val (PN (List.range M)) := rng1_nat (by omega)
  have md : ∀ k : Nat, modP (.int ((k : Nat) : Int)) (.int (M : Nat)) = .val (.int ((k % M : Nat) : Int)) := fun k => modP_nat (by omega)
  have a1 : ∀ k : Nat, (1 : Int) + ((k : Nat) : Int) = ((1 + k : Nat) : Int) := fun k => by omega
  have a2 : ∀ k : Nat, ((r : Nat) : Int) + ((k : Nat) : Int) = ((r + k : Nat) : Int) := fun k => by omega
  have a3 : ∀ k : Nat, ((k : Nat) : Int) + 1 = ((k + 1 : Nat) : Int) := fun k => by omega
  have fd2 := forF_find (S := Unit) (L := Empty) (body := fun (x34 : PV) (s17 : Unit) => (((((((addP (.int (r : Nat)) x34) >>= intP) >>= fun x21 => modP x21 (.int (M : Nat))) >>= fun x24 => addP (.int 1) x24) >>= fun x25 => mulP x25 (.int (q : Nat))) >>= fun x27 => addP x27 (.int 1)) >>= fun x29 => ((m__law_is_prime x29 >>= asB) >>= fun b31 => if b31 = true then (Res.val (Fl.rt x29 [.dct d'])) else (Res.val (Fl.nx ())))))
    (s := ()) (ps := PN (List.range M)) (Good := fun v rr => rr = [.dct d'] ∧ ∃ n : Nat, v = .int (n : Nat) ∧ 0 < n ∧ goodN n q = true) fun p hp => by
      obtain ⟨k, hk, rfl⟩ := List.mem_map.mp hp
      have hm : (r + k) % M < M := Nat.mod_lt _ (by omega)
      have hle : (1 + (r + k) % M) * q ≤ 999 := by
        rw [Nat.mul_comm]
        exact Nat.le_trans (Nat.mul_le_mul_left q (by omega)) hdm
      have ml : mulP (.int ((1 + (r + k) % M : Nat) : Int)) (.int (q : Nat)) = .val (.int (((1 + (r + k) % M) * q : Nat) : Int)) := mulP_nat (by omega)
      have ip := lawPrime (n := (1 + (r + k) % M) * q + 1) (by omega)
      cases h : prB ((1 + (r + k) % M) * q + 1) with
      | true =>
        refine .inr ⟨_, _, ?_, rfl, (1 + (r + k) % M) * q + 1, rfl, by omega, ?_⟩
        · simp -implicitDefEqProofs only [bind_val, asB_bl, if_true, Bool.not_true, Bool.not_false, Bool.false_eq_true, if_false, retF_rt, seqF_nx, seqF_rt, asSq_lst, asSq_tup, partP_int, leP_int, ltP_int, gtP_int, geP_int, addP_int, subP_int, intP_int, tupleP_lst, asLi_lst, a2, md, a1, ml, a3, ip, h]
        · unfold goodN
          simp only [Bool.and_eq_true, Nat.ble_eq, Nat.beq_eq]
          refine ⟨⟨⟨⟨⟨by omega, by omega⟩, by omega⟩, h⟩, hq⟩, ?_⟩
          rw [Nat.add_sub_cancel]
          exact Nat.mul_mod_left _ _
      | false =>
        refine .inl ?_
        simp -implicitDefEqProofs only [bind_val, asB_bl, if_true, Bool.not_true, Bool.not_false, Bool.false_eq_true, if_false, retF_rt, seqF_nx, seqF_rt, asSq_lst, asSq_tup, partP_int, leP_int, ltP_int, gtP_int, geP_int, addP_int, subP_int, intP_int, tupleP_lst, asLi_lst, a2, md, a1, ml, a3, ip, h]
  unfold m__law_modulus
  rcases fd2 with ⟨e, al⟩ | ⟨v, rr, e, rfl, n, rfl, h3, h4⟩
  · try simp -implicitDefEqProofs only [bind_val] at e
    refine ⟨0, d', ?_, hb', .inl rfl⟩
    simp -implicitDefEqProofs only [bind_val, asB_bl, if_true, Bool.not_true, Bool.not_false, Bool.false_eq_true, if_false, retF_rt, seqF_nx, seqF_rt, asSq_lst, asSq_tup, partP_int, leP_int, ltP_int, gtP_int, geP_int, addP_int, subP_int, intP_int, tupleP_lst, asLi_lst, fd, noX_val, apR1_o, t, moD_dct, r1, e, retR_rt]
    rfl
  · try simp -implicitDefEqProofs only [bind_val] at e
    refine ⟨n, d', ?_, hb', .inr ⟨h3, h4⟩⟩
    simp -implicitDefEqProofs only [bind_val, asB_bl, if_true, Bool.not_true, Bool.not_false, Bool.false_eq_true, if_false, retF_rt, seqF_nx, seqF_rt, asSq_lst, asSq_tup, partP_int, leP_int, ltP_int, gtP_int, geP_int, addP_int, subP_int, intP_int, tupleP_lst, asLi_lst, fd, noX_val, apR1_o, t, moD_dct, r1, e, retR_rt]
/-! ### tables -/
theorem order_runS {T : Type} (I : T → Prop) (body : PV → (List PV × T) → Res (PV × (List PV × T))) (hb : ∀ (x : PV) (L : List Nat) (s : T), I s → 0 < L.length → L.length < 100000 → ∃ (i : Nat) (h : i < L.length) (s' : T), body x (PN L, s) = .val (.int (L[i] : Nat), (PN (L.eraseIdx i), s')) ∧ I s') :
    ∀ (ps : List PV) (L : List Nat) (s : T), ps.length = L.length → L.length < 100000 → I s → ∃ (ys : List Nat) (s' : T), lcE (fun x => Res.val x) (fun (_ : PV) (t : List PV × T) => Res.val (true, t)) body ps (PN L, s) = .val (PN ys, ([], s')) ∧ ys.Perm L ∧ I s'
  | [], L, s, h, _, hs => by
    have : L = [] := List.length_eq_zero_iff.mp h.symm
    subst this
    exact ⟨[], s, rfl, List.Perm.refl _, hs⟩
  | p :: ps, L, s, h, h2, hs => by
    have hl : 0 < L.length := by rw [← h]; exact Nat.succ_pos _
    obtain ⟨i, hi, s1, e, h1⟩ := hb p L s hs hl h2
    have len : (L.eraseIdx i).length = L.length - 1 := by rw [List.length_eraseIdx, if_pos hi]
    obtain ⟨ys, s2, e2, pm, h3⟩ := order_runS I body hb ps (L.eraseIdx i) s1 (by rw [len]; simp only [List.length_cons] at h; omega) (by rw [len]; omega) h1
    refine ⟨L[i] :: ys, s2, ?_, (List.Perm.cons _ pm).trans (pop_perm hi), h3⟩
    unfold lcE
    rw [noX_val, bind_val, bind_val, if_pos rfl, e, bind_val, e2, bind_val]
    rfl
theorem DX_app {x : Nat} : ∀ {l : List Nat} {k : Nat}, DX k (l ++ [x]) = DX k l ++ [(.inl (x : Nat), .int ((k + l.length : Nat) : Int))]
  | [], k => rfl
  | y :: l, k => by
    have ih := DX_app (x := x) (l := l) (k := k + 1)
    show (_ :: DX (k + 1) (l ++ [x])) = _
    rw [ih, List.length_cons, show k + 1 + l.length = k + (l.length + 1) by omega]
    rfl
theorem DX_len : ∀ {l : List Nat} {k : Nat}, (DX k l).length = l.length
  | [], _ => rfl
  | _ :: l, k => congrArg (· + 1) (DX_len (l := l) (k := k + 1))
/-- the numbers of a row by their places -/
theorem logs_ok {L : Type} {row : List Nat} {q : Nat} (hl : row.length = q) (hq : q < 10000) (nd : row.Nodup) :
    (rng1 (.int (q : Nat)) >>= fun ps40 => forF (L := L) (fun (x41 : PV) (s32 : List (Key × PV)) => (ixP (.lst (PN row)) x41 >>= fun k37 => keyP k37 >>= fun k39 => sized (s32.length + 1) >>= fun _ => Res.val (Fl.nx (putP s32 k39 x41)))) ps40 []) = .val (.nx (DX 0 row)) := by
  have lp := forF_rng1 (S := List (Key × PV)) (L := L) (n := q) (body := fun (x41 : PV) (s32 : List (Key × PV)) => (ixP (.lst (PN row)) x41 >>= fun k37 => keyP k37 >>= fun k39 => sized (s32.length + 1) >>= fun _ => Res.val (Fl.nx (putP s32 k39 x41))))
    (fun i => DX 0 (row.take i)) (by omega) fun i hi => by
      have hi' : i < row.length := by rw [hl]; exact hi
      have hx : ixP (.lst (PN row)) (.int (i : Nat)) = .val (.int (row[i] : Nat)) := ixP_lst (PN_get (List.getElem?_eq_getElem hi'))
      have sz : sized ((DX 0 (row.take i)).length + 1) = .val () := sized_small (by rw [DX_len, List.length_take]; omega)
      have kp : keyP (.int ((row[i] : Nat) : Int)) = .val (.inl ((row[i] : Nat) : Int)) := rfl
      have nn : valP (DX 0 (row.take i)) (.inl ((row[i] : Nat) : Int)) = none := DX_none fun n hn e => by
        obtain ⟨j, hj, ej⟩ := List.getElem_of_mem hn
        rw [List.length_take] at hj
        rw [List.getElem_take] at ej
        have e2 : row[j] = row[i] := by omega
        have := (List.getElem_inj nd).mp e2
        omega
      simp -implicitDefEqProofs only [bind_val, asB_bl, if_true, Bool.not_true, Bool.not_false, Bool.false_eq_true, if_false, retF_rt, seqF_nx, seqF_rt, asSq_lst, asSq_tup, partP_int, leP_int, ltP_int, gtP_int, geP_int, addP_int, subP_int, intP_int, tupleP_lst, asLi_lst, hx, kp, sz, putP_new nn]
      rw [List.take_succ, List.getElem?_eq_getElem hi']
      show _ = Res.val (Fl.nx (DX 0 (row.take i ++ [row[i]])))
      rw [DX_app, Nat.zero_add, List.length_take, Nat.min_eq_left (by omega)]
  rw [List.take_zero, ← hl, List.take_length, hl] at lp
  exact lp
theorem mk2 (a b : PV) : mkT [a, b] = .val (.tup [a, b]) := mkT_ok (by show 2 ≤ 10000000; decide)
theorem table_ok {d : List (Key × PV)} (hd : Px d) {q : Nat} (h1 : 3 ≤ q) (h2 : q ≤ 13) (hq : prB q = true) : ∃ (O : PV) (row : List Nat) (d' : List (Key × PV)), m__law_table (.dct d) (.int (q : Nat)) = .val (.tup [.lst (PN row), O], .dct d') ∧ Px d' ∧ GW O row q := by
  have q0 : 0 < q := by omega
  have r1 : rng1 (.int (q : Nat)) = .val (PN (List.range q)) := rng1_nat (by omega)
  have rg : rgL 0 (q : Nat) = .val (PN (List.range q)) := rgL_nat (by omega)
  have sz : sized (PN (List.range q)).length = .val () := sized_small (by rw [PN_len, List.length_range]; omega)
  obtain ⟨row, d', e, pm, hs'⟩ := order_runS Px (fun (a9 : PV) => (fun (s12 : List PV × List (Key × PV)) => (fun (s13 : List PV × List (Key × PV)) => (fun (s17 : List PV × List (Key × PV)) => (fun (s14 : List PV × List (Key × PV)) => noX ((Res.val (PV.lst s14.1)) >>= lenP) >>= fun v15 => Res.val (v15, s14)) s17 >>= fun x18 => (fun (s16 : List PV × List (Key × PV)) => Res.val (([] : List PV), s16)) x18.2 >>= fun xs19 => Res.val (x18.1 :: xs19.1, xs19.2)) s13 >>= fun x20 => (apR1 m__law_take) (MO.dct x20.2.2) x20.1 >>= fun r21 => ((fun (s13 : List PV × List (Key × PV)) (mo : MO) => moD mo >>= fun l => Res.val (s13.1, l)) x20.2 r21.2) >>= fun s22 => Res.val (r21.1, s22)) s12 >>= fun k23 => popL k23.2.1 k23.1 >>= fun r24 => Res.val (r24.1, (r24.2, k23.2.2))))
    (fun x L s hs hl hl2 => by
      obtain ⟨i, s1, t, hi, hp⟩ := take_nat hs (m := L.length) hl (by omega)
      refine ⟨i, hi, s1, ?_, hp⟩
      have ln : lenP (.lst (PN L)) = .val (.int (L.length : Nat)) := by rw [lenP_lst, PN_len]
      simp -implicitDefEqProofs only [bind_val, asB_bl, if_true, Bool.not_true, Bool.not_false, Bool.false_eq_true, if_false, retF_rt, seqF_nx, seqF_rt, asSq_lst, asSq_tup, partP_int, leP_int, ltP_int, gtP_int, geP_int, addP_int, subP_int, intP_int, tupleP_lst, asLi_lst, ln, noX_val, apR1_o, t, moD_dct, popL_PN hi (show i < 100000 by omega)]) (PN (List.range q)) (List.range q) d (by rw [PN_len]) (by rw [List.length_range]; omega) hd
  have ok : RowOk row q := pm
  have nd := ok.nd
  have mk := makeT ok h1 h2 hq
  have m0 : mkN ([] : List PV) = .val [] := mkN_ok (by decide)
  have lg := logs_ok (L := Empty) ok.len (show q < 10000 by omega) nd
  have px : ∀ a, a < q → dgetP (.dct (DX 0 row)) (.int (a : Nat)) = .val (.int (pl row a : Nat)) := fun a ha => by
    have hi : pl row a < q := ok.pl_lt ha
    have g := ok.get hi
    rw [ok.Rg_pl ha] at g
    have e := DX_get (k := 0) nd g
    unfold dgetP
    show (match valP (DX 0 row) (.inl (a : Nat)) with | some p => Res.val p | none => .stuck) = _
    rw [e, Nat.zero_add]
  have ad : ∀ a b : Nat, ((a : Nat) : Int) + ((b : Nat) : Int) = ((a + b : Nat) : Int) := fun a b => by omega
  have inner : ∀ a, a < q → (rng1 (.int (q : Nat)) >>= fun ps57 => sized ps57.length >>= fun _ => lcF (fun x => Res.val x) (fun (_ : PV) => Res.val true) (fun (a46 : PV) => ((((dgetP (.dct (DX 0 row)) (.int (a : Nat)) >>= fun x51 => dgetP (.dct (DX 0 row)) a46 >>= fun x52 => addP x51 x52) >>= intP) >>= fun x53 => modP x53 (.int (q : Nat))) >>= fun x56 => ixP (.lst (PN row)) x56)) ps57) = .val (PN (rowT row q a)) := fun a ha => by
    rw [lc_rng1 (fun b => PV.int (Rg row ((pl row a + pl row b) % q) : Nat)) (by omega) fun b hb => by
      have hx : ixP (.lst (PN row)) (.int ((pl row a + pl row b) % q : Nat)) = .val (.int (Rg row ((pl row a + pl row b) % q) : Nat)) := ixP_lst (PN_get (ok.get (Nat.mod_lt _ q0)))
      simp -implicitDefEqProofs only [bind_val, asB_bl, if_true, Bool.not_true, Bool.not_false, Bool.false_eq_true, if_false, retF_rt, seqF_nx, seqF_rt, asSq_lst, asSq_tup, partP_int, leP_int, ltP_int, gtP_int, geP_int, addP_int, subP_int, intP_int, tupleP_lst, asLi_lst, px a ha, px b hb, ad, modP_nat q0, hx]]
    unfold PN rowT
    rw [List.map_map]
    rfl
  have outer := forF_rng1 (S := List PV) (L := Empty) (n := q) (body := fun (x61 : PV) (s44 : List PV) => ((((rng1 (.int (q : Nat)) >>= fun ps57 => sized ps57.length >>= fun _ => lcF (fun x => Res.val x) (fun (_ : PV) => Res.val true) (fun (a46 : PV) => ((((dgetP (.dct (DX 0 row)) x61 >>= fun x51 => dgetP (.dct (DX 0 row)) a46 >>= fun x52 => addP x51 x52) >>= intP) >>= fun x53 => modP x53 (.int (q : Nat))) >>= fun x56 => ixP (.lst (PN row)) x56)) ps57) >>= fun ps58 => Res.val (PV.lst ps58)) >>= tupleP) >>= fun x59 => sized (s44.length + 1) >>= fun _ => Res.val (Fl.nx (s44 ++ [x59]))))
    (fun i => (List.range i).map fun a => PV.tup (PN (rowT row q a))) (by omega) fun i hi => by
      have z : sized (((List.range i).map fun a => PV.tup (PN (rowT row q a))).length + 1) = .val () := sized_small (by rw [List.length_map, List.length_range]; omega)
      rw [inner i hi]
      simp -implicitDefEqProofs only [bind_val, asB_bl, if_true, Bool.not_true, Bool.not_false, Bool.false_eq_true, if_false, retF_rt, seqF_nx, seqF_rt, asSq_lst, asSq_tup, partP_int, leP_int, ltP_int, gtP_int, geP_int, addP_int, subP_int, intP_int, tupleP_lst, asLi_lst, z]
      rw [List.range_succ, List.map_append]
      rfl
  rw [List.range_zero, List.map_nil] at outer
  simp -implicitDefEqProofs only [bind_val, r1, sz] at lg outer
  simp -implicitDefEqProofs only [bind_val, noX_val, apR1_o] at e
  have mk' : m_TableGroup___init__ (.ob "TableGroup" []) (.tup ((List.range q).map fun a => PV.tup (PN (rowT row q a)))) = .val (.non, .ob "TableGroup" (fsTg (tabV row q) q (Rg row 0) (List.range q) (tgG row) (PL (tgP row q) q))) := mk
  refine ⟨_, row, d', ?_, hs', gwT ok h1 h2 hq⟩
  unfold m__law_table
  simp -implicitDefEqProofs only [bind_val, asB_bl, if_true, Bool.not_true, Bool.not_false, Bool.false_eq_true, if_false, retF_rt, seqF_nx, seqF_rt, asSq_lst, asSq_tup, partP_int, leP_int, ltP_int, gtP_int, geP_int, addP_int, subP_int, intP_int, tupleP_lst, asLi_lst, rg, r1, noX_val, sz, apR1_o]
  rw [e]
  simp -implicitDefEqProofs only [bind_val, asB_bl, if_true, Bool.not_true, Bool.not_false, Bool.false_eq_true, if_false, retF_rt, seqF_nx, seqF_rt, asSq_lst, asSq_tup, partP_int, leP_int, ltP_int, gtP_int, geP_int, addP_int, subP_int, intP_int, tupleP_lst, asLi_lst, noX_val, lg, m0, outer, mk', frO_ob, mk2, retR_rt]
/-! ### groups that are drawn -/
def fermB : Bool := (List.range 1001).all fun p => !prB p || (List.range p).all fun x => Nat.beq x 0 || Nat.beq (x ^ (p - 1) % p) 1
theorem fermB_true : fermB = true := by decide +kernel
theorem fermat {p x : Nat} (hp : prB p = true) (h : p ≤ 1000) (hx : x < p) (h0 : x ≠ 0) : x ^ (p - 1) % p = 1 := by
  have a := List.all_eq_true.mp fermB_true p (List.mem_range.mpr (by omega))
  rw [hp, Bool.not_true, Bool.false_or] at a
  have b := List.all_eq_true.mp a x (List.mem_range.mpr hx)
  rw [show Nat.beq x 0 = false from Bool.eq_false_iff.mpr fun z => h0 (Nat.beq_eq.mp z), Bool.false_or] at b
  exact Nat.beq_eq.mp b
def anyB : Bool := (List.range 1001).all fun p => !prB p || (List.range 128).all fun q => !goodN p q || (List.range' 2 (p - 2)).any fun a => !Nat.beq (a ^ ((p - 1) / q) % p) 1
theorem anyB_true : anyB = true := by decide +kernel
theorem any_ok {p q : Nat} (h : goodN p q = true) : ∃ y, 2 ≤ y ∧ y < p ∧ y ^ ((p - 1) / q) % p ≠ 1 := by
  obtain ⟨g, G⟩ := pg h
  have h1 := G.p1
  have h3 := G.q127
  have a := List.all_eq_true.mp anyB_true p (List.mem_range.mpr (by omega))
  rw [G.pp, Bool.not_true, Bool.false_or] at a
  have b := List.all_eq_true.mp a q (List.mem_range.mpr (by omega))
  rw [h, Bool.not_true, Bool.false_or] at b
  obtain ⟨y, hy, e⟩ := List.any_eq_true.mp b
  have := List.mem_range'_1.mp hy
  refine ⟨y, by omega, by omega, fun z => ?_⟩
  rw [Nat.beq_eq.mpr z] at e
  cases e
/-- the same group by the powers of another member -/
theorem GW.change {O : PV} {row row' : List Nat} {q c : Nat} (W : GW O row q) (hc : c < q) (h0 : c ≠ 0) (hl : row'.length = q) (h : ∀ i, i < q → Rg row' i = Rg row (c * i % q)) : GW O row' q := by
  have h3 := W.q3
  have q0 : 0 < q := by omega
  obtain ⟨b, hb, eb⟩ := invN W.qp W.q127 hc h0
  obtain ⟨P, c0, d0, f1, f2, len, nd, hc0, hd0, ecd, al⟩ := W.pow
  obtain ⟨f, sf, ff⟩ := W.mul
  refine ⟨W.q3, W.q127, W.qp, hl, fun i hi => by rw [h i hi]; exact W.lt _ (Nat.mod_lt _ q0), W.slog, W.spow, W.shas, W.scom, W.sinv, ⟨f, sf, fun i j hi hj => ?_⟩, W.ord, ?_, ⟨P, b * c0 % q, c * d0 % q, f1, f2, len, nd, Nat.mod_lt _ q0, Nat.mod_lt _ q0, ?_, fun k hk => ?_⟩⟩
  · rw [h i hi, h j hj, ff _ _ (Nat.mod_lt _ q0) (Nat.mod_lt _ q0), h _ (Nat.mod_lt _ q0)]
    have e : (c * i % q + c * j % q) % q = c * ((i + j) % q) % q := by
      rw [← Nat.add_mod, ← Nat.mul_add, Nat.mul_mod c ((i + j) % q), Nat.mod_mod, ← Nat.mul_mod]
    rw [e]
  · rw [h 0 q0, Nat.mul_zero, Nat.zero_mod]
    exact W.uni
  · rw [← Nat.mul_mod, show b * c0 * (c * d0) = (c * b) * (c0 * d0) by ac_rfl, Nat.mul_mod, eb, ecd]
    exact Nat.mod_eq_of_lt (by omega)
  · rw [al k hk, h _ (Nat.mod_lt _ q0)]
    have e : c * (b * c0 % q * k % q) % q = c0 * k % q := by
      rw [Nat.mul_mod c, Nat.mod_mod, Nat.mul_mod (b * c0 % q) k, Nat.mod_mod, ← Nat.mul_mod (b * c0) k, ← Nat.mul_mod c, show c * (b * c0 * k) = (c * b) * (c0 * k) by ac_rfl, Nat.mul_mod, eb, Nat.one_mul, Nat.mod_mod]
    rw [e]
/-! ### power groups that are drawn -/
def srch (p e : Nat) : PV → PV → Res (Fl PV PV) := fun x120 s98 => (((m__law_power s98 (.int (e : Nat)) (.int (p : Nat)) >>= fun x107 => neP x107 (.int 1)) >>= asB) >>= fun b109 => if b109 = true then (Res.val (.bk s98)) else (((((subP s98 (.int 1)) >>= intP) >>= fun x114 => modP x114 (.int ((p - 2 : Nat) : Int))) >>= fun x117 => addP (.int 2) x117) >>= fun x118 => (Res.val (.nx x118))))
theorem srch_run {L : Type} {p e y : Nat} (hp : 3 ≤ p) (hp2 : p ≤ 1000) (he : e < 1024) (hy : 2 ≤ y) (hy2 : y < p) (hn : y ^ e % p ≠ 1) : ∀ (ps : List PV) (x D : Nat), D < ps.length → 2 ≤ x → x < p → (x - 2 + D) % (p - 2) + 2 = y → ∃ z : Nat, 2 ≤ z ∧ z < p ∧ z ^ e % p ≠ 1 ∧ forF (L := L) (srch p e) ps (.int (x : Nat)) = .val (.nx (.int (z : Nat)))
  | [], x, D, h, _, _, _ => by simp at h
  | t :: ps, x, D, h, hx, hx2, hd => by
    have lp := lawpower_ok (x := x) (e := e) (p := p) (by omega) he (by omega) (by omega)
    have q1 : neP (.int ((x ^ e % p : Nat) : Int)) (.int 1) = .val (.bl (!Nat.beq (x ^ e % p) 1)) := neP_nat (b := 1)
    unfold forF
    cases hb : Nat.beq (x ^ e % p) 1 with
    | false =>
      refine ⟨x, hx, hx2, (fun z => by
        rw [Nat.beq_eq.mpr z] at hb
        cases hb), ?_⟩
      have : srch p e t (.int (x : Nat)) = .val (.bk (.int (x : Nat))) := by
        unfold srch
        simp -implicitDefEqProofs only [bind_val, asB_bl, if_true, Bool.not_true, Bool.not_false, Bool.false_eq_true, if_false, retF_rt, seqF_nx, seqF_rt, asSq_lst, asSq_tup, partP_int, leP_int, ltP_int, gtP_int, geP_int, addP_int, subP_int, intP_int, tupleP_lst, asLi_lst, lp, q1, hb]
      rw [this]
      rfl
    | true =>
      have bad := Nat.beq_eq.mp hb
      have D0 : D ≠ 0 := fun z => by
        subst z
        rw [Nat.add_zero, Nat.mod_eq_of_lt (by omega)] at hd
        have : x = y := by omega
        subst this
        exact hn bad
      have e1 : ((x : Nat) : Int) - 1 = ((x - 1 : Nat) : Int) := by omega
      have e2 : modP (.int ((x - 1 : Nat) : Int)) (.int ((p - 2 : Nat) : Int)) = .val (.int (((x - 1) % (p - 2) : Nat) : Int)) := modP_nat (by omega)
      have e3 : (2 : Int) + (((x - 1) % (p - 2) : Nat) : Int) = ((2 + (x - 1) % (p - 2) : Nat) : Int) := by omega
      have lt : (x - 1) % (p - 2) < p - 2 := Nat.mod_lt _ (by omega)
      obtain ⟨z, h1, h2, h3, h4⟩ := srch_run (L := L) hp hp2 he hy hy2 hn ps (2 + (x - 1) % (p - 2)) (D - 1) (by rw [List.length_cons] at h; omega) (by omega) (by omega) (by
        rw [show 2 + (x - 1) % (p - 2) - 2 = (x - 1) % (p - 2) by omega, Nat.mod_add_mod, show x - 1 + (D - 1) = x - 2 + D by omega]
        exact hd)
      refine ⟨z, h1, h2, h3, ?_⟩
      have : srch p e t (.int (x : Nat)) = .val (.nx (.int ((2 + (x - 1) % (p - 2) : Nat) : Int))) := by
        unfold srch
        simp -implicitDefEqProofs only [bind_val, asB_bl, if_true, Bool.not_true, Bool.not_false, Bool.false_eq_true, if_false, retF_rt, seqF_nx, seqF_rt, asSq_lst, asSq_tup, partP_int, leP_int, ltP_int, gtP_int, geP_int, addP_int, subP_int, intP_int, tupleP_lst, asLi_lst, lp, q1, hb, e1, e2, e3]
      rw [this]
      exact h4
theorem elems_ok {one p q : Nat} (hp : 2 ≤ p) (hp2 : p ≤ 1000) (h3 : 3 ≤ q) (h127 : q ≤ 127) :
    (rng1 (.int ((q - 1 : Nat) : Int)) >>= fun ps144 => forF (L := Empty) (fun (x145 : PV) (s135 : List PV) => (((((ixP (PV.lst s135) (.int (-1))) >>= fun x139 => mulP x139 (.int (one : Nat))) >>= intP) >>= fun x141 => modP x141 (.int (p : Nat))) >>= fun x143 => sized (s135.length + 1) >>= fun _ => (Res.val (.nx (s135 ++ [x143]))))) ps144 [PV.int 1]) = .val (.nx (PN (powL one p q))) := by
  have lp := forF_rng1 (S := List PV) (L := Empty) (n := q - 1) (body := fun (x145 : PV) (s135 : List PV) => (((((ixP (PV.lst s135) (.int (-1))) >>= fun x139 => mulP x139 (.int (one : Nat))) >>= intP) >>= fun x141 => modP x141 (.int (p : Nat))) >>= fun x143 => sized (s135.length + 1) >>= fun _ => (Res.val (.nx (s135 ++ [x143])))))
    (fun i => PN (powL one p (i + 1))) (by omega) fun i hi => by
      have hx : ixP (.lst (PN (powL one p (i + 1)))) (.int (-1)) = .val (.int ((one ^ i % p : Nat) : Int)) := by
        rw [powL_succ, PN_app]
        exact ixLast
      have hz : sized ((PN (powL one p (i + 1))).length + 1) = .val () := sized_small (by rw [pm_len]; omega)
      have lt1 : one ^ i % p < p := Nat.mod_lt _ (by omega)
      have hs : one ^ i % p * one % p = one ^ (i + 1) % p := by rw [Nat.pow_succ, Nat.mul_mod, Nat.mod_mod, ← Nat.mul_mod]
      simp -implicitDefEqProofs only [bind_val, asB_bl, if_true, Bool.not_true, Bool.not_false, Bool.false_eq_true, if_false, retF_rt, seqF_nx, seqF_rt, asSq_lst, asSq_tup, partP_int, leP_int, ltP_int, gtP_int, geP_int, addP_int, subP_int, intP_int, tupleP_lst, asLi_lst, hx, mulP_nat (show one ^ i % p < 2 ^ 64 by omega), modP_nat (show 0 < p by omega), hs, hz]
      rw [powL_succ (n := i + 1), PN_app]
  have st : PN (powL one p (0 + 1)) = [PV.int 1] := by
    unfold powL PN
    show [PV.int ((one ^ 0 % p : Nat) : Int)] = _
    rw [Nat.pow_zero, Nat.mod_eq_of_lt (by omega)]
    rfl
  rw [st, show q - 1 + 1 = q by omega] at lp
  exact lp
theorem gwOne {p q g one : Nat} (G : PG p q g) (h0 : one ^ q % p = 1) (h1 : one ≠ 1) (hl : one < p) : GW (.ins "PowerGroup" (fsPg (.int (p : Nat)) q 1 (memN p q) g (powL g p q))) (powL one p q) q := by
  have h3 := G.q3
  have hp := G.p2
  have n0 : one ≠ 0 := fun z => by
    subst z
    rw [Nat.zero_pow (by omega), Nat.zero_mod] at h0
    cases h0
  obtain ⟨c, hc, ec⟩ := G.bas one (mem_memN.mpr ⟨by omega, hl, h0⟩)
  have c0 : c ≠ 0 := fun z => by
    subst z
    rw [Nat.pow_zero, Nat.mod_eq_of_lt (by omega)] at ec
    exact h1 ec.symm
  have b1 : baseN p q ^ q % p = 1 % p := by rw [G.bq, Nat.mod_eq_of_lt (by omega)]
  refine (gwP G).change hc c0 powL_len fun i hi => ?_
  rw [Rg_powL hi, Rg_powL (Nat.mod_lt _ (by omega)), ← pow_red b1, Nat.pow_mul, Nat.pow_mod (baseN p q ^ c), ec]
theorem GW.isn {O : PV} {row : List Nat} {q : Nat} (W : GW O row q) : isNo O = false := by
  have h := W.ord
  cases O with
  | non => cases h
  | _ => rfl
theorem group_ok {d : List (Key × PV)} (hd : Px d) {q : Nat} (h1 : 3 ≤ q) (h2 : q ≤ 127) (hq : prB q = true) : ∃ d' : List (Key × PV), Px d' ∧ ((14 ≤ q ∧ m__law_group (.dct d) (.int (q : Nat)) = .val (.tup [.lst [], .non], .dct d')) ∨ ∃ (O : PV) (row : List Nat), m__law_group (.dct d) (.int (q : Nat)) = .val (.tup [.lst (PN row), O], .dct d') ∧ GW O row q) := by
  obtain ⟨p, d1, tm, hp1, hpq⟩ := modulus_ok hd h1 h2 hq
  have l14 : ltP (.int (q : Nat)) (.int 14) = .val (.bl (decide (((q : Nat) : Int) < 14))) := rfl
  have z0 : eqP (.int (p : Nat)) (.int 0) = .val (.bl (Nat.beq p 0)) := eqP_nat (b := 0)
  have mk0 : mkL [] = .val (.lst []) := mkL_ok (by decide)
  have mk1 : mkN [PV.int 1] = .val [PV.int 1] := mkN_ok (by show 1 ≤ 10000000; decide)
  have ng : negP (.int 1) = .val (.int (-1)) := rfl
  have r2 : ∀ r : Nat, eqP (.int (r : Nat)) (.int 0) = .val (.bl (Nat.beq r 0)) := fun r => eqP_nat (b := 0)
  have power : ∀ d2 : List (Key × PV), Px d2 → 0 < p → goodN p q = true → ∃ (g x z : Nat) (d3 : List (Key × PV)), Px d3 ∧ m__law_take (.dct d2) (.int ((p - 2 : Nat) : Int)) = .val (.int (x : Nat), .dct d3) ∧ forF (L := Empty) (srch p ((p - 1) / q)) (PN (List.range p)) (.int ((2 + x : Nat) : Int)) = .val (.nx (.int (z : Nat))) ∧ m__law_power (.int (z : Nat)) (.int (((p - 1) / q : Nat) : Int)) (.int (p : Nat)) = .val (.int ((z ^ ((p - 1) / q) % p : Nat) : Int)) ∧ m_PowerGroup___init__ (.ob "PowerGroup" []) (.int (p : Nat)) (.int (q : Nat)) = .val (.non, .ob "PowerGroup" (fsPg (.int (p : Nat)) q 1 (memN p q) g (powL g p q))) ∧ GW (.ins "PowerGroup" (fsPg (.int (p : Nat)) q 1 (memN p q) g (powL g p q))) (powL (z ^ ((p - 1) / q) % p) p q) q ∧ 3 ≤ p ∧ p ≤ 1000 := by
    intro d2 hd2 h0 hg
    obtain ⟨g, G⟩ := pg hg
    obtain ⟨y, y2, yp, yn⟩ := any_ok hg
    have p1 := G.p1
    have p3 : 3 ≤ p := by omega
    have dv := G.dv
    obtain ⟨x, d3, tk, hx, hp3⟩ := take_nat hd2 (m := p - 2) (by omega) (by omega)
    have he : (p - 1) / q ≤ 333 := Nat.div_le_of_le_mul (by omega)
    have yl : y < p := by omega
    obtain ⟨z, z2, zp, zn, zf⟩ := srch_run (L := Empty) p3 p1 (show (p - 1) / q < 1024 by omega) y2 yl yn (PN (List.range p)) (2 + x) ((y - 2 + (p - 2) - x) % (p - 2)) (by
      rw [PN_len, List.length_range]
      have := Nat.mod_lt (y - 2 + (p - 2) - x) (show 0 < p - 2 by omega)
      omega) (by omega) (by omega) (by
      rw [show 2 + x - 2 = x by omega, Nat.add_mod_mod, show x + (y - 2 + (p - 2) - x) = y - 2 + (p - 2) by omega, Nat.add_mod_right, Nat.mod_eq_of_lt (by omega)]
      omega)
    refine ⟨g, x, z, d3, hp3, tk, zf, lawpower_ok (by omega) (by omega) (by omega) (by omega), makeP G hg, gwOne G ?_ zn (Nat.mod_lt _ (by omega)), p3, p1⟩
    rw [← Nat.pow_mod, ← Nat.pow_mul, Nat.div_mul_cancel (Nat.dvd_of_mod_eq_zero dv)]
    exact fermat G.pp p1 zp (by omega)
  unfold m__law_group
  by_cases c14 : ((q : Nat) : Int) < 14
  · rcases hpq with h0 | ⟨h0, hg⟩
    · obtain ⟨O, row, d2, tb, hp2, W⟩ := table_ok hp1 h1 (by omega) hq
      have zt : Nat.beq p 0 = true := Nat.beq_eq.mpr h0
      refine ⟨d2, hp2, .inr ⟨O, row, ?_, W⟩⟩
      simp -implicitDefEqProofs only [bind_val, asB_bl, if_true, Bool.not_true, Bool.not_false, Bool.false_eq_true, if_false, retF_rt, seqF_nx, seqF_rt, asSq_lst, asSq_tup, partP_int, leP_int, ltP_int, gtP_int, geP_int, addP_int, subP_int, intP_int, tupleP_lst, asLi_lst, noX_val, apR1_o, tm, moD_dct, decide_eq_true c14, z0, zt, tb, retR_rt]
    · have zf0 : Nat.beq p 0 = false := Bool.eq_false_iff.mpr fun z => by have := Nat.beq_eq.mp z; omega
      obtain ⟨r, d2, t2, hr, hp2⟩ := take_nat hp1 (m := 2) (by decide) (by decide)
      have t2' : m__law_take (.dct d1) (.int 2) = .val (.int (r : Nat), .dct d2) := t2
      cases hr0 : Nat.beq r 0 with
      | true =>
        obtain ⟨O, row, d3, tb, hp3, W⟩ := table_ok hp2 h1 (by omega) hq
        refine ⟨d3, hp3, .inr ⟨O, row, ?_, W⟩⟩
        simp -implicitDefEqProofs only [bind_val, asB_bl, if_true, Bool.not_true, Bool.not_false, Bool.false_eq_true, if_false, retF_rt, seqF_nx, seqF_rt, asSq_lst, asSq_tup, partP_int, leP_int, ltP_int, gtP_int, geP_int, addP_int, subP_int, intP_int, tupleP_lst, asLi_lst, noX_val, apR1_o, tm, moD_dct, decide_eq_true c14, z0, zf0, t2', r2, hr0, tb, retR_rt]
      | false =>
        obtain ⟨g, x, z, d3, hp3, tk, zf, lw, mk, W, p3, p1⟩ := power d2 hp2 h0 hg
        have s1 : ((p : Nat) : Int) - 1 = ((p - 1 : Nat) : Int) := by omega
        have s2 : ((p : Nat) : Int) - 2 = ((p - 2 : Nat) : Int) := by omega
        have s3 : ((q : Nat) : Int) - 1 = ((q - 1 : Nat) : Int) := by omega
        have s4 : (2 : Int) + ((x : Nat) : Int) = ((2 + x : Nat) : Int) := by omega
        have fdv : fdivP (.int ((p - 1 : Nat) : Int)) (.int (q : Nat)) = .val (.int (((p - 1) / q : Nat) : Int)) := fdivP_nat (by omega) (by omega)
        have rp : rng1 (.int (p : Nat)) = .val (PN (List.range p)) := rng1_nat (by omega)
        have el := elems_ok (one := z ^ ((p - 1) / q) % p) (p := p) (q := q) (by omega) p1 h1 h2
        unfold srch at zf
        refine ⟨d3, hp3, .inr ⟨_, _, ?_, W⟩⟩
        simp -implicitDefEqProofs only [bind_val, asB_bl, if_true, Bool.not_true, Bool.not_false, Bool.false_eq_true, if_false, retF_rt, seqF_nx, seqF_rt, asSq_lst, asSq_tup, partP_int, leP_int, ltP_int, gtP_int, geP_int, addP_int, subP_int, intP_int, tupleP_lst, asLi_lst, tm, decide_eq_true c14, z0, zf0, t2', r2, hr0, noX_val, apR1_o, s1, s2, tk, moD_dct, s4, fdv, rp, zf, lw, mk1, s3, ng, el, apR2_t, mk, frO_ob, mk2, retR_rt]
  · rcases hpq with h0 | ⟨h0, hg⟩
    · have zt : Nat.beq p 0 = true := Nat.beq_eq.mpr h0
      refine ⟨d1, hp1, .inl ⟨by omega, ?_⟩⟩
      simp -implicitDefEqProofs only [bind_val, asB_bl, if_true, Bool.not_true, Bool.not_false, Bool.false_eq_true, if_false, retF_rt, seqF_nx, seqF_rt, asSq_lst, asSq_tup, partP_int, leP_int, ltP_int, gtP_int, geP_int, addP_int, subP_int, intP_int, tupleP_lst, asLi_lst, noX_val, apR1_o, tm, moD_dct, decide_eq_false c14, z0, zt, mk0, mk2, retR_rt]
    · have zf0 : Nat.beq p 0 = false := Bool.eq_false_iff.mpr fun z => by have := Nat.beq_eq.mp z; omega
      obtain ⟨g, x, z, d3, hp3, tk, zf, lw, mk, W, p3, p1⟩ := power d1 hp1 h0 hg
      have s1 : ((p : Nat) : Int) - 1 = ((p - 1 : Nat) : Int) := by omega
      have s2 : ((p : Nat) : Int) - 2 = ((p - 2 : Nat) : Int) := by omega
      have s3 : ((q : Nat) : Int) - 1 = ((q - 1 : Nat) : Int) := by omega
      have s4 : (2 : Int) + ((x : Nat) : Int) = ((2 + x : Nat) : Int) := by omega
      have fdv : fdivP (.int ((p - 1 : Nat) : Int)) (.int (q : Nat)) = .val (.int (((p - 1) / q : Nat) : Int)) := fdivP_nat (by omega) (by omega)
      have rp : rng1 (.int (p : Nat)) = .val (PN (List.range p)) := rng1_nat (by omega)
      have el := elems_ok (one := z ^ ((p - 1) / q) % p) (p := p) (q := q) (by omega) p1 h1 h2
      unfold srch at zf
      refine ⟨d3, hp3, .inr ⟨_, _, ?_, W⟩⟩
      simp -implicitDefEqProofs only [bind_val, asB_bl, if_true, Bool.not_true, Bool.not_false, Bool.false_eq_true, if_false, retF_rt, seqF_nx, seqF_rt, asSq_lst, asSq_tup, partP_int, leP_int, ltP_int, gtP_int, geP_int, addP_int, subP_int, intP_int, tupleP_lst, asLi_lst, tm, decide_eq_false c14, z0, zf0, noX_val, apR1_o, s1, s2, tk, moD_dct, s4, fdv, rp, zf, lw, mk1, s3, ng, el, apR2_t, mk, frO_ob, mk2, retR_rt]
/-! ### the law's world and key -/
def Wl (q : Nat) (row : List Nat) (O : PV) : List (Key × PV) := [(.inr "q", .int (q : Nat)), (.inr "elems", .lst (PN row)), (.inr "logs", .dct (DX 0 row)), (.inr "group", O)]
def Wm (q : Nat) (row : List Nat) (O : PV) (g h : Nat) : List (Key × PV) := [(.inr "q", .int (q : Nat)), (.inr "elems", .lst (PN row)), (.inr "logs", .dct (DX 0 row)), (.inr "group", O), (.inr "g", .int (g : Nat)), (.inr "h", .int (h : Nat))]
def Wg (q : Nat) (row : List Nat) (O : PV) (g : Nat) : List (Key × PV) := [(.inr "q", .int (q : Nat)), (.inr "elems", .lst (PN row)), (.inr "logs", .dct (DX 0 row)), (.inr "group", O), (.inr "g", .int (g : Nat))]
theorem GW.nodup {O : PV} {row : List Nat} {q : Nat} (W : GW O row q) : row.Nodup := List.pairwise_iff_getElem.mpr fun i j hi hj hij e => by
  have li : i < q := by rw [← W.len]; exact hi
  have lj : j < q := by rw [← W.len]; exact hj
  have gi := W.get li
  have gj := W.get lj
  rw [List.getElem?_eq_getElem hi] at gi
  rw [List.getElem?_eq_getElem hj] at gj
  have := W.inj li lj (by rw [← Option.some.inj gi, ← Option.some.inj gj]; exact e)
  omega
theorem world_ok {d : List (Key × PV)} (hd : Px d) : ∃ (q : Nat) (row : List Nat) (O : PV) (d' : List (Key × PV)), m__law_world [.dct d] [.int 127] = .val (.dct (Wl q row O), [.dct d']) ∧ Px d' ∧ GW O row q := by
  obtain ⟨q, d1, t1, hp1, h1, h2, hq⟩ := order_ok hd
  have u2 : ∀ a b : PV, un2 (.tup [a, b]) = .val (a, b) := fun _ _ => rfl
  have n0 : isNo .non = true := rfl
  have up : ∀ a b c d : Key × PV, upto15 [a, b, c, d].length = .val () := fun _ _ _ _ => rfl
  have mg : ∀ (q : Nat) (row : List Nat) (O : PV), mergeP [] [((.inr "q" : Key), .int (q : Nat)), (.inr "elems", .lst (PN row)), (.inr "logs", .dct (DX 0 row)), (.inr "group", O)] = Wl q row O := fun _ _ _ => rfl
  have lg : ∀ (q : Nat) (row : List Nat) (O : PV), GW O row q → forF (L := Empty) (fun (x41 : PV) (s32 : List (Key × PV)) => (ixP (.lst (PN row)) x41 >>= fun k37 => keyP k37 >>= fun k39 => sized (s32.length + 1) >>= fun _ => Res.val (Fl.nx (putP s32 k39 x41)))) (PN (List.range q)) [] = .val (.nx (DX 0 row)) := fun q row O W => by
    have := logs_ok (L := Empty) W.len (by have := W.q127; omega) W.nodup
    rw [rng1_nat (by have := W.q127; omega), bind_val] at this
    exact this
  have r1 : ∀ q : Nat, q < 1000 → rng1 (.int (q : Nat)) = .val (PN (List.range q)) := fun q hq => rng1_nat (by omega)
  have rm : ∀ (mo : MO) (d : List (Key × PV)), retMN 1 (.val (.ro mo [.dct d])) = .val (mo, [.dct d]) := fun _ _ => rfl
  obtain ⟨d2, hp2, ⟨h14, e⟩ | ⟨O, row, e, W⟩⟩ := group_ok hp1 h1 h2 hq
  · obtain ⟨d3, hp3, ⟨h14', e'⟩ | ⟨O, row, e', W⟩⟩ := group_ok hp2 (q := 11) (by decide) (by decide) (by decide +kernel)
    · omega
    · have e2 : m__law_group (.dct d2) (.int 11) = .val (.tup [.lst (PN row), O], .dct d3) := e'
      have r11 : rng1 (.int 11) = .val (PN (List.range 11)) := r1 11 (by decide)
      have mg' := mg 11 row O
      refine ⟨11, row, O, d3, ?_, hp3, W⟩
      unfold m__law_world
      simp -implicitDefEqProofs only [bind_val, asB_bl, if_true, Bool.not_true, Bool.not_false, Bool.false_eq_true, if_false, retF_rt, seqF_nx, seqF_rt, asSq_lst, asSq_tup, partP_int, leP_int, ltP_int, gtP_int, geP_int, addP_int, subP_int, intP_int, tupleP_lst, asLi_lst, noX_val, apR1_o, t1, moD_dct, e, u2, isP_non, n0, e2, r11, lg 11 row O W, keyP_str, up, rm]
      exact congrArg (fun x => Res.val (MO.dct x, [MO.dct d3])) mg'
  · refine ⟨q, row, O, d2, ?_, hp2, W⟩
    unfold m__law_world
    simp -implicitDefEqProofs only [bind_val, asB_bl, if_true, Bool.not_true, Bool.not_false, Bool.false_eq_true, if_false, retF_rt, seqF_nx, seqF_rt, asSq_lst, asSq_tup, partP_int, leP_int, ltP_int, gtP_int, geP_int, addP_int, subP_int, intP_int, tupleP_lst, asLi_lst, noX_val, apR1_o, t1, moD_dct, e, u2, isP_non, W.isn, r1 q (by omega), lg q row O W, keyP_str, up, mg, rm]
/-- the member with this exponent -/
def Mb (row : List Nat) (q : Nat) (e : Int) : Nat := Rg row (e % (q : Int)).toNat
theorem Mb_nat {row : List Nat} {q i : Nat} (h : i < q) : Mb row q (i : Nat) = Rg row i := by
  unfold Mb
  rw [Int.emod_eq_of_lt (by omega) (by omega)]
  rfl
theorem modN {q : Nat} (h : 0 < q) (e : Int) : ∃ k : Nat, e % (q : Int) = (k : Int) ∧ k < q := by
  obtain ⟨k, hk⟩ := Int.eq_ofNat_of_zero_le (Int.emod_nonneg e (show (q : Int) ≠ 0 by omega))
  have := Int.emod_lt_of_pos e (show (0 : Int) < (q : Int) by omega)
  exact ⟨k, hk, by omega⟩
theorem member_ok {O : PV} {row : List Nat} {q g h : Nat} (W : GW O row q) (e : Int) : m__law_member (.dct (Wm q row O g h)) (.int e) = .val (.int (Mb row q e : Nat)) := by
  have h3 := W.q3
  obtain ⟨k, hk, kq⟩ := modN (show 0 < q by omega) e
  have d1 : dgetP (.dct (Wm q row O g h)) (.str "elems") = .val (.lst (PN row)) := rfl
  have d2 : dgetP (.dct (Wm q row O g h)) (.str "q") = .val (.int (q : Nat)) := rfl
  have md : modP (.int e) (.int (q : Nat)) = .val (.int (k : Nat)) := by rw [modP_pos (by omega), hk]
  have ix : ixP (.lst (PN row)) (.int (k : Nat)) = .val (.int (Rg row k : Nat)) := ixP_lst (PN_get (W.get kq))
  unfold m__law_member Mb
  rw [hk]
  simp -implicitDefEqProofs only [bind_val, asB_bl, if_true, Bool.not_true, Bool.not_false, Bool.false_eq_true, if_false, retF_rt, seqF_nx, seqF_rt, asSq_lst, asSq_tup, partP_int, leP_int, ltP_int, gtP_int, geP_int, addP_int, subP_int, intP_int, tupleP_lst, asLi_lst, d1, d2, md, ix]
  rfl
theorem GW.combine {O : PV} {row : List Nat} {q i j : Nat} (W : GW O row q) (hi : i < q) (hj : j < q) (m n : Int) : m_Group_combine O (.tup [.int (Rg row i : Nat), .int (Rg row j : Nat)]) (.tup [.int m, .int n]) = .val (.int (Mb row q (m * i + n * j) : Nat)) := by
  obtain ⟨P, c, d, h1, h2, len, nd, hc, hd, ec, al⟩ := W.pow
  have h3 := W.q3
  have h127 := W.q127
  have q0 : 0 < q := by omega
  have ed : d * c % q = 1 := by rw [Nat.mul_comm]; exact ec
  have dg : ∀ i, i < q → dgetP (.dct (DX 0 P)) (.int (Rg row i : Nat)) = .val (.int ((d * i % q : Nat) : Int)) := fun i hi => by
    have a1 := al (d * i % q) (Nat.mod_lt _ q0)
    rw [mulinv ed hi] at a1
    have e := DX_get (k := 0) nd a1
    unfold dgetP
    show (match valP (DX 0 P) (.inl (Rg row i : Nat)) with | some p => Res.val p | none => .stuck) = _
    rw [e, Nat.zero_add]
  have li : d * i % q < q := Nat.mod_lt _ q0
  have lj : d * j % q < q := Nat.mod_lt _ q0
  have m1 : mulP (.int ((d * i % q : Nat) : Int)) (.int m) = .val (.int (((d * i % q : Nat) : Int) * m)) := mulP_l (by omega) (by omega)
  have m2 : mulP (.int ((d * j % q : Nat) : Int)) (.int n) = .val (.int (((d * j % q : Nat) : Int) * n)) := mulP_l (by omega) (by omega)
  obtain ⟨k, hk, kq⟩ := modN q0 (0 + ((d * i % q : Nat) : Int) * m + ((d * j % q : Nat) : Int) * n)
  have md : modP (.int (0 + ((d * i % q : Nat) : Int) * m + ((d * j % q : Nat) : Int) * n)) (.int (q : Nat)) = .val (.int (k : Nat)) := by rw [modP_pos (by omega), hk]
  have ix : ixP (.tup (PN P)) (.int (k : Nat)) = .val (.int (Rg row (c * k % q) : Nat)) := ixP_tup (PN_get (al k kq))
  have zp : zipV (.tup [.int (Rg row i : Nat), .int (Rg row j : Nat)]) (.tup [.int m, .int n]) = .val [.tup [.int (Rg row i : Nat), .int m], .tup [.int (Rg row j : Nat), .int n]] := rfl
  have u2 : ∀ a b : PV, un2 (.tup [a, b]) = .val (a, b) := fun _ _ => rfl
  have fin : (Mb row q (m * i + n * j)) = Rg row (c * k % q) := by
    unfold Mb
    have e1 : ((c * k % q : Nat) : Int) = (m * i + n * j) % (q : Int) := by
      have ei : ∀ i, i < q → ∃ t : Int, (c : Int) * ((d * i % q : Nat) : Int) = i + q * t := fun i hi => by
        have := mulinv ed hi
        have e3 : ((c * (d * i % q) % q : Nat) : Int) = (i : Int) := by rw [this]
        rw [Int.natCast_emod, Int.natCast_mul] at e3
        refine ⟨(c : Int) * ((d * i % q : Nat) : Int) / (q : Int), ?_⟩
        have := Int.emod_add_mul_ediv ((c : Int) * ((d * i % q : Nat) : Int)) (q : Int)
        omega
      obtain ⟨t1, e4⟩ := ei i hi
      obtain ⟨t2, e5⟩ := ei j hj
      rw [Int.natCast_emod, Int.natCast_mul, ← hk, Int.mul_emod, Int.emod_emod, ← Int.mul_emod, Int.zero_add, Int.mul_add, ← Int.mul_assoc, ← Int.mul_assoc, e4, e5]
      rw [show ((i : Int) + q * t1) * m + ((j : Int) + q * t2) * n = m * i + n * j + q * (t1 * m + t2 * n) by
        rw [Int.add_mul, Int.add_mul, Int.mul_add, Int.mul_assoc, Int.mul_assoc, Int.mul_comm (i : Int) m, Int.mul_comm (j : Int) n]
        omega, Int.add_mul_emod_self_left]
    rw [← e1]
    rfl
  unfold m_Group_combine
  simp -implicitDefEqProofs only [bind_val, asB_bl, if_true, Bool.not_true, Bool.not_false, Bool.false_eq_true, if_false, retF_rt, seqF_nx, seqF_rt, asSq_lst, asSq_tup, partP_int, leP_int, ltP_int, gtP_int, geP_int, addP_int, subP_int, intP_int, tupleP_lst, asLi_lst, zp]
  unfold forF
  simp -implicitDefEqProofs only [bind_val, asB_bl, if_true, Bool.not_true, Bool.not_false, Bool.false_eq_true, if_false, retF_rt, seqF_nx, seqF_rt, asSq_lst, asSq_tup, partP_int, leP_int, ltP_int, gtP_int, geP_int, addP_int, subP_int, intP_int, tupleP_lst, asLi_lst, u2, h2, dg i hi, m1]
  unfold forF
  simp -implicitDefEqProofs only [bind_val, asB_bl, if_true, Bool.not_true, Bool.not_false, Bool.false_eq_true, if_false, retF_rt, seqF_nx, seqF_rt, asSq_lst, asSq_tup, partP_int, leP_int, ltP_int, gtP_int, geP_int, addP_int, subP_int, intP_int, tupleP_lst, asLi_lst, u2, h2, dg j hj, m2]
  unfold forF
  simp -implicitDefEqProofs only [bind_val, asB_bl, if_true, Bool.not_true, Bool.not_false, Bool.false_eq_true, if_false, retF_rt, seqF_nx, seqF_rt, asSq_lst, asSq_tup, partP_int, leP_int, ltP_int, gtP_int, geP_int, addP_int, subP_int, intP_int, tupleP_lst, asLi_lst, h1, W.ord, md, ix, fin]
def Kf (O : PV) (row : List Nat) (g h e : Nat) : List (Str × PV) := [("group", O), ("base", .int (Rg row g : Nat)), ("blind_base", .int (Rg row h : Nat)), ("_relation", .int (e : Nat))]
theorem GW.has {O : PV} {row : List Nat} {q i : Nat} (W : GW O row q) (hi : i < q) : m_Group_has O (.int (Rg row i : Nat)) = .val (.bl true) := by
  obtain ⟨P, c, d, h1, h2, len, nd, hc, hd, ec, al⟩ := W.pow
  have q0 : 0 < q := by omega
  have ed : d * c % q = 1 := by rw [Nat.mul_comm]; exact ec
  have a1 := al (d * i % q) (Nat.mod_lt _ q0)
  rw [mulinv ed hi] at a1
  have e := DX_get (k := 0) nd a1
  have it : isiP (.int (Rg row i : Nat)) (.ty "int") = .val (.bl true) := rfl
  have dn : dinP false (.int (Rg row i : Nat)) (.dct (DX 0 P)) = .val (.bl true) := by
    show Res.val (PV.bl (valP (DX 0 P) (.inl (Rg row i : Nat))).isSome) = _
    rw [e]
    rfl
  unfold m_Group_has
  simp -implicitDefEqProofs only [bind_val, asB_bl, if_true, Bool.not_true, Bool.not_false, Bool.false_eq_true, if_false, retF_rt, seqF_nx, seqF_rt, asSq_lst, asSq_tup, partP_int, leP_int, ltP_int, gtP_int, geP_int, addP_int, subP_int, intP_int, tupleP_lst, asLi_lst, it, h2, dn]
theorem GW.neUnit {O : PV} {row : List Nat} {q i : Nat} (W : GW O row q) (hi : i < q) (h0 : i ≠ 0) : Nat.beq (Rg row i) (Rg row 0) = false := Bool.eq_false_iff.mpr fun z => h0 (W.inj hi (by omega) (Nat.beq_eq.mp z))
theorem keyInit {O : PV} {row : List Nat} {q g h : Nat} (W : GW O row q) (hg : g < q) (g0 : g ≠ 0) (hh : h < q) : ∃ e : Nat, e < q ∧ g * e % q = h ∧ m_Key___init__ (.ob "Key" []) O (.int (Rg row g : Nat)) (.int (Rg row h : Nat)) = .val (.non, .ob "Key" (Kf O row g h e)) := by
  obtain ⟨e, he, e1, lg⟩ := W.log hg hh g0
  have q1 : eqP (.int (Rg row g : Nat)) (.int (Rg row 0 : Nat)) = .val (.bl false) := by rw [eqP_nat, W.neUnit hg g0]
  have f1 : ∀ a : PV, setF cs_group "Key" [] "group" a = .val [("group", a)] := fun _ => rfl
  have f2 : ∀ a b : PV, setF cs_base "Key" [("group", a)] "base" b = .val [("group", a), ("base", b)] := fun _ _ => rfl
  have f3 : ∀ a b c : PV, setF cs_blind_base "Key" [("group", a), ("base", b)] "blind_base" c = .val [("group", a), ("base", b), ("blind_base", c)] := fun _ _ _ => rfl
  have f4 : ∀ a b c d : PV, setF cs__relation "Key" [("group", a), ("base", b), ("blind_base", c)] "_relation" d = .val [("group", a), ("base", b), ("blind_base", c), ("_relation", d)] := fun _ _ _ _ => rfl
  refine ⟨e, he, e1, ?_⟩
  unfold m_Key___init__
  simp -implicitDefEqProofs only [bind_val, asB_bl, if_true, Bool.not_true, Bool.not_false, Bool.false_eq_true, if_false, retF_rt, seqF_nx, seqF_rt, asSq_lst, asSq_tup, partP_int, leP_int, ltP_int, gtP_int, geP_int, addP_int, subP_int, intP_int, tupleP_lst, asLi_lst, W.shas, ap2_two, W.has hg, W.has hh, W.uni, q1, f1, f2, f3, W.slog, ap3_three, lg, f4, retR_nx]
  rfl
theorem flS_int {i : Int} : flS (.int i) = .val (.int i) := rfl
theorem key_ok {O : PV} {row : List Nat} {q : Nat} (W : GW O row q) {d : List (Key × PV)} (hd : Px d) (b : Bool) : ∃ (g h e : Nat) (d' : List (Key × PV)), m__law_key [.dct d, .dct (Wl q row O)] [.bl b] = .val (.ins "Key" (Kf O row g h e), [.dct d', .dct (Wm q row O g h)]) ∧ Px d' ∧ g < q ∧ g ≠ 0 ∧ h < q ∧ e < q ∧ g * e % q = h ∧ (b = true → h ≠ 0) := by
  have h3 := W.q3
  have h127 := W.q127
  obtain ⟨r, d1, t1, hr, hp1⟩ := take_nat hd (m := q - 1) (by omega) (by omega)
  obtain ⟨s, d2, t2, hs, hp2⟩ := take_nat hp1 (m := q - 1) (by omega) (by omega)
  have s1 : ((q : Nat) : Int) - 1 = ((q - 1 : Nat) : Int) := by omega
  have s2 : ∀ r : Nat, (1 : Int) + ((r : Nat) : Int) = ((1 + r : Nat) : Int) := fun r => by omega
  have l1 : dgetP (.dct (Wl q row O)) (.str "q") = .val (.int (q : Nat)) := rfl
  have l2 : ∀ g, dgetP (.dct (Wg q row O g)) (.str "q") = .val (.int (q : Nat)) := fun _ => rfl
  have l3 : ∀ g h, dgetP (.dct (Wm q row O g h)) (.str "group") = .val O := fun _ _ => rfl
  have l4 : ∀ g h, dgetP (.dct (Wm q row O g h)) (.str "g") = .val (.int (g : Nat)) := fun _ _ => rfl
  have l5 : ∀ g h, dgetP (.dct (Wm q row O g h)) (.str "h") = .val (.int (h : Nat)) := fun _ _ => rfl
  have p1 : ∀ g : Nat, putP (Wl q row O) (.inr "g") (.int (g : Nat)) = Wg q row O g := fun _ => rfl
  have p2 : ∀ g h : Nat, putP (Wg q row O g) (.inr "h") (.int (h : Nat)) = Wm q row O g h := fun _ _ => rfl
  have p3 : ∀ g h : Nat, putP (Wm q row O g h) (.inr "h") (.int 0) = Wm q row O g 0 := fun _ _ => rfl
  have z1 : sized ((Wl q row O).length + 1) = .val () := sized_small (by show 5 ≤ 10000000; decide)
  have z2 : ∀ g, sized ((Wg q row O g).length + 1) = .val () := fun _ => sized_small (by show 6 ≤ 10000000; decide)
  have z3 : ∀ g h, sized ((Wm q row O g h).length + 1) = .val () := fun _ _ => sized_small (by show 7 ≤ 10000000; decide)
  have rt : ∀ (v : PV) (a b : MO), retM 2 (.val (.rt v [a, b])) = .val (v, [a, b]) := fun _ _ _ => rfl
  have mb : ∀ (g h i : Nat), i < q → m__law_member (.dct (Wm q row O g h)) (.int (i : Nat)) = .val (.int (Rg row i : Nat)) := fun g h i hi => by rw [member_ok W, Mb_nat hi]
  have mb0 : ∀ (g h : Nat), m__law_member (.dct (Wm q row O g h)) (.int 0) = .val (.int (Rg row 0 : Nat)) := fun g h => mb g h 0 (by omega)
  cases b with
  | true =>
    obtain ⟨e, he, e1, ki⟩ := keyInit W (g := 1 + r) (h := 1 + s) (by omega) (by omega) (by omega)
    refine ⟨1 + r, 1 + s, e, d2, ?_, hp2, by omega, by omega, by omega, he, e1, fun _ => by omega⟩
    unfold m__law_key
    simp -implicitDefEqProofs only [bind_val, asB_bl, if_true, Bool.not_true, Bool.not_false, Bool.false_eq_true, if_false, retF_rt, seqF_nx, seqF_rt, asSq_lst, asSq_tup, partP_int, leP_int, ltP_int, gtP_int, geP_int, addP_int, subP_int, intP_int, tupleP_lst, asLi_lst, noX_val, l1, s1, apR1_o, t1, moD_dct, s2, keyP_str, z1, p1, l2, t2, z2, p2, l3, l4, l5, ap2_two, mb _ _ (1 + r) (by omega), mb _ _ (1 + s) (by omega), flS_int, apR3_t, ki, frO_ob, rt]
  | false =>
    obtain ⟨e, he, e1, ki⟩ := keyInit W (g := 1 + r) (h := 0) (by omega) (by omega) (by omega)
    refine ⟨1 + r, 0, e, d2, ?_, hp2, by omega, by omega, by omega, he, e1, fun z => nomatch z⟩
    have l5' : ∀ g, dgetP (.dct (Wm q row O g 0)) (.str "h") = .val (.int 0) := fun _ => rfl
    unfold m__law_key
    simp -implicitDefEqProofs only [bind_val, asB_bl, if_true, Bool.not_true, Bool.not_false, Bool.false_eq_true, if_false, retF_rt, seqF_nx, seqF_rt, asSq_lst, asSq_tup, partP_int, leP_int, ltP_int, gtP_int, geP_int, addP_int, subP_int, intP_int, tupleP_lst, asLi_lst, noX_val, l1, s1, apR1_o, t1, moD_dct, s2, keyP_str, z1, p1, l2, t2, z2, p2, z3, p3, l3, l4, l5', ap2_two, mb _ _ (1 + r) (by omega), mb0, flS_int, apR3_t, ki, frO_ob, rt]
/-! ### what the law compares -/
theorem same_int {n : Nat} {a b : Int} : m__law_same (n + 1) (.int a) (.int b) = .val (.bl (decide (a = b))) := by
  have i1 : isiP (.int b) (.ty "tuple") = .val (.bl false) := rfl
  have i2 : isP (.int b) .non = .val (.bl false) := rfl
  have i3 : isiP (.int b) (.ty "str") = .val (.bl false) := rfl
  have i4 : isiP (.int b) (.ty "bool") = .val (.bl false) := rfl
  have i5 : isiP (.int a) (.ty "int") = .val (.bl true) := rfl
  have i6 : isiP (.int a) (.ty "bool") = .val (.bl false) := rfl
  unfold m__law_same
  simp -implicitDefEqProofs only [bind_val, asB_bl, if_true, Bool.not_true, Bool.not_false, Bool.false_eq_true, if_false, retF_rt, seqF_nx, seqF_rt, asSq_lst, asSq_tup, partP_int, leP_int, ltP_int, gtP_int, geP_int, addP_int, subP_int, intP_int, tupleP_lst, asLi_lst, i1, i2, i3, i4, i5, i6, eqP_int]
theorem same_tup2 {n : Nat} {a b c d : Int} : m__law_same (n + 2) (.tup [.int a, .int b]) (.tup [.int c, .int d]) = .val (.bl (decide (a = c ∧ b = d))) := by
  have i1 : ∀ x y : PV, isiP (.tup [x, y]) (.ty "tuple") = .val (.bl true) := fun _ _ => rfl
  have ln : ∀ x y : PV, lenP (.tup [x, y]) = .val (.int 2) := fun _ _ => rfl
  have n2 : neP (.int 2) (.int 2) = .val (.bl false) := rfl
  have r2 : rng1 (.int 2) = .val [.int 0, .int 1] := rfl
  have x0 : ∀ x y : PV, ixP (.tup [x, y]) (.int 0) = .val x := fun _ _ => rfl
  have x1 : ∀ x y : PV, ixP (.tup [x, y]) (.int 1) = .val y := fun _ _ => rfl
  have s := fun a b => same_int (n := n) (a := a) (b := b)
  unfold m__law_same
  simp -implicitDefEqProofs only [bind_val, asB_bl, if_true, Bool.not_true, Bool.not_false, Bool.false_eq_true, if_false, retF_rt, seqF_nx, seqF_rt, asSq_lst, asSq_tup, partP_int, leP_int, ltP_int, gtP_int, geP_int, addP_int, subP_int, intP_int, tupleP_lst, asLi_lst, i1, ln, n2, r2]
  by_cases h1 : a = c
  · by_cases h2 : b = d
    · unfold forF
      simp -implicitDefEqProofs only [bind_val, asB_bl, if_true, Bool.not_true, Bool.not_false, Bool.false_eq_true, if_false, retF_rt, seqF_nx, seqF_rt, asSq_lst, asSq_tup, partP_int, leP_int, ltP_int, gtP_int, geP_int, addP_int, subP_int, intP_int, tupleP_lst, asLi_lst, x0, s, decide_eq_true h1]
      unfold forF
      simp -implicitDefEqProofs only [bind_val, asB_bl, if_true, Bool.not_true, Bool.not_false, Bool.false_eq_true, if_false, retF_rt, seqF_nx, seqF_rt, asSq_lst, asSq_tup, partP_int, leP_int, ltP_int, gtP_int, geP_int, addP_int, subP_int, intP_int, tupleP_lst, asLi_lst, x1, s, decide_eq_true h2]
      unfold forF
      simp -implicitDefEqProofs only [bind_val, asB_bl, if_true, Bool.not_true, Bool.not_false, Bool.false_eq_true, if_false, retF_rt, seqF_nx, seqF_rt, asSq_lst, asSq_tup, partP_int, leP_int, ltP_int, gtP_int, geP_int, addP_int, subP_int, intP_int, tupleP_lst, asLi_lst, decide_eq_true (And.intro h1 h2)]
    · unfold forF
      simp -implicitDefEqProofs only [bind_val, asB_bl, if_true, Bool.not_true, Bool.not_false, Bool.false_eq_true, if_false, retF_rt, seqF_nx, seqF_rt, asSq_lst, asSq_tup, partP_int, leP_int, ltP_int, gtP_int, geP_int, addP_int, subP_int, intP_int, tupleP_lst, asLi_lst, x0, s, decide_eq_true h1]
      unfold forF
      simp -implicitDefEqProofs only [bind_val, asB_bl, if_true, Bool.not_true, Bool.not_false, Bool.false_eq_true, if_false, retF_rt, seqF_nx, seqF_rt, asSq_lst, asSq_tup, partP_int, leP_int, ltP_int, gtP_int, geP_int, addP_int, subP_int, intP_int, tupleP_lst, asLi_lst, x1, s, decide_eq_false h2]
      simp -implicitDefEqProofs only [bind_val, asB_bl, if_true, Bool.not_true, Bool.not_false, Bool.false_eq_true, if_false, retF_rt, seqF_nx, seqF_rt, asSq_lst, asSq_tup, partP_int, leP_int, ltP_int, gtP_int, geP_int, addP_int, subP_int, intP_int, tupleP_lst, asLi_lst, decide_eq_false (fun z : a = c ∧ b = d => h2 z.2)]
  · unfold forF
    simp -implicitDefEqProofs only [bind_val, asB_bl, if_true, Bool.not_true, Bool.not_false, Bool.false_eq_true, if_false, retF_rt, seqF_nx, seqF_rt, asSq_lst, asSq_tup, partP_int, leP_int, ltP_int, gtP_int, geP_int, addP_int, subP_int, intP_int, tupleP_lst, asLi_lst, x0, s, decide_eq_false h1]
    simp -implicitDefEqProofs only [bind_val, asB_bl, if_true, Bool.not_true, Bool.not_false, Bool.false_eq_true, if_false, retF_rt, seqF_nx, seqF_rt, asSq_lst, asSq_tup, partP_int, leP_int, ltP_int, gtP_int, geP_int, addP_int, subP_int, intP_int, tupleP_lst, asLi_lst, decide_eq_false (fun z : a = c ∧ b = d => h1 z.1)]
section
variable {O : PV} {row : List Nat} {q g h e : Nat}
theorem Mb_congr {a b : Int} (h : a % (q : Int) = b % (q : Int)) : Mb row q a = Mb row q b := by unfold Mb; rw [h]
theorem Mb_eq (W : GW O row q) {a b : Int} : Mb row q a = Mb row q b ↔ a % (q : Int) = b % (q : Int) := by
  have h3 := W.q3
  refine ⟨fun z => ?_, Mb_congr⟩
  obtain ⟨i, hi, iq⟩ := modN (show 0 < q by omega) a
  obtain ⟨j, hj, jq⟩ := modN (show 0 < q by omega) b
  unfold Mb at z
  rw [hi, hj] at z
  have := W.inj iq jq z
  rw [hi, hj, this]
theorem cover_ok (W : GW O row q) (hg : g < q) (hh : h < q) (v b : Int) : m_Key_cover (.ins "Key" (Kf O row g h e)) (.int v) (.int b) = .val (.int (Mb row q (v * g + b * h) : Nat)) := by
  have f1 : fldP cs_group "group" (.ins "Key" (Kf O row g h e)) = .val O := rfl
  have f2 : fldP cs_base "base" (.ins "Key" (Kf O row g h e)) = .val (.int (Rg row g : Nat)) := rfl
  have f3 : fldP cs_blind_base "blind_base" (.ins "Key" (Kf O row g h e)) = .val (.int (Rg row h : Nat)) := rfl
  unfold m_Key_cover
  simp -implicitDefEqProofs only [bind_val, asB_bl, if_true, Bool.not_true, Bool.not_false, Bool.false_eq_true, if_false, retF_rt, seqF_nx, seqF_rt, asSq_lst, asSq_tup, partP_int, leP_int, ltP_int, gtP_int, geP_int, addP_int, subP_int, intP_int, tupleP_lst, asLi_lst, f1, f2, f3, W.scom, mk2, ap3_three, W.combine hg hh]
theorem opens_ok (W : GW O row q) (hg : g < q) (hh : h < q) (c : Nat) (v b : Int) : m_Key_opens (.ins "Key" (Kf O row g h e)) (.int (c : Nat)) (.int v) (.int b) = .val (.bl (Nat.beq (Mb row q (v * g + b * h)) c)) := by
  have s : sel [("Key", ap3 m_Key_cover)] "cover" (.ins "Key" (Kf O row g h e)) = .val (ap3 m_Key_cover) := rfl
  unfold m_Key_opens
  simp -implicitDefEqProofs only [bind_val, asB_bl, if_true, Bool.not_true, Bool.not_false, Bool.false_eq_true, if_false, retF_rt, seqF_nx, seqF_rt, asSq_lst, asSq_tup, partP_int, leP_int, ltP_int, gtP_int, geP_int, addP_int, subP_int, intP_int, tupleP_lst, asLi_lst, s, ap3_three, cover_ok W hg hh, eqP_nat]
theorem mul_ok (W : GW O row q) (a b : Int) : (sel [("PowerGroup", ap3 m_PowerGroup_multiply), ("TableGroup", ap3 m_TableGroup_multiply)] "multiply" O >>= fun g149 => g149 [O, .int (Mb row q a : Nat), .int (Mb row q b : Nat)]) = .val (.int (Mb row q (a + b) : Nat)) := by
  have h3 := W.q3
  obtain ⟨i, hi, iq⟩ := modN (show 0 < q by omega) a
  obtain ⟨j, hj, jq⟩ := modN (show 0 < q by omega) b
  obtain ⟨f, sf, ff⟩ := W.mul
  rw [sf, bind_val]
  unfold Mb
  rw [hi, hj]
  have e : (a + b) % (q : Int) = (((i + j) % q : Nat) : Int) := by rw [Int.add_emod, hi, hj, Int.natCast_emod, Int.natCast_add]
  rw [e]
  exact ff i j iq jq
theorem inv_ok (W : GW O row q) (a : Int) : m_Group_inverse_of O (.int (Mb row q a : Nat)) = .val (.int (Mb row q (-a) : Nat)) := by
  have h3 := W.q3
  obtain ⟨i, hi, iq⟩ := modN (show 0 < q by omega) a
  obtain ⟨j, hj, jq, pw⟩ := W.power iq (-1)
  have e : (-a) % (q : Int) = (j : Int) := by
    rw [← hj, ← hi, Int.mul_emod, Int.emod_emod, ← Int.mul_emod, Int.mul_neg, Int.mul_one]
  have ng : negP (.int 1) = .val (.int (-1)) := rfl
  unfold m_Group_inverse_of Mb
  rw [hi, e]
  simp -implicitDefEqProofs only [bind_val, asB_bl, if_true, Bool.not_true, Bool.not_false, Bool.false_eq_true, if_false, retF_rt, seqF_nx, seqF_rt, asSq_lst, asSq_tup, partP_int, leP_int, ltP_int, gtP_int, geP_int, addP_int, subP_int, intP_int, tupleP_lst, asLi_lst, W.spow, ng, ap3_three, Int.toNat_natCast, pw]
theorem divide_ok (W : GW O row q) (a b : Int) : m_divide O (.int (Mb row q a : Nat)) (.int (Mb row q b : Nat)) = .val (.int (Mb row q (a - b) : Nat)) := by
  have m := mul_ok W a (-b)
  rw [← Int.sub_eq_add_neg] at m
  unfold m_divide
  simp -implicitDefEqProofs only [bind_val, asB_bl, if_true, Bool.not_true, Bool.not_false, Bool.false_eq_true, if_false, retF_rt, seqF_nx, seqF_rt, asSq_lst, asSq_tup, partP_int, leP_int, ltP_int, gtP_int, geP_int, addP_int, subP_int, intP_int, tupleP_lst, asLi_lst, W.sinv, ap2_two, inv_ok W]
  rw [m]
  rfl
end
theorem number_ok {d : List (Key × PV)} (hd : Px d) {q : Nat} (h0 : 0 < q) (hq : q < 1000) : ∃ (v : Int) (d' : List (Key × PV)), m__law_number (.dct d) (.int (q : Nat)) = .val (.int v, .dct d') ∧ Px d' := by
  obtain ⟨w, d1, t1, hw, p1⟩ := take_nat hd (m := 6) (by decide) (by decide)
  obtain ⟨n, d2, t2, hn, p2⟩ := take_nat p1 (m := q) h0 (by omega)
  obtain ⟨a, d3, t3, ha, p3⟩ := take_nat p2 (m := 2000) (by decide) (by decide)
  obtain ⟨b, d4, t4, hb, p4⟩ := take_nat p2 (m := 1000000000) (by decide) (by decide)
  obtain ⟨c, d5, t5, hc, p5⟩ := take_nat p4 (m := 1000000000) (by decide) (by decide)
  obtain ⟨s, d6, t6, hs, p6⟩ := take_nat p5 (m := 2) (by decide) (by decide)
  have t1' : m__law_take (.dct d) (.int 6) = .val (.int (w : Nat), .dct d1) := t1
  have t3' : m__law_take (.dct d2) (.int 2000) = .val (.int (a : Nat), .dct d3) := t3
  have t4' : m__law_take (.dct d2) (.int 1000000000) = .val (.int (b : Nat), .dct d4) := t4
  have t5' : m__law_take (.dct d4) (.int 1000000000) = .val (.int (c : Nat), .dct d5) := t5
  have t6' : m__law_take (.dct d5) (.int 2) = .val (.int (s : Nat), .dct d6) := t6
  have q3 : eqP (.int (w : Nat)) (.int 3) = .val (.bl (Nat.beq w 3)) := eqP_nat (b := 3)
  have q4 : eqP (.int (w : Nat)) (.int 4) = .val (.bl (Nat.beq w 4)) := eqP_nat (b := 4)
  have q5 : eqP (.int (w : Nat)) (.int 5) = .val (.bl (Nat.beq w 5)) := eqP_nat (b := 5)
  have o9 : powP (.int 10) (.int 9) = .val (.int 1000000000) := rfl
  have o30 : powP (.int 10) (.int 30) = .val (.int 1000000000000000000000000000000) := rfl
  have o12 : powP (.int 10) (.int 12) = .val (.int 1000000000000) := rfl
  have mq : ∀ x : Int, mulP (.int (q : Nat)) (.int x) = .val (.int (q * x)) := fun x => mulP_l (by omega) (by omega)
  have mb : ∀ x : Int, mulP (.int (b : Nat)) (.int x) = .val (.int (b * x)) := fun x => mulP_l (by omega) (by omega)
  have mc : ∀ x : Int, mulP (.int (c : Nat)) (.int x) = .val (.int (c * x)) := fun x => mulP_l (by omega) (by omega)
  have ng : negP (.int 1) = .val (.int (-1)) := rfl
  have mk : mkL [PV.int 1, PV.int (-1)] = .val (.lst [.int 1, .int (-1)]) := mkL_ok (by show 2 ≤ 10000000; decide)
  have fin : ∃ t : Int, -(2 ^ 64) < t ∧ t < 2 ^ 64 ∧ ixP (.lst [PV.int 1, PV.int (-1)]) (.int (s : Nat)) = .val (.int t) := by
    match s, hs with
    | 0, _ => exact ⟨1, by decide, by decide, ixP_lst (i := 0) rfl⟩
    | 1, _ => exact ⟨-1, by decide, by decide, ixP_lst (i := 1) rfl⟩
    | n + 2, h => omega
  obtain ⟨t, tl, tu, xt⟩ := fin
  have mt : ∀ x : Int, mulP (.int x) (.int t) = .val (.int (x * t)) := fun x => mulP_r tl tu
  unfold m__law_number
  cases e3 : Nat.beq w 3 with
  | true =>
    have w3 := Nat.beq_eq.mp e3
    subst w3
    have e4 : Nat.beq 3 4 = false := rfl
    have e5 : Nat.beq 3 5 = false := rfl
    refine ⟨(n : Int) - q, d2, ?_, p2⟩
    simp -implicitDefEqProofs only [bind_val, asB_bl, if_true, Bool.not_true, Bool.not_false, Bool.false_eq_true, if_false, retF_rt, seqF_nx, seqF_rt, asSq_lst, asSq_tup, partP_int, leP_int, ltP_int, gtP_int, geP_int, addP_int, subP_int, intP_int, tupleP_lst, asLi_lst, noX_val, apR1_o, t1', moD_dct, t2, q3, q4, q5, e3, e4, e5, retR_rt]
  | false =>
    cases e4 : Nat.beq w 4 with
    | true =>
      have w4 := Nat.beq_eq.mp e4
      subst w4
      have e5 : Nat.beq 4 5 = false := rfl
      refine ⟨(n : Int) + q * (a - 1000), d3, ?_, p3⟩
      simp -implicitDefEqProofs only [bind_val, asB_bl, if_true, Bool.not_true, Bool.not_false, Bool.false_eq_true, if_false, retF_rt, seqF_nx, seqF_rt, asSq_lst, asSq_tup, partP_int, leP_int, ltP_int, gtP_int, geP_int, addP_int, subP_int, intP_int, tupleP_lst, asLi_lst, noX_val, apR1_o, t1', moD_dct, t2, q3, q4, q5, e3, e4, e5, t3', mq, retR_rt]
    | false =>
      cases e5 : Nat.beq w 5 with
      | true =>
        refine ⟨((b : Int) * 1000000000000000000000000000000 + c * 1000000000000 + n) * t, d6, ?_, p6⟩
        simp -implicitDefEqProofs only [bind_val, asB_bl, if_true, Bool.not_true, Bool.not_false, Bool.false_eq_true, if_false, retF_rt, seqF_nx, seqF_rt, asSq_lst, asSq_tup, partP_int, leP_int, ltP_int, gtP_int, geP_int, addP_int, subP_int, intP_int, tupleP_lst, asLi_lst, noX_val, apR1_o, t1', moD_dct, t2, q3, q4, q5, e3, e4, e5, o9, o30, o12, t4', t5', mb, mc, ng, mk, t6', xt, mt, retR_rt]
      | false =>
        refine ⟨(n : Int), d2, ?_, p2⟩
        simp -implicitDefEqProofs only [bind_val, asB_bl, if_true, Bool.not_true, Bool.not_false, Bool.false_eq_true, if_false, retF_rt, seqF_nx, seqF_rt, asSq_lst, asSq_tup, partP_int, leP_int, ltP_int, gtP_int, geP_int, addP_int, subP_int, intP_int, tupleP_lst, asLi_lst, noX_val, apR1_o, t1', moD_dct, t2, q3, q4, q5, e3, e4, e5, retR_rt]
section
variable {O : PV} {row : List Nat} {q g h e : Nat}
theorem inverse_law (hq : prB q = true) (h127 : q ≤ 127) (hg : g < q) (g0 : g ≠ 0) : ∃ b : Nat, b < q ∧ g * b % q = 1 ∧ m__law_inverse (.int (g : Nat)) (.int (q : Nat)) = .val (.int (b : Nat)) := by
  have q0 : 0 < q := by omega
  obtain ⟨b0, hb0, eb0⟩ := invN hq h127 hg g0
  have r1 : rng1 (.int (q : Nat)) = .val (PN (List.range q)) := rng1_nat (by omega)
  have sz : sized (PN (List.range q)).length = .val () := sized_small (by rw [PN_len, List.length_range]; omega)
  have l1 := lcN (c := fun a1 => ((((mulP (.int (g : Nat)) a1) >>= intP) >>= fun x4 => modP x4 (.int (q : Nat))) >>= fun x6 => eqP x6 (.int 1)) >>= asB) (e := fun a => Res.val a) (k := fun b => Nat.beq (g * b % q) 1) (g := fun n => PV.int (n : Nat)) (l := List.range q) (fun n hn => by
    have ml : mulP (.int (g : Nat)) (.int (n : Nat)) = .val (.int ((g * n : Nat) : Int)) := mulP_nat (by omega)
    have q1 : eqP (.int ((g * n % q : Nat) : Int)) (.int 1) = .val (.bl (Nat.beq (g * n % q) 1)) := eqP_nat (b := 1)
    simp -implicitDefEqProofs only [bind_val, asB_bl, if_true, Bool.not_true, Bool.not_false, Bool.false_eq_true, if_false, retF_rt, seqF_nx, seqF_rt, asSq_lst, asSq_tup, partP_int, leP_int, ltP_int, gtP_int, geP_int, addP_int, subP_int, intP_int, tupleP_lst, asLi_lst, ml, modP_nat q0, q1]) (fun _ _ _ => rfl)
  have ne : ((List.range q).filter fun b => Nat.beq (g * b % q) 1) ≠ [] := fun z => by
    have : b0 ∈ ((List.range q).filter fun b => Nat.beq (g * b % q) 1) := List.mem_filter.mpr ⟨List.mem_range.mpr hb0, Nat.beq_eq.mpr eb0⟩
    rw [z] at this
    cases this
  obtain ⟨b, l, hl⟩ := List.exists_cons_of_ne_nil ne
  have hb := List.mem_filter.mp (show b ∈ ((List.range q).filter fun b => Nat.beq (g * b % q) 1) by rw [hl]; exact List.mem_cons_self)
  rw [hl] at l1
  have ix : ixP (.lst ((b :: l).map fun n => PV.int (n : Nat))) (.int 0) = .val (.int (b : Nat)) := ixP_lst (i := 0) rfl
  refine ⟨b, List.mem_range.mp hb.1, Nat.beq_eq.mp hb.2, ?_⟩
  unfold m__law_inverse
  simp -implicitDefEqProofs only [bind_val, asB_bl, if_true, Bool.not_true, Bool.not_false, Bool.false_eq_true, if_false, retF_rt, seqF_nx, seqF_rt, asSq_lst, asSq_tup, partP_int, leP_int, ltP_int, gtP_int, geP_int, addP_int, subP_int, intP_int, tupleP_lst, asLi_lst, r1, sz, l1, ix]
end
/-! ### the law -/
section
variable {O : PV} {row : List Nat} {q g h e : Nat}
/-- the inner loop of the law: a blind is asked -/
def askB (K : PV) (c D : Nat) (v : Int) : PV → Unit → Res (Fl Unit Unit) := fun x184 _ => (m_Key_opens K (.int (c : Nat)) (.int v) x184 >>= fun x172 => (((isiP x172 (.ty "bool") >>= asB) >>= fun b179 => Res.val (!b179)) >>= fun b180 => if b180 = true then Res.val true else ((eqP x184 (.int (D : Nat)) >>= fun x176 => neP x172 x176) >>= asB)) >>= fun b181 => if b181 = true then Res.val (.rt (.bl false) []) else Res.val (.nx ()))
theorem turn_ok (W : GW O row q) (hg : g < q) (g0 : g ≠ 0) (hh : h < q) (h0 : h ≠ 0) (he : e < q) (hr : g * e % q = h) {d : List (Key × PV)} (hd : Px d) : ∃ (t D r : Nat) (v : Int) (d1 d2 d3 : List (Key × PV)), m__law_take (.dct d) (.int (q : Nat)) = .val (.int (t : Nat), .dct d1) ∧ t < q ∧ m__law_number (.dct d1) (.int (q : Nat)) = .val (.int v, .dct d2) ∧ m__law_blind (.dct (Wm q row O g h)) (.int (t : Nat)) (.int v) = .val (.int (D : Nat)) ∧ m_Key_blind_for (.ins "Key" (Kf O row g h e)) (.int (Rg row t : Nat)) (.int v) = .val (.int (D : Nat)) ∧ m__law_take (.dct d2) (.int ((q : Int) - 1)) = .val (.int (r : Nat), .dct d3) ∧
    (∀ b : Nat, b < q → askB (.ins "Key" (Kf O row g h e)) (Rg row t) D v (.int (b : Nat)) () = .val (.nx ())) ∧ D < q ∧ m_Key_cover (.ins "Key" (Kf O row g h e)) (.int v) (.int (D : Nat)) = .val (.int (Rg row t : Nat)) ∧ m_Key_count_openings (.ins "Key" (Kf O row g h e)) (.int (Rg row t : Nat)) (.int v) = .val (.int 1) ∧ m__law_member (.dct (Wm q row O g h)) (.int (t : Nat)) = .val (.int (Rg row t : Nat)) ∧ Px d3 := by
  have h3 := W.q3
  have h127 := W.q127
  have q0 : 0 < q := by omega
  obtain ⟨t, d1, t1, ht, p1⟩ := take_nat hd (m := q) q0 (by omega)
  obtain ⟨v, d2, e1, p2⟩ := number_ok p1 (q := q) q0 (by omega)
  obtain ⟨r, d3, t3, hr3, p3⟩ := take_nat p2 (m := q - 1) (by omega) (by omega)
  have s1 : ((q - 1 : Nat) : Int) = (q : Int) - 1 := by omega
  rw [s1] at t3
  obtain ⟨b, hb, eb, inv⟩ := inverse_law W.qp h127 hh h0
  obtain ⟨k, hk, kq⟩ := modN q0 ((t : Int) - v * g)
  have l1 : dgetP (.dct (Wm q row O g h)) (.str "q") = .val (.int (q : Nat)) := rfl
  have l2 : dgetP (.dct (Wm q row O g h)) (.str "g") = .val (.int (g : Nat)) := rfl
  have l3 : dgetP (.dct (Wm q row O g h)) (.str "h") = .val (.int (h : Nat)) := rfl
  have m1 : mulP (.int v) (.int (g : Nat)) = .val (.int (v * g)) := mulP_r (by omega) (by omega)
  have m2 : ∀ x : Int, mulP (.int x) (.int (b : Nat)) = .val (.int (x * b)) := fun x => mulP_r (by omega) (by omega)
  have eD : ((t : Int) - v * g) * b % (q : Int) = ((k * b % q : Nat) : Int) := by
    have bb : (b : Int) % (q : Int) = (b : Int) := Int.emod_eq_of_lt (by omega) (by omega)
    rw [Int.mul_emod, hk, bb, Int.natCast_emod, Int.natCast_mul]
  have md : modP (.int (((t : Int) - v * g) * b)) (.int (q : Nat)) = .val (.int ((k * b % q : Nat) : Int)) := by rw [modP_pos (by omega), eD]
  have bl : m__law_blind (.dct (Wm q row O g h)) (.int (t : Nat)) (.int v) = .val (.int ((k * b % q : Nat) : Int)) := by
    unfold m__law_blind
    simp -implicitDefEqProofs only [bind_val, asB_bl, if_true, Bool.not_true, Bool.not_false, Bool.false_eq_true, if_false, retF_rt, seqF_nx, seqF_rt, asSq_lst, asSq_tup, partP_int, leP_int, ltP_int, gtP_int, geP_int, addP_int, subP_int, intP_int, tupleP_lst, asLi_lst, l1, l2, l3, m1, inv, m2, md]
  -- which blinds open
  have key : ∀ x : Nat, x < q → ((v * g + (x : Int) * h) % (q : Int) = (t : Int) % (q : Int) ↔ x = k * b % q) := fun x hx => by
    have a1 : (v * g + (x : Int) * h) % (q : Int) = (t : Int) % (q : Int) ↔ ((x * h : Nat) : Int) % (q : Int) = (k : Int) % (q : Int) := by
      rw [← hk, Int.emod_emod, Int.emod_eq_emod_iff_emod_sub_eq_zero, Int.emod_eq_emod_iff_emod_sub_eq_zero, Int.natCast_mul, show v * g + (x : Int) * h - t = (x : Int) * h - (t - v * g) by omega]
    rw [a1]
    constructor
    · intro z
      have z1 : x * h % q = k := by
        have z2 : ((x * h % q : Nat) : Int) = (k : Int) := by rw [Int.natCast_emod, z, Int.emod_eq_of_lt (by omega) (by omega)]
        omega
      rw [← z1, Nat.mul_mod, Nat.mod_mod, ← Nat.mul_mod, Nat.mul_assoc, Nat.mul_mod, eb, Nat.mul_one, Nat.mod_mod, Nat.mod_eq_of_lt hx]
    · intro z
      rw [z, ← Int.natCast_emod]
      have z1 : k * b % q * h % q = k := by
        rw [Nat.mul_mod, Nat.mod_mod, ← Nat.mul_mod, show k * b * h = k * (h * b) by ac_rfl, Nat.mul_mod, eb, Nat.mul_one, Nat.mod_mod, Nat.mod_eq_of_lt kq]
      rw [z1, Int.emod_eq_of_lt (by omega) (by omega)]
  have Dq : k * b % q < q := Nat.mod_lt _ q0
  have mt : Mb row q (t : Nat) = Rg row t := Mb_nat ht
  have cv : Mb row q (v * g + ((k * b % q : Nat) : Int) * h) = Rg row t := by
    rw [← mt]
    exact (Mb_eq W).mpr ((key _ Dq).mpr rfl)
  have e0 : e ≠ 0 := fun z => by
    subst z
    rw [Nat.mul_zero, Nat.zero_mod] at hr
    exact h0 hr.symm
  have f0 : fldP cs__relation "_relation" (.ins "Key" (Kf O row g h e)) = .val (.int (e : Nat)) := rfl
  have f1 : fldP cs_group "group" (.ins "Key" (Kf O row g h e)) = .val O := rfl
  have f2 : fldP cs_base "base" (.ins "Key" (Kf O row g h e)) = .val (.int (Rg row g : Nat)) := rfl
  have f3 : fldP cs_blind_base "blind_base" (.ins "Key" (Kf O row g h e)) = .val (.int (Rg row h : Nat)) := rfl
  have n0 : neP (.int (e : Nat)) (.int 0) = .val (.bl true) := by
    have := neP_nat (a := e) (b := 0)
    rw [show Nat.beq e 0 = false from Bool.eq_false_iff.mpr fun z => e0 (Nat.beq_eq.mp z)] at this
    exact this
  have hid : m_Key_hiding (.ins "Key" (Kf O row g h e)) = .val (.bl true) := by
    unfold m_Key_hiding
    simp -implicitDefEqProofs only [bind_val, asB_bl, if_true, Bool.not_true, Bool.not_false, Bool.false_eq_true, if_false, retF_rt, seqF_nx, seqF_rt, asSq_lst, asSq_tup, partP_int, leP_int, ltP_int, gtP_int, geP_int, addP_int, subP_int, intP_int, tupleP_lst, asLi_lst, f0, n0]
  have sh : sel [("Key", ap1 m_Key_hiding)] "hiding" (.ins "Key" (Kf O row g h e)) = .val (ap1 m_Key_hiding) := rfl
  obtain ⟨j, hj, jq, pw⟩ := W.power hg v
  have dv := divide_ok W (t : Nat) (j : Nat)
  rw [mt, Mb_nat jq] at dv
  have mk : Mb row q ((t : Int) - (j : Nat)) = Rg row k := by
    have : ((t : Int) - (j : Nat)) % (q : Int) = (k : Int) := by
      rw [← hk, ← hj, Int.mul_comm v, Int.sub_emod, Int.emod_emod, ← Int.sub_emod]
    unfold Mb
    rw [this]
    rfl
  rw [mk] at dv
  obtain ⟨e2, he2, ee2, lg⟩ := W.log hh kq h0
  have e2D : e2 = k * b % q := by
    rw [← ee2, Nat.mul_mod, Nat.mod_mod, ← Nat.mul_mod, show h * e2 * b = e2 * (h * b) by ac_rfl, Nat.mul_mod, eb, Nat.mul_one, Nat.mod_mod, Nat.mod_eq_of_lt he2]
  rw [e2D] at lg
  have bf : m_Key_blind_for (.ins "Key" (Kf O row g h e)) (.int (Rg row t : Nat)) (.int v) = .val (.int ((k * b % q : Nat) : Int)) := by
    unfold m_Key_blind_for
    simp -implicitDefEqProofs only [bind_val, asB_bl, if_true, Bool.not_true, Bool.not_false, Bool.false_eq_true, if_false, retF_rt, seqF_nx, seqF_rt, asSq_lst, asSq_tup, partP_int, leP_int, ltP_int, gtP_int, geP_int, addP_int, subP_int, intP_int, tupleP_lst, asLi_lst, sh, ap1_one, hid, noX_val, f1, W.spow, f2, ap3_three, pw, dv, W.slog, f3, lg]
  have ct : m_Key_count_openings (.ins "Key" (Kf O row g h e)) (.int (Rg row t : Nat)) (.int v) = .val (.int 1) := by
    unfold m_Key_count_openings
    simp -implicitDefEqProofs only [bind_val, asB_bl, if_true, Bool.not_true, Bool.not_false, Bool.false_eq_true, if_false, retF_rt, seqF_nx, seqF_rt, asSq_lst, asSq_tup, partP_int, leP_int, ltP_int, gtP_int, geP_int, addP_int, subP_int, intP_int, tupleP_lst, asLi_lst, sh, ap1_one, hid, noX_val]
  refine ⟨t, k * b % q, r, v, d1, d2, d3, t1, ht, e1, bl, bf, t3, fun x hx => ?_, Dq, by rw [cover_ok W hg hh, cv], ct, by rw [member_ok W, mt], p3⟩
  have op := opens_ok (e := e) W hg hh (Rg row t) v (x : Nat)
  have eqb : Nat.beq (Mb row q (v * g + (x : Nat) * h)) (Rg row t) = Nat.beq x (k * b % q) := by
    rw [Bool.eq_iff_iff, Nat.beq_eq, Nat.beq_eq, ← mt, Mb_eq W]
    exact key x hx
  rw [eqb] at op
  have ib : ∀ b : Bool, isiP (.bl b) (.ty "bool") = .val (.bl true) := fun _ => rfl
  have nb : ∀ b : Bool, neP (.bl b) (.bl b) = .val (.bl false) := fun b => by rw [neP_bl, decide_eq_true rfl]; rfl
  unfold askB
  simp -implicitDefEqProofs only [bind_val, asB_bl, if_true, Bool.not_true, Bool.not_false, Bool.false_eq_true, if_false, retF_rt, seqF_nx, seqF_rt, asSq_lst, asSq_tup, partP_int, leP_int, ltP_int, gtP_int, geP_int, addP_int, subP_int, intP_int, tupleP_lst, asLi_lst, op, ib, eqP_nat, nb]
end
theorem law_true (ns : List Int) (h : ns.length ≤ 63) : m_law ns = .val (.bl true) := by
  obtain ⟨d0, e0, p0⟩ := pool_ok ns h
  obtain ⟨q, row, O, d1, e1, p1, W⟩ := world_ok p0
  obtain ⟨g, hh, e, d3, e3, p3, hg, g0, h', he, hr, hn⟩ := key_ok W p1 true
  have h0 := hn rfl
  have h3 := W.q3
  have h127 := W.q127
  have q0 : 0 < q := by omega
  have m1 : ∀ d, mos1 moD [.dct d] = .val d := fun _ => rfl
  have m2 : ∀ a b, mos2 moD moD [.dct a, .dct b] = .val (a, b) := fun _ _ => rfl
  have rn4 : rng1 (.int 4) = .val [.int 0, .int 1, .int 2, .int 3] := rfl
  have l1 : dgetP (.dct (Wl q row O)) (.str "q") = .val (.int (q : Nat)) := rfl
  have s1 : sel [("Key", ap3 m_Key_cover)] "cover" (.ins "Key" (Kf O row g hh e)) = .val (ap3 m_Key_cover) := rfl
  have s2 : sel [("Key", ap4 m_Key_opens)] "opens" (.ins "Key" (Kf O row g hh e)) = .val (ap4 m_Key_opens) := rfl
  have s3 : sel [("Key", ap3 m_Key_blind_for)] "blind_for" (.ins "Key" (Kf O row g hh e)) = .val (ap3 m_Key_blind_for) := rfl
  have s4 : sel [("Key", ap3 m_Key_count_openings)] "count_openings" (.ins "Key" (Kf O row g hh e)) = .val (ap3 m_Key_count_openings) := rfl
  have g1 : ∀ x y z : PV, g_Key_blind_for_1_cover_value [x] [y, z] = [x, y, z] := fun _ _ _ => rfl
  have g2 : ∀ x y z : PV, g_Key_count_openings_1_cover_value [x] [y, z] = [x, y, z] := fun _ _ _ => rfl
  have g3 : ∀ x y z u : PV, g_Key_opens_1_cover_value_blind [x] [y, z, u] = [x, y, z, u] := fun _ _ _ _ => rfl
  have same : ∀ x : Int, m__law_same 3 (.int x) (.int x) = .val (.bl true) := fun x => by rw [same_int, decide_eq_true rfl]
  have rg : rgL 0 (q : Nat) = .val (PN (List.range q)) := by
    have := rng1_nat (a := q) (by omega)
    exact rgL_nat (by omega)
  have ml : ∀ a b : PV, mkL [a, b] = .val (.lst [a, b]) := fun a b => mkL_ok (by show 2 ≤ 10000000; decide)
  have md : ∀ D r : Nat, modP (.int ((D : Int) + 1 + (r : Nat))) (.int (q : Nat)) = .val (.int (((D + 1 + r) % q : Nat) : Int)) := fun D r => modP_nat (a := D + 1 + r) q0
  have all : ∀ (t D : Nat) (v : Int), (∀ b : Nat, b < q → askB (.ins "Key" (Kf O row g hh e)) (Rg row t) D v (.int (b : Nat)) () = .val (.nx ())) → forF (L := List (Key × PV)) (askB (.ins "Key" (Kf O row g hh e)) (Rg row t) D v) (PN (List.range q)) () = .val (.nx ()) := fun t D v hb => forF_unit fun p hp => by
    obtain ⟨k, hk, rfl⟩ := List.mem_map.mp hp
    exact hb k (List.mem_range.mp hk)
  have two : ∀ (t D r : Nat) (v : Int), D < q → (∀ b : Nat, b < q → askB (.ins "Key" (Kf O row g hh e)) (Rg row t) D v (.int (b : Nat)) () = .val (.nx ())) → forF (L := List (Key × PV)) (askB (.ins "Key" (Kf O row g hh e)) (Rg row t) D v) [.int (D : Nat), .int (((D + 1 + r) % q : Nat) : Int)] () = .val (.nx ()) := fun t D r v hD hb => forF_unit fun p hp => by
    rcases List.mem_cons.mp hp with rfl | hp
    · exact hb D hD
    · rcases List.mem_cons.mp hp with rfl | hp
      · exact hb _ (Nat.mod_lt _ q0)
      · cases hp
  obtain ⟨t1, D1, r1, v1, x1, y1, z1, a1, aq1, b1, c1, f1, k1, n1, Dq1, o1, ct1, mb1, p1'⟩ := turn_ok W hg g0 h' h0 he hr p3
  have A1 := all t1 D1 v1 n1
  have B1 := two t1 D1 r1 v1 Dq1 n1
  obtain ⟨t2, D2, r2, v2, x2, y2, z2, a2, aq2, b2, c2, f2, k2, n2, Dq2, o2, ct2, mb2, p2'⟩ := turn_ok W hg g0 h' h0 he hr p1'
  have A2 := all t2 D2 v2 n2
  have B2 := two t2 D2 r2 v2 Dq2 n2
  obtain ⟨t3, D3, r3, v3, x3, y3, z3, a3, aq3, b3, c3, f3, k3, n3, Dq3, o3, ct3, mb3, p3'⟩ := turn_ok W hg g0 h' h0 he hr p2'
  have A3 := all t3 D3 v3 n3
  have B3 := two t3 D3 r3 v3 Dq3 n3
  obtain ⟨t4, D4, r4, v4, x4, y4, z4, a4, aq4, b4, c4, f4, k4, n4, Dq4, o4, ct4, mb4, p4'⟩ := turn_ok W hg g0 h' h0 he hr p3'
  have A4 := all t4 D4 v4 n4
  have B4 := two t4 D4 r4 v4 Dq4 n4
  unfold askB at A1 B1 A2 B2 A3 B3 A4 B4
  unfold m_law
  by_cases c14 : ((q : Nat) : Int) < 14
  · simp -implicitDefEqProofs only [bind_val, asB_bl, if_true, Bool.not_true, Bool.not_false, Bool.false_eq_true, if_false, retF_rt, seqF_nx, seqF_rt, asSq_lst, asSq_tup, partP_int, leP_int, ltP_int, gtP_int, geP_int, addP_int, subP_int, intP_int, tupleP_lst, asLi_lst, noX_val, apN1_o, e0, moD_dct, e1, m1, apR1_o, l1, e3, m2, rn4]
    unfold forF
    simp -implicitDefEqProofs only [bind_val, asB_bl, if_true, Bool.not_true, Bool.not_false, Bool.false_eq_true, if_false, retF_rt, seqF_nx, seqF_rt, asSq_lst, asSq_tup, partP_int, leP_int, ltP_int, gtP_int, geP_int, addP_int, subP_int, intP_int, tupleP_lst, asLi_lst, noX_val, apR1_o, a1, moD_dct, mb1, b1, c1, s3, g1, ap3_three, f1, same, s4, g2, ct1, k1, md, ml, decide_eq_true c14, rg, s2, g3, ap4_four, A1, s1, o1]
    unfold forF
    simp -implicitDefEqProofs only [bind_val, asB_bl, if_true, Bool.not_true, Bool.not_false, Bool.false_eq_true, if_false, retF_rt, seqF_nx, seqF_rt, asSq_lst, asSq_tup, partP_int, leP_int, ltP_int, gtP_int, geP_int, addP_int, subP_int, intP_int, tupleP_lst, asLi_lst, noX_val, apR1_o, a2, moD_dct, mb2, b2, c2, s3, g1, ap3_three, f2, same, s4, g2, ct2, k2, md, ml, decide_eq_true c14, rg, s2, g3, ap4_four, A2, s1, o2]
    unfold forF
    simp -implicitDefEqProofs only [bind_val, asB_bl, if_true, Bool.not_true, Bool.not_false, Bool.false_eq_true, if_false, retF_rt, seqF_nx, seqF_rt, asSq_lst, asSq_tup, partP_int, leP_int, ltP_int, gtP_int, geP_int, addP_int, subP_int, intP_int, tupleP_lst, asLi_lst, noX_val, apR1_o, a3, moD_dct, mb3, b3, c3, s3, g1, ap3_three, f3, same, s4, g2, ct3, k3, md, ml, decide_eq_true c14, rg, s2, g3, ap4_four, A3, s1, o3]
    unfold forF
    simp -implicitDefEqProofs only [bind_val, asB_bl, if_true, Bool.not_true, Bool.not_false, Bool.false_eq_true, if_false, retF_rt, seqF_nx, seqF_rt, asSq_lst, asSq_tup, partP_int, leP_int, ltP_int, gtP_int, geP_int, addP_int, subP_int, intP_int, tupleP_lst, asLi_lst, noX_val, apR1_o, a4, moD_dct, mb4, b4, c4, s3, g1, ap3_three, f4, same, s4, g2, ct4, k4, md, ml, decide_eq_true c14, rg, s2, g3, ap4_four, A4, s1, o4]
    unfold forF
    simp -implicitDefEqProofs only [bind_val, asB_bl, if_true, Bool.not_true, Bool.not_false, Bool.false_eq_true, if_false, retF_rt, seqF_nx, seqF_rt, asSq_lst, asSq_tup, partP_int, leP_int, ltP_int, gtP_int, geP_int, addP_int, subP_int, intP_int, tupleP_lst, asLi_lst]
  · simp -implicitDefEqProofs only [bind_val, asB_bl, if_true, Bool.not_true, Bool.not_false, Bool.false_eq_true, if_false, retF_rt, seqF_nx, seqF_rt, asSq_lst, asSq_tup, partP_int, leP_int, ltP_int, gtP_int, geP_int, addP_int, subP_int, intP_int, tupleP_lst, asLi_lst, noX_val, apN1_o, e0, moD_dct, e1, m1, apR1_o, l1, e3, m2, rn4]
    unfold forF
    simp -implicitDefEqProofs only [bind_val, asB_bl, if_true, Bool.not_true, Bool.not_false, Bool.false_eq_true, if_false, retF_rt, seqF_nx, seqF_rt, asSq_lst, asSq_tup, partP_int, leP_int, ltP_int, gtP_int, geP_int, addP_int, subP_int, intP_int, tupleP_lst, asLi_lst, noX_val, apR1_o, a1, moD_dct, mb1, b1, c1, s3, g1, ap3_three, f1, same, s4, g2, ct1, k1, md, ml, decide_eq_false c14, rg, s2, g3, ap4_four, B1, s1, o1]
    unfold forF
    simp -implicitDefEqProofs only [bind_val, asB_bl, if_true, Bool.not_true, Bool.not_false, Bool.false_eq_true, if_false, retF_rt, seqF_nx, seqF_rt, asSq_lst, asSq_tup, partP_int, leP_int, ltP_int, gtP_int, geP_int, addP_int, subP_int, intP_int, tupleP_lst, asLi_lst, noX_val, apR1_o, a2, moD_dct, mb2, b2, c2, s3, g1, ap3_three, f2, same, s4, g2, ct2, k2, md, ml, decide_eq_false c14, rg, s2, g3, ap4_four, B2, s1, o2]
    unfold forF
    simp -implicitDefEqProofs only [bind_val, asB_bl, if_true, Bool.not_true, Bool.not_false, Bool.false_eq_true, if_false, retF_rt, seqF_nx, seqF_rt, asSq_lst, asSq_tup, partP_int, leP_int, ltP_int, gtP_int, geP_int, addP_int, subP_int, intP_int, tupleP_lst, asLi_lst, noX_val, apR1_o, a3, moD_dct, mb3, b3, c3, s3, g1, ap3_three, f3, same, s4, g2, ct3, k3, md, ml, decide_eq_false c14, rg, s2, g3, ap4_four, B3, s1, o3]
    unfold forF
    simp -implicitDefEqProofs only [bind_val, asB_bl, if_true, Bool.not_true, Bool.not_false, Bool.false_eq_true, if_false, retF_rt, seqF_nx, seqF_rt, asSq_lst, asSq_tup, partP_int, leP_int, ltP_int, gtP_int, geP_int, addP_int, subP_int, intP_int, tupleP_lst, asLi_lst, noX_val, apR1_o, a4, moD_dct, mb4, b4, c4, s3, g1, ap3_three, f4, same, s4, g2, ct4, k4, md, ml, decide_eq_false c14, rg, s2, g3, ap4_four, B4, s1, o4]
    unfold forF
    simp -implicitDefEqProofs only [bind_val, asB_bl, if_true, Bool.not_true, Bool.not_false, Bool.false_eq_true, if_false, retF_rt, seqF_nx, seqF_rt, asSq_lst, asSq_tup, partP_int, leP_int, ltP_int, gtP_int, geP_int, addP_int, subP_int, intP_int, tupleP_lst, asLi_lst]
theorem all_mk {l : PySem.W.OpenLaw} {w : World} {K : PySem.W.Frag} {h : Heap} {mg : Str → Option Value} {fa : Addr} (X : K.In h) (G : h.Ns mainGlobals mg) (hfa : mg "law" = some (.ref fa))
    {f__law_pool : Addr} {od__law_pool an__law_pool : Option Addr} {sl__law_pool : Array (Option Value)} {oc__law_pool kV__law_pool dc__law_pool pm__law_pool cd__law_pool ct__law_pool : Value}
    {f__law_mixed : Addr} {od__law_mixed an__law_mixed : Option Addr} {sl__law_mixed : Array (Option Value)} {oc__law_mixed kV__law_mixed dc__law_mixed pm__law_mixed cd__law_mixed ct__law_mixed : Value}
    {f__law_take : Addr} {od__law_take an__law_take : Option Addr} {sl__law_take : Array (Option Value)} {oc__law_take kV__law_take dc__law_take pm__law_take cd__law_take ct__law_take : Value}
    {f__law_is_prime : Addr} {od__law_is_prime an__law_is_prime : Option Addr} {sl__law_is_prime : Array (Option Value)} {oc__law_is_prime kV__law_is_prime dc__law_is_prime pm__law_is_prime cd__law_is_prime ct__law_is_prime : Value}
    {f__law_order : Addr} {od__law_order an__law_order : Option Addr} {sl__law_order : Array (Option Value)} {oc__law_order kV__law_order dc__law_order pm__law_order cd__law_order ct__law_order : Value}
    {f__law_modulus : Addr} {od__law_modulus an__law_modulus : Option Addr} {sl__law_modulus : Array (Option Value)} {oc__law_modulus kV__law_modulus dc__law_modulus pm__law_modulus cd__law_modulus ct__law_modulus : Value}
    {f__law_power : Addr} {od__law_power an__law_power : Option Addr} {sl__law_power : Array (Option Value)} {oc__law_power kV__law_power dc__law_power pm__law_power cd__law_power ct__law_power : Value}
    {f_PowerGroup_multiply : Addr} {od_PowerGroup_multiply an_PowerGroup_multiply : Option Addr} {sl_PowerGroup_multiply : Array (Option Value)} {oc_PowerGroup_multiply kV_PowerGroup_multiply dc_PowerGroup_multiply pm_PowerGroup_multiply cd_PowerGroup_multiply ct_PowerGroup_multiply : Value}
    {f_TableGroup_multiply : Addr} {od_TableGroup_multiply an_TableGroup_multiply : Option Addr} {sl_TableGroup_multiply : Array (Option Value)} {oc_TableGroup_multiply kV_TableGroup_multiply dc_TableGroup_multiply pm_TableGroup_multiply cd_TableGroup_multiply ct_TableGroup_multiply : Value}
    {f_Group__powers_of : Addr} {od_Group__powers_of an_Group__powers_of : Option Addr} {sl_Group__powers_of : Array (Option Value)} {oc_Group__powers_of kV_Group__powers_of dc_Group__powers_of pm_Group__powers_of cd_Group__powers_of ct_Group__powers_of : Value}
    {f_Group___init__ : Addr} {od_Group___init__ an_Group___init__ : Option Addr} {sl_Group___init__ : Array (Option Value)} {oc_Group___init__ kV_Group___init__ dc_Group___init__ pm_Group___init__ cd_Group___init__ ct_Group___init__ : Value}
    {f__is_associative : Addr} {od__is_associative an__is_associative : Option Addr} {sl__is_associative : Array (Option Value)} {oc__is_associative kV__is_associative dc__is_associative pm__is_associative cd__is_associative ct__is_associative : Value}
    {f_is_prime : Addr} {od_is_prime an_is_prime : Option Addr} {sl_is_prime : Array (Option Value)} {oc_is_prime kV_is_prime dc_is_prime pm_is_prime cd_is_prime ct_is_prime : Value}
    {f_is_tuple_of : Addr} {od_is_tuple_of an_is_tuple_of : Option Addr} {sl_is_tuple_of : Array (Option Value)} {oc_is_tuple_of kV_is_tuple_of dc_is_tuple_of pm_is_tuple_of cd_is_tuple_of ct_is_tuple_of : Value}
    {f_is_residue : Addr} {od_is_residue an_is_residue : Option Addr} {sl_is_residue : Array (Option Value)} {oc_is_residue kV_is_residue dc_is_residue pm_is_residue cd_is_residue ct_is_residue : Value}
    {f_is_residue_row : Addr} {od_is_residue_row an_is_residue_row : Option Addr} {sl_is_residue_row : Array (Option Value)} {oc_is_residue_row kV_is_residue_row dc_is_residue_row pm_is_residue_row cd_is_residue_row ct_is_residue_row : Value}
    {f__is_square : Addr} {od__is_square an__is_square : Option Addr} {sl__is_square : Array (Option Value)} {oc__is_square kV__is_square dc__is_square pm__is_square cd__is_square ct__is_square : Value}
    {f__units : Addr} {od__units an__units : Option Addr} {sl__units : Array (Option Value)} {oc__units kV__units dc__units pm__units cd__units ct__units : Value}
    {f__is_group_table : Addr} {od__is_group_table an__is_group_table : Option Addr} {sl__is_group_table : Array (Option Value)} {oc__is_group_table kV__is_group_table dc__is_group_table pm__is_group_table cd__is_group_table ct__is_group_table : Value}
    {f_TableGroup___init__ : Addr} {od_TableGroup___init__ an_TableGroup___init__ : Option Addr} {sl_TableGroup___init__ : Array (Option Value)} {oc_TableGroup___init__ kV_TableGroup___init__ dc_TableGroup___init__ pm_TableGroup___init__ ct_TableGroup___init__ : Value}
    {cc_TableGroup___init__ cda_TableGroup___init__ : Addr} {xl_TableGroup___init__ : Value} {xd_TableGroup___init__ qb_TableGroup___init__ : Option Addr} {xs_TableGroup___init__ qc_TableGroup___init__ : Array (Option Value)} {qa_TableGroup___init__ : Value} {qv_TableGroup___init__ : Array Value} {qt_TableGroup___init__ : Tok}
    {f__law_table : Addr} {od__law_table an__law_table : Option Addr} {sl__law_table : Array (Option Value)} {oc__law_table kV__law_table dc__law_table pm__law_table cd__law_table ct__law_table : Value}
    {f__has_subgroup : Addr} {od__has_subgroup an__has_subgroup : Option Addr} {sl__has_subgroup : Array (Option Value)} {oc__has_subgroup kV__has_subgroup dc__has_subgroup pm__has_subgroup cd__has_subgroup ct__has_subgroup : Value}
    {f__power_modulo : Addr} {od__power_modulo an__power_modulo : Option Addr} {sl__power_modulo : Array (Option Value)} {oc__power_modulo kV__power_modulo dc__power_modulo pm__power_modulo cd__power_modulo ct__power_modulo : Value}
    {f_PowerGroup___init__ : Addr} {od_PowerGroup___init__ an_PowerGroup___init__ : Option Addr} {sl_PowerGroup___init__ : Array (Option Value)} {oc_PowerGroup___init__ kV_PowerGroup___init__ dc_PowerGroup___init__ pm_PowerGroup___init__ ct_PowerGroup___init__ : Value}
    {cc_PowerGroup___init__ cda_PowerGroup___init__ : Addr} {xl_PowerGroup___init__ : Value} {xd_PowerGroup___init__ qb_PowerGroup___init__ : Option Addr} {xs_PowerGroup___init__ qc_PowerGroup___init__ : Array (Option Value)} {qa_PowerGroup___init__ : Value} {qv_PowerGroup___init__ : Array Value} {qt_PowerGroup___init__ : Tok}
    {f__law_group : Addr} {od__law_group an__law_group : Option Addr} {sl__law_group : Array (Option Value)} {oc__law_group kV__law_group dc__law_group pm__law_group cd__law_group ct__law_group : Value}
    {f__law_world : Addr} {od__law_world an__law_world : Option Addr} {sl__law_world : Array (Option Value)} {oc__law_world kV__law_world dc__law_world pm__law_world cd__law_world ct__law_world : Value}
    {f_inverse : Addr} {od_inverse an_inverse : Option Addr} {sl_inverse : Array (Option Value)} {oc_inverse kV_inverse dc_inverse pm_inverse cd_inverse ct_inverse : Value}
    {f_Group_log : Addr} {od_Group_log an_Group_log : Option Addr} {sl_Group_log : Array (Option Value)} {oc_Group_log kV_Group_log dc_Group_log pm_Group_log cd_Group_log ct_Group_log : Value}
    {f_Group_has : Addr} {od_Group_has an_Group_has : Option Addr} {sl_Group_has : Array (Option Value)} {oc_Group_has kV_Group_has dc_Group_has pm_Group_has cd_Group_has ct_Group_has : Value}
    {f_Key___init__ : Addr} {od_Key___init__ an_Key___init__ : Option Addr} {sl_Key___init__ : Array (Option Value)} {oc_Key___init__ kV_Key___init__ dc_Key___init__ pm_Key___init__ cd_Key___init__ ct_Key___init__ : Value}
    {f__law_member : Addr} {od__law_member an__law_member : Option Addr} {sl__law_member : Array (Option Value)} {oc__law_member kV__law_member dc__law_member pm__law_member cd__law_member ct__law_member : Value}
    {f__law_key : Addr} {od__law_key an__law_key : Option Addr} {sl__law_key : Array (Option Value)} {oc__law_key kV__law_key dc__law_key pm__law_key cd__law_key ct__law_key : Value}
    {f__law_number : Addr} {od__law_number an__law_number : Option Addr} {sl__law_number : Array (Option Value)} {oc__law_number kV__law_number dc__law_number pm__law_number cd__law_number ct__law_number : Value}
    {f__law_inverse : Addr} {od__law_inverse an__law_inverse : Option Addr} {sl__law_inverse : Array (Option Value)} {oc__law_inverse kV__law_inverse dc__law_inverse pm__law_inverse cd__law_inverse ct__law_inverse : Value}
    {f__law_blind : Addr} {od__law_blind an__law_blind : Option Addr} {sl__law_blind : Array (Option Value)} {oc__law_blind kV__law_blind dc__law_blind pm__law_blind cd__law_blind ct__law_blind : Value}
    {f__law_same : Addr} {od__law_same an__law_same : Option Addr} {sl__law_same : Array (Option Value)} {oc__law_same kV__law_same dc__law_same pm__law_same cd__law_same ct__law_same : Value}
    {f_Group_combine : Addr} {od_Group_combine an_Group_combine : Option Addr} {sl_Group_combine : Array (Option Value)} {oc_Group_combine kV_Group_combine dc_Group_combine pm_Group_combine cd_Group_combine ct_Group_combine : Value}
    {f_Key_cover : Addr} {od_Key_cover an_Key_cover : Option Addr} {sl_Key_cover : Array (Option Value)} {oc_Key_cover kV_Key_cover dc_Key_cover pm_Key_cover cd_Key_cover ct_Key_cover : Value}
    {f_Key_opens : Addr} {od_Key_opens an_Key_opens : Option Addr} {sl_Key_opens : Array (Option Value)} {oc_Key_opens kV_Key_opens dc_Key_opens pm_Key_opens cd_Key_opens ct_Key_opens : Value}
    {f_Group_power : Addr} {od_Group_power an_Group_power : Option Addr} {sl_Group_power : Array (Option Value)} {oc_Group_power kV_Group_power dc_Group_power pm_Group_power cd_Group_power ct_Group_power : Value}
    {f_Group_inverse_of : Addr} {od_Group_inverse_of an_Group_inverse_of : Option Addr} {sl_Group_inverse_of : Array (Option Value)} {oc_Group_inverse_of kV_Group_inverse_of dc_Group_inverse_of pm_Group_inverse_of cd_Group_inverse_of ct_Group_inverse_of : Value}
    {f_divide : Addr} {od_divide an_divide : Option Addr} {sl_divide : Array (Option Value)} {oc_divide kV_divide dc_divide pm_divide cd_divide ct_divide : Value}
    {f_Key_hiding : Addr} {od_Key_hiding an_Key_hiding : Option Addr} {sl_Key_hiding : Array (Option Value)} {oc_Key_hiding kV_Key_hiding dc_Key_hiding pm_Key_hiding cd_Key_hiding ct_Key_hiding : Value}
    {f_Key_blind_for : Addr} {od_Key_blind_for an_Key_blind_for : Option Addr} {sl_Key_blind_for : Array (Option Value)} {oc_Key_blind_for kV_Key_blind_for dc_Key_blind_for pm_Key_blind_for cd_Key_blind_for ct_Key_blind_for : Value}
    {f_Key_count_openings : Addr} {od_Key_count_openings an_Key_count_openings : Option Addr} {sl_Key_count_openings : Array (Option Value)} {oc_Key_count_openings kV_Key_count_openings dc_Key_count_openings pm_Key_count_openings cd_Key_count_openings ct_Key_count_openings : Value}
    {f_law : Addr} {od_law an_law : Option Addr} {sl_law : Array (Option Value)} {oc_law kV_law dc_law pm_law cd_law ct_law : Value}
    {c_Key : Addr}
    {p_Key_hiding : Addr} {pr_Key_hiding : List Value}
    {c_PowerGroup : Addr}
    {c_TableGroup : Addr}
    {c_Group : Addr}
    {c_BadGroup : Addr}
    
    
    
    
    
    
    
    {c_BadKey : Addr}
    
    
    
    
    
    
    
    {c_NoInverse : Addr}
    
    
    
    
    
    
    
    {c_NoLogarithm : Addr}
    
    
    
    
    
    
    
    {c_OpenKey : Addr}
    
    
    
    
    
    
    
    {t_LARGEST_MODULUS : Tok}
    {t_LARGEST_POWER_ORDER : Tok}
    {t_LARGEST_TABLE_ORDER : Tok}
    {t_SMALLEST_ORDER : Tok}
    (a__law_pool : PySem.W.nsIn K mainGlobals "_law_pool" = some (some (.ref f__law_pool))) (l__law_pool : K.lookup f__law_pool = some ⟨oc__law_pool, od__law_pool, .func (PySem.W.fnOf "_law_pool" "_law_pool" (defArgs s_Lpool) (defBody s_Lpool) (defScope s_Lpool) .none kV__law_pool dc__law_pool pm__law_pool an__law_pool cd__law_pool ct__law_pool), sl__law_pool⟩) (c__law_pool : PySem.W.codeIn K cd__law_pool "_law_pool" = true) (k__law_pool : PySem.W.keepIn K (.ref f__law_pool) = true)
    (a__law_mixed : PySem.W.nsIn K mainGlobals "_law_mixed" = some (some (.ref f__law_mixed))) (l__law_mixed : K.lookup f__law_mixed = some ⟨oc__law_mixed, od__law_mixed, .func (PySem.W.fnOf "_law_mixed" "_law_mixed" (defArgs s_Lmixed) (defBody s_Lmixed) (defScope s_Lmixed) .none kV__law_mixed dc__law_mixed pm__law_mixed an__law_mixed cd__law_mixed ct__law_mixed), sl__law_mixed⟩) (c__law_mixed : PySem.W.codeIn K cd__law_mixed "_law_mixed" = true) (k__law_mixed : PySem.W.keepIn K (.ref f__law_mixed) = true)
    (a__law_take : PySem.W.nsIn K mainGlobals "_law_take" = some (some (.ref f__law_take))) (l__law_take : K.lookup f__law_take = some ⟨oc__law_take, od__law_take, .func (PySem.W.fnOf "_law_take" "_law_take" (defArgs s_Ltake) (defBody s_Ltake) (defScope s_Ltake) .none kV__law_take dc__law_take pm__law_take an__law_take cd__law_take ct__law_take), sl__law_take⟩) (c__law_take : PySem.W.codeIn K cd__law_take "_law_take" = true) (k__law_take : PySem.W.keepIn K (.ref f__law_take) = true)
    (a__law_is_prime : PySem.W.nsIn K mainGlobals "_law_is_prime" = some (some (.ref f__law_is_prime))) (l__law_is_prime : K.lookup f__law_is_prime = some ⟨oc__law_is_prime, od__law_is_prime, .func (PySem.W.fnOf "_law_is_prime" "_law_is_prime" (defArgs s_Lis_prime) (defBody s_Lis_prime) (defScope s_Lis_prime) .none kV__law_is_prime dc__law_is_prime pm__law_is_prime an__law_is_prime cd__law_is_prime ct__law_is_prime), sl__law_is_prime⟩) (c__law_is_prime : PySem.W.codeIn K cd__law_is_prime "_law_is_prime" = true) (k__law_is_prime : PySem.W.keepIn K (.ref f__law_is_prime) = true)
    (a__law_order : PySem.W.nsIn K mainGlobals "_law_order" = some (some (.ref f__law_order))) (l__law_order : K.lookup f__law_order = some ⟨oc__law_order, od__law_order, .func (PySem.W.fnOf "_law_order" "_law_order" (defArgs s_Lorder) (defBody s_Lorder) (defScope s_Lorder) .none kV__law_order dc__law_order pm__law_order an__law_order cd__law_order ct__law_order), sl__law_order⟩) (c__law_order : PySem.W.codeIn K cd__law_order "_law_order" = true) (k__law_order : PySem.W.keepIn K (.ref f__law_order) = true)
    (a__law_modulus : PySem.W.nsIn K mainGlobals "_law_modulus" = some (some (.ref f__law_modulus))) (l__law_modulus : K.lookup f__law_modulus = some ⟨oc__law_modulus, od__law_modulus, .func (PySem.W.fnOf "_law_modulus" "_law_modulus" (defArgs s_Lmodulus) (defBody s_Lmodulus) (defScope s_Lmodulus) .none kV__law_modulus dc__law_modulus pm__law_modulus an__law_modulus cd__law_modulus ct__law_modulus), sl__law_modulus⟩) (c__law_modulus : PySem.W.codeIn K cd__law_modulus "_law_modulus" = true) (k__law_modulus : PySem.W.keepIn K (.ref f__law_modulus) = true)
    (a__law_power : PySem.W.nsIn K mainGlobals "_law_power" = some (some (.ref f__law_power))) (l__law_power : K.lookup f__law_power = some ⟨oc__law_power, od__law_power, .func (PySem.W.fnOf "_law_power" "_law_power" (defArgs s_Lpower) (defBody s_Lpower) (defScope s_Lpower) .none kV__law_power dc__law_power pm__law_power an__law_power cd__law_power ct__law_power), sl__law_power⟩) (c__law_power : PySem.W.codeIn K cd__law_power "_law_power" = true) (k__law_power : PySem.W.keepIn K (.ref f__law_power) = true)
    (l_PowerGroup_multiply : K.lookup f_PowerGroup_multiply = some ⟨oc_PowerGroup_multiply, od_PowerGroup_multiply, .func (PySem.W.fnOf "multiply" "PowerGroup.multiply" (defArgs s_PowerGroup_multiply) (defBody s_PowerGroup_multiply) (defScope s_PowerGroup_multiply) .none kV_PowerGroup_multiply dc_PowerGroup_multiply pm_PowerGroup_multiply an_PowerGroup_multiply cd_PowerGroup_multiply ct_PowerGroup_multiply), sl_PowerGroup_multiply⟩) (c_PowerGroup_multiply : PySem.W.codeIn K cd_PowerGroup_multiply "PowerGroup.multiply" = true) (k_PowerGroup_multiply : PySem.W.keepIn K (.ref f_PowerGroup_multiply) = true)
    (l_TableGroup_multiply : K.lookup f_TableGroup_multiply = some ⟨oc_TableGroup_multiply, od_TableGroup_multiply, .func (PySem.W.fnOf "multiply" "TableGroup.multiply" (defArgs s_TableGroup_multiply) (defBody s_TableGroup_multiply) (defScope s_TableGroup_multiply) .none kV_TableGroup_multiply dc_TableGroup_multiply pm_TableGroup_multiply an_TableGroup_multiply cd_TableGroup_multiply ct_TableGroup_multiply), sl_TableGroup_multiply⟩) (c_TableGroup_multiply : PySem.W.codeIn K cd_TableGroup_multiply "TableGroup.multiply" = true) (k_TableGroup_multiply : PySem.W.keepIn K (.ref f_TableGroup_multiply) = true)
    (l_Group__powers_of : K.lookup f_Group__powers_of = some ⟨oc_Group__powers_of, od_Group__powers_of, .func (PySem.W.fnOf "_powers_of" "Group._powers_of" (defArgs s_Group__powers_of) (defBody s_Group__powers_of) (defScope s_Group__powers_of) .none kV_Group__powers_of dc_Group__powers_of pm_Group__powers_of an_Group__powers_of cd_Group__powers_of ct_Group__powers_of), sl_Group__powers_of⟩) (c_Group__powers_of : PySem.W.codeIn K cd_Group__powers_of "Group._powers_of" = true) (k_Group__powers_of : PySem.W.keepIn K (.ref f_Group__powers_of) = true)
    (l_Group___init__ : K.lookup f_Group___init__ = some ⟨oc_Group___init__, od_Group___init__, .func (PySem.W.fnOf "__init__" "Group.__init__" (defArgs s_Group___init__) (defBody s_Group___init__) (defScope s_Group___init__) .none kV_Group___init__ dc_Group___init__ pm_Group___init__ an_Group___init__ cd_Group___init__ ct_Group___init__), sl_Group___init__⟩) (c_Group___init__ : PySem.W.codeIn K cd_Group___init__ "Group.__init__" = true) (k_Group___init__ : PySem.W.keepIn K (.ref f_Group___init__) = true)
    (a__is_associative : PySem.W.nsIn K mainGlobals "_is_associative" = some (some (.ref f__is_associative))) (l__is_associative : K.lookup f__is_associative = some ⟨oc__is_associative, od__is_associative, .func (PySem.W.fnOf "_is_associative" "_is_associative" (defArgs s__is_associative) (defBody s__is_associative) (defScope s__is_associative) .none kV__is_associative dc__is_associative pm__is_associative an__is_associative cd__is_associative ct__is_associative), sl__is_associative⟩) (c__is_associative : PySem.W.codeIn K cd__is_associative "_is_associative" = true) (k__is_associative : PySem.W.keepIn K (.ref f__is_associative) = true)
    (a_is_prime : PySem.W.nsIn K mainGlobals "is_prime" = some (some (.ref f_is_prime))) (l_is_prime : K.lookup f_is_prime = some ⟨oc_is_prime, od_is_prime, .func (PySem.W.fnOf "is_prime" "is_prime" (defArgs s_is_prime) (defBody s_is_prime) (defScope s_is_prime) .none kV_is_prime dc_is_prime pm_is_prime an_is_prime cd_is_prime ct_is_prime), sl_is_prime⟩) (c_is_prime : PySem.W.codeIn K cd_is_prime "is_prime" = true) (k_is_prime : PySem.W.keepIn K (.ref f_is_prime) = true)
    (a_is_tuple_of : PySem.W.nsIn K mainGlobals "is_tuple_of" = some (some (.ref f_is_tuple_of))) (l_is_tuple_of : K.lookup f_is_tuple_of = some ⟨oc_is_tuple_of, od_is_tuple_of, .func (PySem.W.fnOf "is_tuple_of" "is_tuple_of" (defArgs s_is_tuple_of) (defBody s_is_tuple_of) (defScope s_is_tuple_of) .none kV_is_tuple_of dc_is_tuple_of pm_is_tuple_of an_is_tuple_of cd_is_tuple_of ct_is_tuple_of), sl_is_tuple_of⟩) (c_is_tuple_of : PySem.W.codeIn K cd_is_tuple_of "is_tuple_of" = true) (k_is_tuple_of : PySem.W.keepIn K (.ref f_is_tuple_of) = true)
    (a_is_residue : PySem.W.nsIn K mainGlobals "is_residue" = some (some (.ref f_is_residue))) (l_is_residue : K.lookup f_is_residue = some ⟨oc_is_residue, od_is_residue, .func (PySem.W.fnOf "is_residue" "is_residue" (defArgs s_is_residue) (defBody s_is_residue) (defScope s_is_residue) .none kV_is_residue dc_is_residue pm_is_residue an_is_residue cd_is_residue ct_is_residue), sl_is_residue⟩) (c_is_residue : PySem.W.codeIn K cd_is_residue "is_residue" = true) (k_is_residue : PySem.W.keepIn K (.ref f_is_residue) = true)
    (a_is_residue_row : PySem.W.nsIn K mainGlobals "is_residue_row" = some (some (.ref f_is_residue_row))) (l_is_residue_row : K.lookup f_is_residue_row = some ⟨oc_is_residue_row, od_is_residue_row, .func (PySem.W.fnOf "is_residue_row" "is_residue_row" (defArgs s_is_residue_row) (defBody s_is_residue_row) (defScope s_is_residue_row) .none kV_is_residue_row dc_is_residue_row pm_is_residue_row an_is_residue_row cd_is_residue_row ct_is_residue_row), sl_is_residue_row⟩) (c_is_residue_row : PySem.W.codeIn K cd_is_residue_row "is_residue_row" = true) (k_is_residue_row : PySem.W.keepIn K (.ref f_is_residue_row) = true)
    (a__is_square : PySem.W.nsIn K mainGlobals "_is_square" = some (some (.ref f__is_square))) (l__is_square : K.lookup f__is_square = some ⟨oc__is_square, od__is_square, .func (PySem.W.fnOf "_is_square" "_is_square" (defArgs s__is_square) (defBody s__is_square) (defScope s__is_square) .none kV__is_square dc__is_square pm__is_square an__is_square cd__is_square ct__is_square), sl__is_square⟩) (c__is_square : PySem.W.codeIn K cd__is_square "_is_square" = true) (k__is_square : PySem.W.keepIn K (.ref f__is_square) = true)
    (a__units : PySem.W.nsIn K mainGlobals "_units" = some (some (.ref f__units))) (l__units : K.lookup f__units = some ⟨oc__units, od__units, .func (PySem.W.fnOf "_units" "_units" (defArgs s__units) (defBody s__units) (defScope s__units) .none kV__units dc__units pm__units an__units cd__units ct__units), sl__units⟩) (c__units : PySem.W.codeIn K cd__units "_units" = true) (k__units : PySem.W.keepIn K (.ref f__units) = true)
    (a__is_group_table : PySem.W.nsIn K mainGlobals "_is_group_table" = some (some (.ref f__is_group_table))) (l__is_group_table : K.lookup f__is_group_table = some ⟨oc__is_group_table, od__is_group_table, .func (PySem.W.fnOf "_is_group_table" "_is_group_table" (defArgs s__is_group_table) (defBody s__is_group_table) (defScope s__is_group_table) .none kV__is_group_table dc__is_group_table pm__is_group_table an__is_group_table cd__is_group_table ct__is_group_table), sl__is_group_table⟩) (c__is_group_table : PySem.W.codeIn K cd__is_group_table "_is_group_table" = true) (k__is_group_table : PySem.W.keepIn K (.ref f__is_group_table) = true)
    (l_TableGroup___init__ : K.lookup f_TableGroup___init__ = some ⟨oc_TableGroup___init__, od_TableGroup___init__, .func (PySem.W.fnX "__init__" "TableGroup.__init__" (defArgs s_TableGroup___init__) (defBody s_TableGroup___init__) (defScope s_TableGroup___init__) [(("__class__" : Str), cc_TableGroup___init__)] .none kV_TableGroup___init__ dc_TableGroup___init__ pm_TableGroup___init__ an_TableGroup___init__ (.ref cda_TableGroup___init__) ct_TableGroup___init__), sl_TableGroup___init__⟩) (c_TableGroup___init__ : PySem.W.codeIn K (.ref cda_TableGroup___init__) "TableGroup.__init__" = true) (k_TableGroup___init__ : PySem.W.keepIn K (.ref f_TableGroup___init__) = true)
    (x_TableGroup___init__ : K.lookup cc_TableGroup___init__ = some ⟨xl_TableGroup___init__, xd_TableGroup___init__, .cell (some (.ref c_TableGroup)), xs_TableGroup___init__⟩) (q_TableGroup___init__ : K.lookup cda_TableGroup___init__ = some ⟨qa_TableGroup___init__, qb_TableGroup___init__, .fields qv_TableGroup___init__, qc_TableGroup___init__⟩) (q2_TableGroup___init__ : qv_TableGroup___init__[2]? = some (.str sfile qt_TableGroup___init__))
    (s1_TableGroup___init__ : PySem.W.isClsIn K c_TableGroup = true) (s2_TableGroup___init__ : PySem.W.mroIn K c_TableGroup (.ref c_TableGroup) = some true) (s3_TableGroup___init__ : PySem.W.ks_superIn K c_TableGroup c_TableGroup "__init__" = some (some (.ref f_Group___init__))) (s4_TableGroup___init__ : PySem.W.typeIn K (.ref f_Group___init__) = some (.type "function")) (s5_TableGroup___init__ : PySem.W.nsIn K cStatics "thirdparty.any" = some none) (s6_TableGroup___init__ : PySem.W.fnIn K f_Group___init__ = true)
    (a__law_table : PySem.W.nsIn K mainGlobals "_law_table" = some (some (.ref f__law_table))) (l__law_table : K.lookup f__law_table = some ⟨oc__law_table, od__law_table, .func (PySem.W.fnOf "_law_table" "_law_table" (defArgs s_Ltable) (defBody s_Ltable) (defScope s_Ltable) .none kV__law_table dc__law_table pm__law_table an__law_table cd__law_table ct__law_table), sl__law_table⟩) (c__law_table : PySem.W.codeIn K cd__law_table "_law_table" = true) (k__law_table : PySem.W.keepIn K (.ref f__law_table) = true)
    (a__has_subgroup : PySem.W.nsIn K mainGlobals "_has_subgroup" = some (some (.ref f__has_subgroup))) (l__has_subgroup : K.lookup f__has_subgroup = some ⟨oc__has_subgroup, od__has_subgroup, .func (PySem.W.fnOf "_has_subgroup" "_has_subgroup" (defArgs s__has_subgroup) (defBody s__has_subgroup) (defScope s__has_subgroup) .none kV__has_subgroup dc__has_subgroup pm__has_subgroup an__has_subgroup cd__has_subgroup ct__has_subgroup), sl__has_subgroup⟩) (c__has_subgroup : PySem.W.codeIn K cd__has_subgroup "_has_subgroup" = true) (k__has_subgroup : PySem.W.keepIn K (.ref f__has_subgroup) = true)
    (a__power_modulo : PySem.W.nsIn K mainGlobals "_power_modulo" = some (some (.ref f__power_modulo))) (l__power_modulo : K.lookup f__power_modulo = some ⟨oc__power_modulo, od__power_modulo, .func (PySem.W.fnOf "_power_modulo" "_power_modulo" (defArgs s__power_modulo) (defBody s__power_modulo) (defScope s__power_modulo) .none kV__power_modulo dc__power_modulo pm__power_modulo an__power_modulo cd__power_modulo ct__power_modulo), sl__power_modulo⟩) (c__power_modulo : PySem.W.codeIn K cd__power_modulo "_power_modulo" = true) (k__power_modulo : PySem.W.keepIn K (.ref f__power_modulo) = true)
    (l_PowerGroup___init__ : K.lookup f_PowerGroup___init__ = some ⟨oc_PowerGroup___init__, od_PowerGroup___init__, .func (PySem.W.fnX "__init__" "PowerGroup.__init__" (defArgs s_PowerGroup___init__) (defBody s_PowerGroup___init__) (defScope s_PowerGroup___init__) [(("__class__" : Str), cc_PowerGroup___init__)] .none kV_PowerGroup___init__ dc_PowerGroup___init__ pm_PowerGroup___init__ an_PowerGroup___init__ (.ref cda_PowerGroup___init__) ct_PowerGroup___init__), sl_PowerGroup___init__⟩) (c_PowerGroup___init__ : PySem.W.codeIn K (.ref cda_PowerGroup___init__) "PowerGroup.__init__" = true) (k_PowerGroup___init__ : PySem.W.keepIn K (.ref f_PowerGroup___init__) = true)
    (x_PowerGroup___init__ : K.lookup cc_PowerGroup___init__ = some ⟨xl_PowerGroup___init__, xd_PowerGroup___init__, .cell (some (.ref c_PowerGroup)), xs_PowerGroup___init__⟩) (q_PowerGroup___init__ : K.lookup cda_PowerGroup___init__ = some ⟨qa_PowerGroup___init__, qb_PowerGroup___init__, .fields qv_PowerGroup___init__, qc_PowerGroup___init__⟩) (q2_PowerGroup___init__ : qv_PowerGroup___init__[2]? = some (.str sfile qt_PowerGroup___init__))
    (s1_PowerGroup___init__ : PySem.W.isClsIn K c_PowerGroup = true) (s2_PowerGroup___init__ : PySem.W.mroIn K c_PowerGroup (.ref c_PowerGroup) = some true) (s3_PowerGroup___init__ : PySem.W.ks_superIn K c_PowerGroup c_PowerGroup "__init__" = some (some (.ref f_Group___init__))) (s4_PowerGroup___init__ : PySem.W.typeIn K (.ref f_Group___init__) = some (.type "function")) (s5_PowerGroup___init__ : PySem.W.nsIn K cStatics "thirdparty.any" = some none) (s6_PowerGroup___init__ : PySem.W.fnIn K f_Group___init__ = true)
    (a__law_group : PySem.W.nsIn K mainGlobals "_law_group" = some (some (.ref f__law_group))) (l__law_group : K.lookup f__law_group = some ⟨oc__law_group, od__law_group, .func (PySem.W.fnOf "_law_group" "_law_group" (defArgs s_Lgroup) (defBody s_Lgroup) (defScope s_Lgroup) .none kV__law_group dc__law_group pm__law_group an__law_group cd__law_group ct__law_group), sl__law_group⟩) (c__law_group : PySem.W.codeIn K cd__law_group "_law_group" = true) (k__law_group : PySem.W.keepIn K (.ref f__law_group) = true)
    (a__law_world : PySem.W.nsIn K mainGlobals "_law_world" = some (some (.ref f__law_world))) (l__law_world : K.lookup f__law_world = some ⟨oc__law_world, od__law_world, .func (PySem.W.fnOf "_law_world" "_law_world" (defArgs s_Lworld) (defBody s_Lworld) (defScope s_Lworld) .none kV__law_world dc__law_world pm__law_world an__law_world cd__law_world ct__law_world), sl__law_world⟩) (c__law_world : PySem.W.codeIn K cd__law_world "_law_world" = true) (k__law_world : PySem.W.keepIn K (.ref f__law_world) = true)
    (a_inverse : PySem.W.nsIn K mainGlobals "inverse" = some (some (.ref f_inverse))) (l_inverse : K.lookup f_inverse = some ⟨oc_inverse, od_inverse, .func (PySem.W.fnOf "inverse" "inverse" (defArgs s_inverse) (defBody s_inverse) (defScope s_inverse) .none kV_inverse dc_inverse pm_inverse an_inverse cd_inverse ct_inverse), sl_inverse⟩) (c_inverse : PySem.W.codeIn K cd_inverse "inverse" = true) (k_inverse : PySem.W.keepIn K (.ref f_inverse) = true)
    (l_Group_log : K.lookup f_Group_log = some ⟨oc_Group_log, od_Group_log, .func (PySem.W.fnOf "log" "Group.log" (defArgs s_Group_log) (defBody s_Group_log) (defScope s_Group_log) .none kV_Group_log dc_Group_log pm_Group_log an_Group_log cd_Group_log ct_Group_log), sl_Group_log⟩) (c_Group_log : PySem.W.codeIn K cd_Group_log "Group.log" = true) (k_Group_log : PySem.W.keepIn K (.ref f_Group_log) = true)
    (l_Group_has : K.lookup f_Group_has = some ⟨oc_Group_has, od_Group_has, .func (PySem.W.fnOf "has" "Group.has" (defArgs s_Group_has) (defBody s_Group_has) (defScope s_Group_has) .none kV_Group_has dc_Group_has pm_Group_has an_Group_has cd_Group_has ct_Group_has), sl_Group_has⟩) (c_Group_has : PySem.W.codeIn K cd_Group_has "Group.has" = true) (k_Group_has : PySem.W.keepIn K (.ref f_Group_has) = true)
    (l_Key___init__ : K.lookup f_Key___init__ = some ⟨oc_Key___init__, od_Key___init__, .func (PySem.W.fnOf "__init__" "Key.__init__" (defArgs s_Key___init__) (defBody s_Key___init__) (defScope s_Key___init__) .none kV_Key___init__ dc_Key___init__ pm_Key___init__ an_Key___init__ cd_Key___init__ ct_Key___init__), sl_Key___init__⟩) (c_Key___init__ : PySem.W.codeIn K cd_Key___init__ "Key.__init__" = true) (k_Key___init__ : PySem.W.keepIn K (.ref f_Key___init__) = true)
    (a__law_member : PySem.W.nsIn K mainGlobals "_law_member" = some (some (.ref f__law_member))) (l__law_member : K.lookup f__law_member = some ⟨oc__law_member, od__law_member, .func (PySem.W.fnOf "_law_member" "_law_member" (defArgs s_Lmember) (defBody s_Lmember) (defScope s_Lmember) .none kV__law_member dc__law_member pm__law_member an__law_member cd__law_member ct__law_member), sl__law_member⟩) (c__law_member : PySem.W.codeIn K cd__law_member "_law_member" = true) (k__law_member : PySem.W.keepIn K (.ref f__law_member) = true)
    (a__law_key : PySem.W.nsIn K mainGlobals "_law_key" = some (some (.ref f__law_key))) (l__law_key : K.lookup f__law_key = some ⟨oc__law_key, od__law_key, .func (PySem.W.fnOf "_law_key" "_law_key" (defArgs s_Lkey) (defBody s_Lkey) (defScope s_Lkey) .none kV__law_key dc__law_key pm__law_key an__law_key cd__law_key ct__law_key), sl__law_key⟩) (c__law_key : PySem.W.codeIn K cd__law_key "_law_key" = true) (k__law_key : PySem.W.keepIn K (.ref f__law_key) = true)
    (a__law_number : PySem.W.nsIn K mainGlobals "_law_number" = some (some (.ref f__law_number))) (l__law_number : K.lookup f__law_number = some ⟨oc__law_number, od__law_number, .func (PySem.W.fnOf "_law_number" "_law_number" (defArgs s_Lnumber) (defBody s_Lnumber) (defScope s_Lnumber) .none kV__law_number dc__law_number pm__law_number an__law_number cd__law_number ct__law_number), sl__law_number⟩) (c__law_number : PySem.W.codeIn K cd__law_number "_law_number" = true) (k__law_number : PySem.W.keepIn K (.ref f__law_number) = true)
    (a__law_inverse : PySem.W.nsIn K mainGlobals "_law_inverse" = some (some (.ref f__law_inverse))) (l__law_inverse : K.lookup f__law_inverse = some ⟨oc__law_inverse, od__law_inverse, .func (PySem.W.fnOf "_law_inverse" "_law_inverse" (defArgs s_Linverse) (defBody s_Linverse) (defScope s_Linverse) .none kV__law_inverse dc__law_inverse pm__law_inverse an__law_inverse cd__law_inverse ct__law_inverse), sl__law_inverse⟩) (c__law_inverse : PySem.W.codeIn K cd__law_inverse "_law_inverse" = true) (k__law_inverse : PySem.W.keepIn K (.ref f__law_inverse) = true)
    (a__law_blind : PySem.W.nsIn K mainGlobals "_law_blind" = some (some (.ref f__law_blind))) (l__law_blind : K.lookup f__law_blind = some ⟨oc__law_blind, od__law_blind, .func (PySem.W.fnOf "_law_blind" "_law_blind" (defArgs s_Lblind) (defBody s_Lblind) (defScope s_Lblind) .none kV__law_blind dc__law_blind pm__law_blind an__law_blind cd__law_blind ct__law_blind), sl__law_blind⟩) (c__law_blind : PySem.W.codeIn K cd__law_blind "_law_blind" = true) (k__law_blind : PySem.W.keepIn K (.ref f__law_blind) = true)
    (a__law_same : PySem.W.nsIn K mainGlobals "_law_same" = some (some (.ref f__law_same))) (l__law_same : K.lookup f__law_same = some ⟨oc__law_same, od__law_same, .func (PySem.W.fnOf "_law_same" "_law_same" (defArgs s_Lsame) (defBody s_Lsame) (defScope s_Lsame) .none kV__law_same dc__law_same pm__law_same an__law_same cd__law_same ct__law_same), sl__law_same⟩) (c__law_same : PySem.W.codeIn K cd__law_same "_law_same" = true) (k__law_same : PySem.W.keepIn K (.ref f__law_same) = true)
    (l_Group_combine : K.lookup f_Group_combine = some ⟨oc_Group_combine, od_Group_combine, .func (PySem.W.fnOf "combine" "Group.combine" (defArgs s_Group_combine) (defBody s_Group_combine) (defScope s_Group_combine) .none kV_Group_combine dc_Group_combine pm_Group_combine an_Group_combine cd_Group_combine ct_Group_combine), sl_Group_combine⟩) (c_Group_combine : PySem.W.codeIn K cd_Group_combine "Group.combine" = true) (k_Group_combine : PySem.W.keepIn K (.ref f_Group_combine) = true)
    (l_Key_cover : K.lookup f_Key_cover = some ⟨oc_Key_cover, od_Key_cover, .func (PySem.W.fnOf "cover" "Key.cover" (defArgs s_Key_cover) (defBody s_Key_cover) (defScope s_Key_cover) .none kV_Key_cover dc_Key_cover pm_Key_cover an_Key_cover cd_Key_cover ct_Key_cover), sl_Key_cover⟩) (c_Key_cover : PySem.W.codeIn K cd_Key_cover "Key.cover" = true) (k_Key_cover : PySem.W.keepIn K (.ref f_Key_cover) = true)
    (l_Key_opens : K.lookup f_Key_opens = some ⟨oc_Key_opens, od_Key_opens, .func (PySem.W.fnOf "opens" "Key.opens" (defArgs s_Key_opens) (defBody s_Key_opens) (defScope s_Key_opens) .none kV_Key_opens dc_Key_opens pm_Key_opens an_Key_opens cd_Key_opens ct_Key_opens), sl_Key_opens⟩) (c_Key_opens : PySem.W.codeIn K cd_Key_opens "Key.opens" = true) (k_Key_opens : PySem.W.keepIn K (.ref f_Key_opens) = true)
    (l_Group_power : K.lookup f_Group_power = some ⟨oc_Group_power, od_Group_power, .func (PySem.W.fnOf "power" "Group.power" (defArgs s_Group_power) (defBody s_Group_power) (defScope s_Group_power) .none kV_Group_power dc_Group_power pm_Group_power an_Group_power cd_Group_power ct_Group_power), sl_Group_power⟩) (c_Group_power : PySem.W.codeIn K cd_Group_power "Group.power" = true) (k_Group_power : PySem.W.keepIn K (.ref f_Group_power) = true)
    (l_Group_inverse_of : K.lookup f_Group_inverse_of = some ⟨oc_Group_inverse_of, od_Group_inverse_of, .func (PySem.W.fnOf "inverse_of" "Group.inverse_of" (defArgs s_Group_inverse_of) (defBody s_Group_inverse_of) (defScope s_Group_inverse_of) .none kV_Group_inverse_of dc_Group_inverse_of pm_Group_inverse_of an_Group_inverse_of cd_Group_inverse_of ct_Group_inverse_of), sl_Group_inverse_of⟩) (c_Group_inverse_of : PySem.W.codeIn K cd_Group_inverse_of "Group.inverse_of" = true) (k_Group_inverse_of : PySem.W.keepIn K (.ref f_Group_inverse_of) = true)
    (a_divide : PySem.W.nsIn K mainGlobals "divide" = some (some (.ref f_divide))) (l_divide : K.lookup f_divide = some ⟨oc_divide, od_divide, .func (PySem.W.fnOf "divide" "divide" (defArgs s_divide) (defBody s_divide) (defScope s_divide) .none kV_divide dc_divide pm_divide an_divide cd_divide ct_divide), sl_divide⟩) (c_divide : PySem.W.codeIn K cd_divide "divide" = true) (k_divide : PySem.W.keepIn K (.ref f_divide) = true)
    (l_Key_hiding : K.lookup f_Key_hiding = some ⟨oc_Key_hiding, od_Key_hiding, .func (PySem.W.fnOf "hiding" "Key.hiding" (defArgs s_Key_hiding) (defBody s_Key_hiding) (defScope s_Key_hiding) .none kV_Key_hiding dc_Key_hiding pm_Key_hiding an_Key_hiding cd_Key_hiding ct_Key_hiding), sl_Key_hiding⟩) (c_Key_hiding : PySem.W.codeIn K cd_Key_hiding "Key.hiding" = true) (k_Key_hiding : PySem.W.keepIn K (.ref f_Key_hiding) = true)
    (l_Key_blind_for : K.lookup f_Key_blind_for = some ⟨oc_Key_blind_for, od_Key_blind_for, .func (PySem.W.fnOf "blind_for" "Key.blind_for" (defArgs s_Key_blind_for) (defBody s_Key_blind_for) (defScope s_Key_blind_for) .none kV_Key_blind_for dc_Key_blind_for pm_Key_blind_for an_Key_blind_for cd_Key_blind_for ct_Key_blind_for), sl_Key_blind_for⟩) (c_Key_blind_for : PySem.W.codeIn K cd_Key_blind_for "Key.blind_for" = true) (k_Key_blind_for : PySem.W.keepIn K (.ref f_Key_blind_for) = true)
    (l_Key_count_openings : K.lookup f_Key_count_openings = some ⟨oc_Key_count_openings, od_Key_count_openings, .func (PySem.W.fnOf "count_openings" "Key.count_openings" (defArgs s_Key_count_openings) (defBody s_Key_count_openings) (defScope s_Key_count_openings) .none kV_Key_count_openings dc_Key_count_openings pm_Key_count_openings an_Key_count_openings cd_Key_count_openings ct_Key_count_openings), sl_Key_count_openings⟩) (c_Key_count_openings : PySem.W.codeIn K cd_Key_count_openings "Key.count_openings" = true) (k_Key_count_openings : PySem.W.keepIn K (.ref f_Key_count_openings) = true)
    (a_law : PySem.W.nsIn K mainGlobals "law" = some (some (.ref f_law))) (l_law : K.lookup f_law = some ⟨oc_law, od_law, .func (PySem.W.fnOf "law" "law" (defArgs s_law) (defBody s_law) (defScope s_law) .none kV_law dc_law pm_law an_law cd_law ct_law), sl_law⟩) (c_law : PySem.W.codeIn K cd_law "law" = true) (k_law : PySem.W.keepIn K (.ref f_law) = true)
    (a_Key : PySem.W.nsIn K mainGlobals "Key" = some (some (.ref c_Key)))
    (pg_Key : PySem.W.plainGet K c_Key Str.empty = true)
    (hd_Key : PySem.W.hasDictIn K c_Key = true)
    (po_Key : PySem.W.plainOver K c_Key = true)
    (sa_Key : PySem.W.findIn K (.ref c_Key) "__setattr__" = some (some (.builtin "object.__setattr__")))
    (mk_Key : PySem.W.makesIn K c_Key = true)
    (kc_Key : PySem.W.keepIn K (.ref c_Key) = true)
    (in_Key : PySem.W.findIn K (.ref c_Key) "__init__" = some (some (.ref f_Key___init__)))
    (if_Key : PySem.W.isFn K (.ref f_Key___init__) = true)
    (e_blind_for_Key : PySem.W.findIn K (.ref c_Key) "blind_for" = some (some (.ref f_Key_blind_for)))
    (g_blind_for_Key : PySem.W.isFn K (.ref f_Key_blind_for) = true)
    (e_count_openings_Key : PySem.W.findIn K (.ref c_Key) "count_openings" = some (some (.ref f_Key_count_openings)))
    (g_count_openings_Key : PySem.W.isFn K (.ref f_Key_count_openings) = true)
    (e_cover_Key : PySem.W.findIn K (.ref c_Key) "cover" = some (some (.ref f_Key_cover)))
    (g_cover_Key : PySem.W.isFn K (.ref f_Key_cover) = true)
    (e_opens_Key : PySem.W.findIn K (.ref c_Key) "opens" = some (some (.ref f_Key_opens)))
    (g_opens_Key : PySem.W.isFn K (.ref f_Key_opens) = true)
    (ya_hiding_Key : PySem.W.findIn K (.ref c_Key) "hiding" = some (some (.ref p_Key_hiding)))
    (yg_hiding_Key : PySem.W.specialIn K (.ref p_Key_hiding) "__get__" = some (some (.builtin "property.__get__")))
    (yt_hiding_Key : PySem.W.takesIn K (.ref p_Key_hiding) = some true)
    (yc_hiding_Key : PySem.W.recIn K p_Key_hiding "property" = some (.ref f_Key_hiding :: pr_Key_hiding))
    (n__relation_Key : PySem.W.findIn K (.ref c_Key) "_relation" = some none)
    (n_base_Key : PySem.W.findIn K (.ref c_Key) "base" = some none)
    (n_blind_base_Key : PySem.W.findIn K (.ref c_Key) "blind_base" = some none)
    (n_group_Key : PySem.W.findIn K (.ref c_Key) "group" = some none)
    (a_PowerGroup : PySem.W.nsIn K mainGlobals "PowerGroup" = some (some (.ref c_PowerGroup)))
    (pg_PowerGroup : PySem.W.plainGet K c_PowerGroup Str.empty = true)
    (hd_PowerGroup : PySem.W.hasDictIn K c_PowerGroup = true)
    (po_PowerGroup : PySem.W.plainOver K c_PowerGroup = true)
    (sa_PowerGroup : PySem.W.findIn K (.ref c_PowerGroup) "__setattr__" = some (some (.builtin "object.__setattr__")))
    (mk_PowerGroup : PySem.W.makesIn K c_PowerGroup = true)
    (kc_PowerGroup : PySem.W.keepIn K (.ref c_PowerGroup) = true)
    (in_PowerGroup : PySem.W.findIn K (.ref c_PowerGroup) "__init__" = some (some (.ref f_PowerGroup___init__)))
    (if_PowerGroup : PySem.W.isFn K (.ref f_PowerGroup___init__) = true)
    (e__powers_of_PowerGroup : PySem.W.findIn K (.ref c_PowerGroup) "_powers_of" = some (some (.ref f_Group__powers_of)))
    (g__powers_of_PowerGroup : PySem.W.isFn K (.ref f_Group__powers_of) = true)
    (e_combine_PowerGroup : PySem.W.findIn K (.ref c_PowerGroup) "combine" = some (some (.ref f_Group_combine)))
    (g_combine_PowerGroup : PySem.W.isFn K (.ref f_Group_combine) = true)
    (e_has_PowerGroup : PySem.W.findIn K (.ref c_PowerGroup) "has" = some (some (.ref f_Group_has)))
    (g_has_PowerGroup : PySem.W.isFn K (.ref f_Group_has) = true)
    (e_inverse_of_PowerGroup : PySem.W.findIn K (.ref c_PowerGroup) "inverse_of" = some (some (.ref f_Group_inverse_of)))
    (g_inverse_of_PowerGroup : PySem.W.isFn K (.ref f_Group_inverse_of) = true)
    (e_log_PowerGroup : PySem.W.findIn K (.ref c_PowerGroup) "log" = some (some (.ref f_Group_log)))
    (g_log_PowerGroup : PySem.W.isFn K (.ref f_Group_log) = true)
    (e_multiply_PowerGroup : PySem.W.findIn K (.ref c_PowerGroup) "multiply" = some (some (.ref f_PowerGroup_multiply)))
    (g_multiply_PowerGroup : PySem.W.isFn K (.ref f_PowerGroup_multiply) = true)
    (e_power_PowerGroup : PySem.W.findIn K (.ref c_PowerGroup) "power" = some (some (.ref f_Group_power)))
    (g_power_PowerGroup : PySem.W.isFn K (.ref f_Group_power) = true)
    (n__exponents_PowerGroup : PySem.W.findIn K (.ref c_PowerGroup) "_exponents" = some none)
    (n__powers_PowerGroup : PySem.W.findIn K (.ref c_PowerGroup) "_powers" = some none)
    (n_generator_PowerGroup : PySem.W.findIn K (.ref c_PowerGroup) "generator" = some none)
    (n_members_PowerGroup : PySem.W.findIn K (.ref c_PowerGroup) "members" = some none)
    (n_modulus_PowerGroup : PySem.W.findIn K (.ref c_PowerGroup) "modulus" = some none)
    (n_order_PowerGroup : PySem.W.findIn K (.ref c_PowerGroup) "order" = some none)
    (n_unit_PowerGroup : PySem.W.findIn K (.ref c_PowerGroup) "unit" = some none)
    (a_TableGroup : PySem.W.nsIn K mainGlobals "TableGroup" = some (some (.ref c_TableGroup)))
    (pg_TableGroup : PySem.W.plainGet K c_TableGroup Str.empty = true)
    (hd_TableGroup : PySem.W.hasDictIn K c_TableGroup = true)
    (po_TableGroup : PySem.W.plainOver K c_TableGroup = true)
    (sa_TableGroup : PySem.W.findIn K (.ref c_TableGroup) "__setattr__" = some (some (.builtin "object.__setattr__")))
    (mk_TableGroup : PySem.W.makesIn K c_TableGroup = true)
    (kc_TableGroup : PySem.W.keepIn K (.ref c_TableGroup) = true)
    (in_TableGroup : PySem.W.findIn K (.ref c_TableGroup) "__init__" = some (some (.ref f_TableGroup___init__)))
    (if_TableGroup : PySem.W.isFn K (.ref f_TableGroup___init__) = true)
    (e__powers_of_TableGroup : PySem.W.findIn K (.ref c_TableGroup) "_powers_of" = some (some (.ref f_Group__powers_of)))
    (g__powers_of_TableGroup : PySem.W.isFn K (.ref f_Group__powers_of) = true)
    (e_combine_TableGroup : PySem.W.findIn K (.ref c_TableGroup) "combine" = some (some (.ref f_Group_combine)))
    (g_combine_TableGroup : PySem.W.isFn K (.ref f_Group_combine) = true)
    (e_has_TableGroup : PySem.W.findIn K (.ref c_TableGroup) "has" = some (some (.ref f_Group_has)))
    (g_has_TableGroup : PySem.W.isFn K (.ref f_Group_has) = true)
    (e_inverse_of_TableGroup : PySem.W.findIn K (.ref c_TableGroup) "inverse_of" = some (some (.ref f_Group_inverse_of)))
    (g_inverse_of_TableGroup : PySem.W.isFn K (.ref f_Group_inverse_of) = true)
    (e_log_TableGroup : PySem.W.findIn K (.ref c_TableGroup) "log" = some (some (.ref f_Group_log)))
    (g_log_TableGroup : PySem.W.isFn K (.ref f_Group_log) = true)
    (e_multiply_TableGroup : PySem.W.findIn K (.ref c_TableGroup) "multiply" = some (some (.ref f_TableGroup_multiply)))
    (g_multiply_TableGroup : PySem.W.isFn K (.ref f_TableGroup_multiply) = true)
    (e_power_TableGroup : PySem.W.findIn K (.ref c_TableGroup) "power" = some (some (.ref f_Group_power)))
    (g_power_TableGroup : PySem.W.isFn K (.ref f_Group_power) = true)
    (n__exponents_TableGroup : PySem.W.findIn K (.ref c_TableGroup) "_exponents" = some none)
    (n__powers_TableGroup : PySem.W.findIn K (.ref c_TableGroup) "_powers" = some none)
    (n_generator_TableGroup : PySem.W.findIn K (.ref c_TableGroup) "generator" = some none)
    (n_members_TableGroup : PySem.W.findIn K (.ref c_TableGroup) "members" = some none)
    (n_order_TableGroup : PySem.W.findIn K (.ref c_TableGroup) "order" = some none)
    (n_table_TableGroup : PySem.W.findIn K (.ref c_TableGroup) "table" = some none)
    (n_unit_TableGroup : PySem.W.findIn K (.ref c_TableGroup) "unit" = some none)
    (a_Group : PySem.W.nsIn K mainGlobals "Group" = some (some (.ref c_Group))) (in_Group : PySem.W.findIn K (.ref c_Group) "__init__" = some (some (.ref f_Group___init__)))
    (hfile : (l.prog.main.file == sfile) = true) (htop : (l.prog.main.scope.names.lookup ("super" : Str)).isSome = false)
    (z_all : PySem.W.nsIn K mainGlobals "all" = some none)
    (z_bool : PySem.W.nsIn K mainGlobals "bool" = some none)
    (z_enumerate : PySem.W.nsIn K mainGlobals "enumerate" = some none)
    (z_int : PySem.W.nsIn K mainGlobals "int" = some none)
    (z_isinstance : PySem.W.nsIn K mainGlobals "isinstance" = some none)
    (z_len : PySem.W.nsIn K mainGlobals "len" = some none)
    (z_list : PySem.W.nsIn K mainGlobals "list" = some none)
    (z_range : PySem.W.nsIn K mainGlobals "range" = some none)
    (z_set : PySem.W.nsIn K mainGlobals "set" = some none)
    (z_str : PySem.W.nsIn K mainGlobals "str" = some none)
    (z_super : PySem.W.nsIn K mainGlobals "super" = some none)
    (z_tuple : PySem.W.nsIn K mainGlobals "tuple" = some none)
    (z_zip : PySem.W.nsIn K mainGlobals "zip" = some none)
    
    (a_BadGroup : PySem.W.nsIn K mainGlobals "BadGroup" = some (some (.ref c_BadGroup)))
    (kc_BadGroup : PySem.W.keepIn K (.ref c_BadGroup) = true)
    (s_BadGroup : PySem.W.subIn K (.ref c_BadGroup) (.type "BaseException") = some true)
    (t_BadGroup : PySem.W.typeIn K (.ref c_BadGroup) = some (.type "type"))
    (i_BadGroup : PySem.W.isClsIn K c_BadGroup = true)
    (hd_BadGroup : PySem.W.hasDictIn K c_BadGroup = true)
    (x_BadGroup : PySem.W.excIn K c_BadGroup [.type "ValueError", .type "Exception", .type "BaseException", .type "object"] "ValueError.__new__" = true)
    
    (a_BadKey : PySem.W.nsIn K mainGlobals "BadKey" = some (some (.ref c_BadKey)))
    (kc_BadKey : PySem.W.keepIn K (.ref c_BadKey) = true)
    (s_BadKey : PySem.W.subIn K (.ref c_BadKey) (.type "BaseException") = some true)
    (t_BadKey : PySem.W.typeIn K (.ref c_BadKey) = some (.type "type"))
    (i_BadKey : PySem.W.isClsIn K c_BadKey = true)
    (hd_BadKey : PySem.W.hasDictIn K c_BadKey = true)
    (x_BadKey : PySem.W.excIn K c_BadKey [.type "ValueError", .type "Exception", .type "BaseException", .type "object"] "ValueError.__new__" = true)
    
    (a_NoInverse : PySem.W.nsIn K mainGlobals "NoInverse" = some (some (.ref c_NoInverse)))
    (kc_NoInverse : PySem.W.keepIn K (.ref c_NoInverse) = true)
    (s_NoInverse : PySem.W.subIn K (.ref c_NoInverse) (.type "BaseException") = some true)
    (t_NoInverse : PySem.W.typeIn K (.ref c_NoInverse) = some (.type "type"))
    (i_NoInverse : PySem.W.isClsIn K c_NoInverse = true)
    (hd_NoInverse : PySem.W.hasDictIn K c_NoInverse = true)
    (x_NoInverse : PySem.W.excIn K c_NoInverse [.type "ValueError", .type "Exception", .type "BaseException", .type "object"] "ValueError.__new__" = true)
    
    (a_NoLogarithm : PySem.W.nsIn K mainGlobals "NoLogarithm" = some (some (.ref c_NoLogarithm)))
    (kc_NoLogarithm : PySem.W.keepIn K (.ref c_NoLogarithm) = true)
    (s_NoLogarithm : PySem.W.subIn K (.ref c_NoLogarithm) (.type "BaseException") = some true)
    (t_NoLogarithm : PySem.W.typeIn K (.ref c_NoLogarithm) = some (.type "type"))
    (i_NoLogarithm : PySem.W.isClsIn K c_NoLogarithm = true)
    (hd_NoLogarithm : PySem.W.hasDictIn K c_NoLogarithm = true)
    (x_NoLogarithm : PySem.W.excIn K c_NoLogarithm [.type "ValueError", .type "Exception", .type "BaseException", .type "object"] "ValueError.__new__" = true)
    
    (a_OpenKey : PySem.W.nsIn K mainGlobals "OpenKey" = some (some (.ref c_OpenKey)))
    (kc_OpenKey : PySem.W.keepIn K (.ref c_OpenKey) = true)
    (s_OpenKey : PySem.W.subIn K (.ref c_OpenKey) (.type "BaseException") = some true)
    (t_OpenKey : PySem.W.typeIn K (.ref c_OpenKey) = some (.type "type"))
    (i_OpenKey : PySem.W.isClsIn K c_OpenKey = true)
    (hd_OpenKey : PySem.W.hasDictIn K c_OpenKey = true)
    (x_OpenKey : PySem.W.excIn K c_OpenKey [.type "ValueError", .type "Exception", .type "BaseException", .type "object"] "ValueError.__new__" = true)
    (n_LARGEST_MODULUS : PySem.W.nsIn K mainGlobals "LARGEST_MODULUS" = some (some (.int 1000 t_LARGEST_MODULUS)))
    (n_LARGEST_POWER_ORDER : PySem.W.nsIn K mainGlobals "LARGEST_POWER_ORDER" = some (some (.int 127 t_LARGEST_POWER_ORDER)))
    (n_LARGEST_TABLE_ORDER : PySem.W.nsIn K mainGlobals "LARGEST_TABLE_ORDER" = some (some (.int 13 t_LARGEST_TABLE_ORDER)))
    (n_SMALLEST_ORDER : PySem.W.nsIn K mainGlobals "SMALLEST_ORDER" = some (some (.int 3 t_SMALLEST_ORDER)))
    : ∃ fd : FuncData, (∀ (s : Shared) (v : Value), BindsTo s fd ⟨[v], []⟩ [("script", v)]) ∧ ∀ base : Heap, K.In base → base.Ns mainGlobals mg → FnOk l.prog w K mg base CX0 10 fa fd ["script"] (spLaw K) := by
  have e := hfa.symm.trans (PySem.W.mg_of X G a_law)
  cases e
  let T : Top l.prog K mg := {
                                        f__law_pool := f__law_pool, d__law_pool := _, F__law_pool := fun_mk (st := s_Lpool) l__law_pool c__law_pool k__law_pool, m__law_pool := PySem.W.mg_of X G a__law_pool, b__law_pool := (fun_mk (st := s_Lpool) l__law_pool c__law_pool k__law_pool).binds (ps := ["script"]) (fun _ _ _ _ _ _ us hl => match us, hl with | [_], _ => rfl),
                                        f__law_mixed := f__law_mixed, d__law_mixed := _, F__law_mixed := fun_mk (st := s_Lmixed) l__law_mixed c__law_mixed k__law_mixed, m__law_mixed := PySem.W.mg_of X G a__law_mixed, b__law_mixed := (fun_mk (st := s_Lmixed) l__law_mixed c__law_mixed k__law_mixed).binds (ps := ["number", "turn", "many"]) (fun _ _ _ _ _ _ us hl => match us, hl with | [_, _, _], _ => rfl),
                                        f__law_take := f__law_take, d__law_take := _, F__law_take := fun_mk (st := s_Ltake) l__law_take c__law_take k__law_take, m__law_take := PySem.W.mg_of X G a__law_take, b__law_take := (fun_mk (st := s_Ltake) l__law_take c__law_take k__law_take).binds (ps := ["pool", "many"]) (fun _ _ _ _ _ _ us hl => match us, hl with | [_, _], _ => rfl),
                                        f__law_is_prime := f__law_is_prime, d__law_is_prime := _, F__law_is_prime := fun_mk (st := s_Lis_prime) l__law_is_prime c__law_is_prime k__law_is_prime, m__law_is_prime := PySem.W.mg_of X G a__law_is_prime, b__law_is_prime := (fun_mk (st := s_Lis_prime) l__law_is_prime c__law_is_prime k__law_is_prime).binds (ps := ["n"]) (fun _ _ _ _ _ _ us hl => match us, hl with | [_], _ => rfl),
                                        f__law_order := f__law_order, d__law_order := _, F__law_order := fun_mk (st := s_Lorder) l__law_order c__law_order k__law_order, m__law_order := PySem.W.mg_of X G a__law_order, b__law_order := (fun_mk (st := s_Lorder) l__law_order c__law_order k__law_order).binds (ps := ["pool", "most"]) (fun _ _ _ _ _ _ us hl => match us, hl with | [_, _], _ => rfl),
                                        f__law_modulus := f__law_modulus, d__law_modulus := _, F__law_modulus := fun_mk (st := s_Lmodulus) l__law_modulus c__law_modulus k__law_modulus, m__law_modulus := PySem.W.mg_of X G a__law_modulus, b__law_modulus := (fun_mk (st := s_Lmodulus) l__law_modulus c__law_modulus k__law_modulus).binds (ps := ["pool", "q"]) (fun _ _ _ _ _ _ us hl => match us, hl with | [_, _], _ => rfl),
                                        f__law_power := f__law_power, d__law_power := _, F__law_power := fun_mk (st := s_Lpower) l__law_power c__law_power k__law_power, m__law_power := PySem.W.mg_of X G a__law_power, b__law_power := (fun_mk (st := s_Lpower) l__law_power c__law_power k__law_power).binds (ps := ["x", "e", "p"]) (fun _ _ _ _ _ _ us hl => match us, hl with | [_, _, _], _ => rfl),
                                        f_PowerGroup_multiply := f_PowerGroup_multiply, d_PowerGroup_multiply := _, F_PowerGroup_multiply := fun_mk (st := s_PowerGroup_multiply) l_PowerGroup_multiply c_PowerGroup_multiply k_PowerGroup_multiply, b_PowerGroup_multiply := (fun_mk (st := s_PowerGroup_multiply) l_PowerGroup_multiply c_PowerGroup_multiply k_PowerGroup_multiply).binds (ps := ["self", "first", "second"]) (fun _ _ _ _ _ _ us hl => match us, hl with | [_, _, _], _ => rfl),
                                        f_TableGroup_multiply := f_TableGroup_multiply, d_TableGroup_multiply := _, F_TableGroup_multiply := fun_mk (st := s_TableGroup_multiply) l_TableGroup_multiply c_TableGroup_multiply k_TableGroup_multiply, b_TableGroup_multiply := (fun_mk (st := s_TableGroup_multiply) l_TableGroup_multiply c_TableGroup_multiply k_TableGroup_multiply).binds (ps := ["self", "first", "second"]) (fun _ _ _ _ _ _ us hl => match us, hl with | [_, _, _], _ => rfl),
                                        f_Group__powers_of := f_Group__powers_of, d_Group__powers_of := _, F_Group__powers_of := fun_mk (st := s_Group__powers_of) l_Group__powers_of c_Group__powers_of k_Group__powers_of, b_Group__powers_of := (fun_mk (st := s_Group__powers_of) l_Group__powers_of c_Group__powers_of k_Group__powers_of).binds (ps := ["self", "element"]) (fun _ _ _ _ _ _ us hl => match us, hl with | [_, _], _ => rfl),
                                        f_Group___init__ := f_Group___init__, d_Group___init__ := _, F_Group___init__ := fun_mk (st := s_Group___init__) l_Group___init__ c_Group___init__ k_Group___init__, b_Group___init__ := (fun_mk (st := s_Group___init__) l_Group___init__ c_Group___init__ k_Group___init__).binds (ps := ["self", "order", "unit", "members"]) (fun _ _ _ _ _ _ us hl => match us, hl with | [_, _, _, _], _ => rfl),
                                        f__is_associative := f__is_associative, d__is_associative := _, F__is_associative := fun_mk (st := s__is_associative) l__is_associative c__is_associative k__is_associative, m__is_associative := PySem.W.mg_of X G a__is_associative, b__is_associative := (fun_mk (st := s__is_associative) l__is_associative c__is_associative k__is_associative).binds (ps := ["table"]) (fun _ _ _ _ _ _ us hl => match us, hl with | [_], _ => rfl),
                                        f_is_prime := f_is_prime, d_is_prime := _, F_is_prime := fun_mk (st := s_is_prime) l_is_prime c_is_prime k_is_prime, m_is_prime := PySem.W.mg_of X G a_is_prime, b_is_prime := (fun_mk (st := s_is_prime) l_is_prime c_is_prime k_is_prime).binds (ps := ["n"]) (fun _ _ _ _ _ _ us hl => match us, hl with | [_], _ => rfl),
                                        f_is_tuple_of := f_is_tuple_of, d_is_tuple_of := _, F_is_tuple_of := fun_mk (st := s_is_tuple_of) l_is_tuple_of c_is_tuple_of k_is_tuple_of, m_is_tuple_of := PySem.W.mg_of X G a_is_tuple_of, b_is_tuple_of := (fun_mk (st := s_is_tuple_of) l_is_tuple_of c_is_tuple_of k_is_tuple_of).binds (ps := ["length", "value"]) (fun _ _ _ _ _ _ us hl => match us, hl with | [_, _], _ => rfl),
                                        f_is_residue := f_is_residue, d_is_residue := _, F_is_residue := fun_mk (st := s_is_residue) l_is_residue c_is_residue k_is_residue, m_is_residue := PySem.W.mg_of X G a_is_residue, b_is_residue := (fun_mk (st := s_is_residue) l_is_residue c_is_residue k_is_residue).binds (ps := ["q", "value"]) (fun _ _ _ _ _ _ us hl => match us, hl with | [_, _], _ => rfl),
                                        f_is_residue_row := f_is_residue_row, d_is_residue_row := _, F_is_residue_row := fun_mk (st := s_is_residue_row) l_is_residue_row c_is_residue_row k_is_residue_row, m_is_residue_row := PySem.W.mg_of X G a_is_residue_row, b_is_residue_row := (fun_mk (st := s_is_residue_row) l_is_residue_row c_is_residue_row k_is_residue_row).binds (ps := ["q", "length", "value"]) (fun _ _ _ _ _ _ us hl => match us, hl with | [_, _, _], _ => rfl),
                                        f__is_square := f__is_square, d__is_square := _, F__is_square := fun_mk (st := s__is_square) l__is_square c__is_square k__is_square, m__is_square := PySem.W.mg_of X G a__is_square, b__is_square := (fun_mk (st := s__is_square) l__is_square c__is_square k__is_square).binds (ps := ["table"]) (fun _ _ _ _ _ _ us hl => match us, hl with | [_], _ => rfl),
                                        f__units := f__units, d__units := _, F__units := fun_mk (st := s__units) l__units c__units k__units, m__units := PySem.W.mg_of X G a__units, b__units := (fun_mk (st := s__units) l__units c__units k__units).binds (ps := ["table"]) (fun _ _ _ _ _ _ us hl => match us, hl with | [_], _ => rfl),
                                        f__is_group_table := f__is_group_table, d__is_group_table := _, F__is_group_table := fun_mk (st := s__is_group_table) l__is_group_table c__is_group_table k__is_group_table, m__is_group_table := PySem.W.mg_of X G a__is_group_table, b__is_group_table := (fun_mk (st := s__is_group_table) l__is_group_table c__is_group_table k__is_group_table).binds (ps := ["table"]) (fun _ _ _ _ _ _ us hl => match us, hl with | [_], _ => rfl),
                                        cc_TableGroup___init__ := cc_TableGroup___init__, cda_TableGroup___init__ := cda_TableGroup___init__, f_TableGroup___init__ := f_TableGroup___init__, d_TableGroup___init__ := _, F_TableGroup___init__ := ⟨⟨_, _, _, _, _, _, _, _, rfl, l_TableGroup___init__⟩, c_TableGroup___init__, ⟨_, _, _, x_TableGroup___init__⟩, k_TableGroup___init__⟩, su_TableGroup___init__ := ⟨⟨_, _, _, l_TableGroup___init__⟩, ⟨_, rfl, rfl⟩, ⟨_, _, _, _, _, q_TableGroup___init__, q2_TableGroup___init__⟩, ⟨_, _, _, x_TableGroup___init__⟩, s1_TableGroup___init__, s2_TableGroup___init__, s3_TableGroup___init__, s4_TableGroup___init__, s5_TableGroup___init__⟩, sg_TableGroup___init__ := s6_TableGroup___init__, b_TableGroup___init__ := .all (fun us hl => match us, hl with | [_, _], _ => rfl),
                                        f__law_table := f__law_table, d__law_table := _, F__law_table := fun_mk (st := s_Ltable) l__law_table c__law_table k__law_table, m__law_table := PySem.W.mg_of X G a__law_table, b__law_table := (fun_mk (st := s_Ltable) l__law_table c__law_table k__law_table).binds (ps := ["pool", "q"]) (fun _ _ _ _ _ _ us hl => match us, hl with | [_, _], _ => rfl),
                                        f__has_subgroup := f__has_subgroup, d__has_subgroup := _, F__has_subgroup := fun_mk (st := s__has_subgroup) l__has_subgroup c__has_subgroup k__has_subgroup, m__has_subgroup := PySem.W.mg_of X G a__has_subgroup, b__has_subgroup := (fun_mk (st := s__has_subgroup) l__has_subgroup c__has_subgroup k__has_subgroup).binds (ps := ["modulus", "order"]) (fun _ _ _ _ _ _ us hl => match us, hl with | [_, _], _ => rfl),
                                        f__power_modulo := f__power_modulo, d__power_modulo := _, F__power_modulo := fun_mk (st := s__power_modulo) l__power_modulo c__power_modulo k__power_modulo, m__power_modulo := PySem.W.mg_of X G a__power_modulo, b__power_modulo := (fun_mk (st := s__power_modulo) l__power_modulo c__power_modulo k__power_modulo).binds (ps := ["number", "exponent", "modulus"]) (fun _ _ _ _ _ _ us hl => match us, hl with | [_, _, _], _ => rfl),
                                        cc_PowerGroup___init__ := cc_PowerGroup___init__, cda_PowerGroup___init__ := cda_PowerGroup___init__, f_PowerGroup___init__ := f_PowerGroup___init__, d_PowerGroup___init__ := _, F_PowerGroup___init__ := ⟨⟨_, _, _, _, _, _, _, _, rfl, l_PowerGroup___init__⟩, c_PowerGroup___init__, ⟨_, _, _, x_PowerGroup___init__⟩, k_PowerGroup___init__⟩, su_PowerGroup___init__ := ⟨⟨_, _, _, l_PowerGroup___init__⟩, ⟨_, rfl, rfl⟩, ⟨_, _, _, _, _, q_PowerGroup___init__, q2_PowerGroup___init__⟩, ⟨_, _, _, x_PowerGroup___init__⟩, s1_PowerGroup___init__, s2_PowerGroup___init__, s3_PowerGroup___init__, s4_PowerGroup___init__, s5_PowerGroup___init__⟩, sg_PowerGroup___init__ := s6_PowerGroup___init__, b_PowerGroup___init__ := .all (fun us hl => match us, hl with | [_, _, _], _ => rfl),
                                        f__law_group := f__law_group, d__law_group := _, F__law_group := fun_mk (st := s_Lgroup) l__law_group c__law_group k__law_group, m__law_group := PySem.W.mg_of X G a__law_group, b__law_group := (fun_mk (st := s_Lgroup) l__law_group c__law_group k__law_group).binds (ps := ["pool", "q"]) (fun _ _ _ _ _ _ us hl => match us, hl with | [_, _], _ => rfl),
                                        f__law_world := f__law_world, d__law_world := _, F__law_world := fun_mk (st := s_Lworld) l__law_world c__law_world k__law_world, m__law_world := PySem.W.mg_of X G a__law_world, b__law_world := (fun_mk (st := s_Lworld) l__law_world c__law_world k__law_world).binds (ps := ["pool", "most"]) (fun _ _ _ _ _ _ us hl => match us, hl with | [_, _], _ => rfl),
                                        f_inverse := f_inverse, d_inverse := _, F_inverse := fun_mk (st := s_inverse) l_inverse c_inverse k_inverse, m_inverse := PySem.W.mg_of X G a_inverse, b_inverse := (fun_mk (st := s_inverse) l_inverse c_inverse k_inverse).binds (ps := ["a", "q"]) (fun _ _ _ _ _ _ us hl => match us, hl with | [_, _], _ => rfl),
                                        f_Group_log := f_Group_log, d_Group_log := _, F_Group_log := fun_mk (st := s_Group_log) l_Group_log c_Group_log k_Group_log, b_Group_log := (fun_mk (st := s_Group_log) l_Group_log c_Group_log k_Group_log).binds (ps := ["self", "base", "element"]) (fun _ _ _ _ _ _ us hl => match us, hl with | [_, _, _], _ => rfl),
                                        f_Group_has := f_Group_has, d_Group_has := _, F_Group_has := fun_mk (st := s_Group_has) l_Group_has c_Group_has k_Group_has, b_Group_has := (fun_mk (st := s_Group_has) l_Group_has c_Group_has k_Group_has).binds (ps := ["self", "value"]) (fun _ _ _ _ _ _ us hl => match us, hl with | [_, _], _ => rfl),
                                        f_Key___init__ := f_Key___init__, d_Key___init__ := _, F_Key___init__ := fun_mk (st := s_Key___init__) l_Key___init__ c_Key___init__ k_Key___init__, b_Key___init__ := (fun_mk (st := s_Key___init__) l_Key___init__ c_Key___init__ k_Key___init__).binds (ps := ["self", "group", "base", "blind_base"]) (fun _ _ _ _ _ _ us hl => match us, hl with | [_, _, _, _], _ => rfl),
                                        f__law_member := f__law_member, d__law_member := _, F__law_member := fun_mk (st := s_Lmember) l__law_member c__law_member k__law_member, m__law_member := PySem.W.mg_of X G a__law_member, b__law_member := (fun_mk (st := s_Lmember) l__law_member c__law_member k__law_member).binds (ps := ["world", "e"]) (fun _ _ _ _ _ _ us hl => match us, hl with | [_, _], _ => rfl),
                                        f__law_key := f__law_key, d__law_key := _, F__law_key := fun_mk (st := s_Lkey) l__law_key c__law_key k__law_key, m__law_key := PySem.W.mg_of X G a__law_key, b__law_key := (fun_mk (st := s_Lkey) l__law_key c__law_key k__law_key).binds (ps := ["pool", "world", "hiding"]) (fun _ _ _ _ _ _ us hl => match us, hl with | [_, _, _], _ => rfl),
                                        f__law_number := f__law_number, d__law_number := _, F__law_number := fun_mk (st := s_Lnumber) l__law_number c__law_number k__law_number, m__law_number := PySem.W.mg_of X G a__law_number, b__law_number := (fun_mk (st := s_Lnumber) l__law_number c__law_number k__law_number).binds (ps := ["pool", "q"]) (fun _ _ _ _ _ _ us hl => match us, hl with | [_, _], _ => rfl),
                                        f__law_inverse := f__law_inverse, d__law_inverse := _, F__law_inverse := fun_mk (st := s_Linverse) l__law_inverse c__law_inverse k__law_inverse, m__law_inverse := PySem.W.mg_of X G a__law_inverse, b__law_inverse := (fun_mk (st := s_Linverse) l__law_inverse c__law_inverse k__law_inverse).binds (ps := ["a", "q"]) (fun _ _ _ _ _ _ us hl => match us, hl with | [_, _], _ => rfl),
                                        f__law_blind := f__law_blind, d__law_blind := _, F__law_blind := fun_mk (st := s_Lblind) l__law_blind c__law_blind k__law_blind, m__law_blind := PySem.W.mg_of X G a__law_blind, b__law_blind := (fun_mk (st := s_Lblind) l__law_blind c__law_blind k__law_blind).binds (ps := ["world", "e", "value"]) (fun _ _ _ _ _ _ us hl => match us, hl with | [_, _, _], _ => rfl),
                                        f__law_same := f__law_same, d__law_same := _, F__law_same := fun_mk (st := s_Lsame) l__law_same c__law_same k__law_same, m__law_same := PySem.W.mg_of X G a__law_same, b__law_same := (fun_mk (st := s_Lsame) l__law_same c__law_same k__law_same).binds (ps := ["actual", "due"]) (fun _ _ _ _ _ _ us hl => match us, hl with | [_, _], _ => rfl),
                                        f_Group_combine := f_Group_combine, d_Group_combine := _, F_Group_combine := fun_mk (st := s_Group_combine) l_Group_combine c_Group_combine k_Group_combine, b_Group_combine := (fun_mk (st := s_Group_combine) l_Group_combine c_Group_combine k_Group_combine).binds (ps := ["self", "factors", "exponents"]) (fun _ _ _ _ _ _ us hl => match us, hl with | [_, _, _], _ => rfl),
                                        f_Key_cover := f_Key_cover, d_Key_cover := _, F_Key_cover := fun_mk (st := s_Key_cover) l_Key_cover c_Key_cover k_Key_cover, b_Key_cover := (fun_mk (st := s_Key_cover) l_Key_cover c_Key_cover k_Key_cover).binds (ps := ["self", "value", "blind"]) (fun _ _ _ _ _ _ us hl => match us, hl with | [_, _, _], _ => rfl),
                                        f_Key_opens := f_Key_opens, d_Key_opens := _, F_Key_opens := fun_mk (st := s_Key_opens) l_Key_opens c_Key_opens k_Key_opens, b_Key_opens := (fun_mk (st := s_Key_opens) l_Key_opens c_Key_opens k_Key_opens).binds (ps := ["self", "cover", "value", "blind"]) (fun _ _ _ _ _ _ us hl => match us, hl with | [_, _, _, _], _ => rfl),
                                        f_Group_power := f_Group_power, d_Group_power := _, F_Group_power := fun_mk (st := s_Group_power) l_Group_power c_Group_power k_Group_power, b_Group_power := (fun_mk (st := s_Group_power) l_Group_power c_Group_power k_Group_power).binds (ps := ["self", "element", "exponent"]) (fun _ _ _ _ _ _ us hl => match us, hl with | [_, _, _], _ => rfl),
                                        f_Group_inverse_of := f_Group_inverse_of, d_Group_inverse_of := _, F_Group_inverse_of := fun_mk (st := s_Group_inverse_of) l_Group_inverse_of c_Group_inverse_of k_Group_inverse_of, b_Group_inverse_of := (fun_mk (st := s_Group_inverse_of) l_Group_inverse_of c_Group_inverse_of k_Group_inverse_of).binds (ps := ["self", "element"]) (fun _ _ _ _ _ _ us hl => match us, hl with | [_, _], _ => rfl),
                                        f_divide := f_divide, d_divide := _, F_divide := fun_mk (st := s_divide) l_divide c_divide k_divide, m_divide := PySem.W.mg_of X G a_divide, b_divide := (fun_mk (st := s_divide) l_divide c_divide k_divide).binds (ps := ["group", "first", "second"]) (fun _ _ _ _ _ _ us hl => match us, hl with | [_, _, _], _ => rfl),
                                        f_Key_hiding := f_Key_hiding, d_Key_hiding := _, F_Key_hiding := fun_mk (st := s_Key_hiding) l_Key_hiding c_Key_hiding k_Key_hiding, b_Key_hiding := (fun_mk (st := s_Key_hiding) l_Key_hiding c_Key_hiding k_Key_hiding).binds (ps := ["self"]) (fun _ _ _ _ _ _ us hl => match us, hl with | [_], _ => rfl),
                                        f_Key_blind_for := f_Key_blind_for, d_Key_blind_for := _, F_Key_blind_for := fun_mk (st := s_Key_blind_for) l_Key_blind_for c_Key_blind_for k_Key_blind_for, b_Key_blind_for := (fun_mk (st := s_Key_blind_for) l_Key_blind_for c_Key_blind_for k_Key_blind_for).binds (ps := ["self", "cover", "value"]) (fun _ _ _ _ _ _ us hl => match us, hl with | [_, _, _], _ => rfl),
                                        f_Key_count_openings := f_Key_count_openings, d_Key_count_openings := _, F_Key_count_openings := fun_mk (st := s_Key_count_openings) l_Key_count_openings c_Key_count_openings k_Key_count_openings, b_Key_count_openings := (fun_mk (st := s_Key_count_openings) l_Key_count_openings c_Key_count_openings k_Key_count_openings).binds (ps := ["self", "cover", "value"]) (fun _ _ _ _ _ _ us hl => match us, hl with | [_, _, _], _ => rfl),
                                        f_law := fa, d_law := _, F_law := fun_mk (st := s_law) l_law c_law k_law, m_law := PySem.W.mg_of X G a_law, b_law := (fun_mk (st := s_law) l_law c_law k_law).binds (ps := ["script"]) (fun _ _ _ _ _ _ us hl => match us, hl with | [_], _ => rfl),
                                        c_Key := c_Key, m_Key := PySem.W.mg_of X G a_Key, cls_Key := ⟨pg_Key, hd_Key, po_Key, sa_Key⟩, mk_Key := ⟨mk_Key, in_Key, if_Key, kc_Key⟩,
                                        me_Key_blind_for := ⟨e_blind_for_Key, g_blind_for_Key, k_Key_blind_for⟩,
                                        me_Key_count_openings := ⟨e_count_openings_Key, g_count_openings_Key, k_Key_count_openings⟩,
                                        me_Key_cover := ⟨e_cover_Key, g_cover_Key, k_Key_cover⟩,
                                        me_Key_opens := ⟨e_opens_Key, g_opens_Key, k_Key_opens⟩,
                                        p_Key_hiding := p_Key_hiding, po_Key_hiding := ⟨ya_hiding_Key, yg_hiding_Key, yt_hiding_Key, _, yc_hiding_Key⟩,
                                        na_Key__relation := n__relation_Key,
                                        na_Key_base := n_base_Key,
                                        na_Key_blind_base := n_blind_base_Key,
                                        na_Key_group := n_group_Key,
                                        c_PowerGroup := c_PowerGroup, m_PowerGroup := PySem.W.mg_of X G a_PowerGroup, cls_PowerGroup := ⟨pg_PowerGroup, hd_PowerGroup, po_PowerGroup, sa_PowerGroup⟩, mk_PowerGroup := ⟨mk_PowerGroup, in_PowerGroup, if_PowerGroup, kc_PowerGroup⟩,
                                        me_PowerGroup__powers_of := ⟨e__powers_of_PowerGroup, g__powers_of_PowerGroup, k_Group__powers_of⟩,
                                        me_PowerGroup_combine := ⟨e_combine_PowerGroup, g_combine_PowerGroup, k_Group_combine⟩,
                                        me_PowerGroup_has := ⟨e_has_PowerGroup, g_has_PowerGroup, k_Group_has⟩,
                                        me_PowerGroup_inverse_of := ⟨e_inverse_of_PowerGroup, g_inverse_of_PowerGroup, k_Group_inverse_of⟩,
                                        me_PowerGroup_log := ⟨e_log_PowerGroup, g_log_PowerGroup, k_Group_log⟩,
                                        me_PowerGroup_multiply := ⟨e_multiply_PowerGroup, g_multiply_PowerGroup, k_PowerGroup_multiply⟩,
                                        me_PowerGroup_power := ⟨e_power_PowerGroup, g_power_PowerGroup, k_Group_power⟩,
                                        na_PowerGroup__exponents := n__exponents_PowerGroup,
                                        na_PowerGroup__powers := n__powers_PowerGroup,
                                        na_PowerGroup_generator := n_generator_PowerGroup,
                                        na_PowerGroup_members := n_members_PowerGroup,
                                        na_PowerGroup_modulus := n_modulus_PowerGroup,
                                        na_PowerGroup_order := n_order_PowerGroup,
                                        na_PowerGroup_unit := n_unit_PowerGroup,
                                        c_TableGroup := c_TableGroup, m_TableGroup := PySem.W.mg_of X G a_TableGroup, cls_TableGroup := ⟨pg_TableGroup, hd_TableGroup, po_TableGroup, sa_TableGroup⟩, mk_TableGroup := ⟨mk_TableGroup, in_TableGroup, if_TableGroup, kc_TableGroup⟩,
                                        me_TableGroup__powers_of := ⟨e__powers_of_TableGroup, g__powers_of_TableGroup, k_Group__powers_of⟩,
                                        me_TableGroup_combine := ⟨e_combine_TableGroup, g_combine_TableGroup, k_Group_combine⟩,
                                        me_TableGroup_has := ⟨e_has_TableGroup, g_has_TableGroup, k_Group_has⟩,
                                        me_TableGroup_inverse_of := ⟨e_inverse_of_TableGroup, g_inverse_of_TableGroup, k_Group_inverse_of⟩,
                                        me_TableGroup_log := ⟨e_log_TableGroup, g_log_TableGroup, k_Group_log⟩,
                                        me_TableGroup_multiply := ⟨e_multiply_TableGroup, g_multiply_TableGroup, k_TableGroup_multiply⟩,
                                        me_TableGroup_power := ⟨e_power_TableGroup, g_power_TableGroup, k_Group_power⟩,
                                        na_TableGroup__exponents := n__exponents_TableGroup,
                                        na_TableGroup__powers := n__powers_TableGroup,
                                        na_TableGroup_generator := n_generator_TableGroup,
                                        na_TableGroup_members := n_members_TableGroup,
                                        na_TableGroup_order := n_order_TableGroup,
                                        na_TableGroup_table := n_table_TableGroup,
                                        na_TableGroup_unit := n_unit_TableGroup,
                                        hfile := hfile, htop := htop,
                                        k_Key_blind_for_1_cover_value := fun_kbinds (fun_mk (st := s_Key_blind_for) l_Key_blind_for c_Key_blind_for k_Key_blind_for) g_Key_blind_for_1_cover_value_rel (fun _ _ _ _ _ _ us ws hl => match us, ws, hl with | [_], [_, _], _ => rfl),
                                        k_Key_count_openings_1_cover_value := fun_kbinds (fun_mk (st := s_Key_count_openings) l_Key_count_openings c_Key_count_openings k_Key_count_openings) g_Key_count_openings_1_cover_value_rel (fun _ _ _ _ _ _ us ws hl => match us, ws, hl with | [_], [_, _], _ => rfl),
                                        k_Key_opens_1_cover_value_blind := fun_kbinds (fun_mk (st := s_Key_opens) l_Key_opens c_Key_opens k_Key_opens) g_Key_opens_1_cover_value_blind_rel (fun _ _ _ _ _ _ us ws hl => match us, ws, hl with | [_], [_, _, _], _ => rfl),
                                        z_all := PySem.W.mg_none_of X G z_all,
                                        z_bool := PySem.W.mg_none_of X G z_bool,
                                        z_enumerate := PySem.W.mg_none_of X G z_enumerate,
                                        z_int := PySem.W.mg_none_of X G z_int,
                                        z_isinstance := PySem.W.mg_none_of X G z_isinstance,
                                        z_len := PySem.W.mg_none_of X G z_len,
                                        z_list := PySem.W.mg_none_of X G z_list,
                                        z_range := PySem.W.mg_none_of X G z_range,
                                        z_set := PySem.W.mg_none_of X G z_set,
                                        z_str := PySem.W.mg_none_of X G z_str,
                                        z_super := PySem.W.mg_none_of X G z_super,
                                        z_tuple := PySem.W.mg_none_of X G z_tuple,
                                        z_zip := PySem.W.mg_none_of X G z_zip,
                                        c_BadGroup := c_BadGroup,
                                        m_BadGroup := PySem.W.mg_of X G a_BadGroup,
                                        kc_BadGroup := kc_BadGroup,
                                        s_BadGroup := s_BadGroup,
                                        t_BadGroup := t_BadGroup,
                                        i_BadGroup := i_BadGroup,
                                        hd_BadGroup := hd_BadGroup,
                                        x_BadGroup := x_BadGroup,
                                        c_BadKey := c_BadKey,
                                        m_BadKey := PySem.W.mg_of X G a_BadKey,
                                        kc_BadKey := kc_BadKey,
                                        s_BadKey := s_BadKey,
                                        t_BadKey := t_BadKey,
                                        i_BadKey := i_BadKey,
                                        hd_BadKey := hd_BadKey,
                                        x_BadKey := x_BadKey,
                                        c_NoInverse := c_NoInverse,
                                        m_NoInverse := PySem.W.mg_of X G a_NoInverse,
                                        kc_NoInverse := kc_NoInverse,
                                        s_NoInverse := s_NoInverse,
                                        t_NoInverse := t_NoInverse,
                                        i_NoInverse := i_NoInverse,
                                        hd_NoInverse := hd_NoInverse,
                                        x_NoInverse := x_NoInverse,
                                        c_NoLogarithm := c_NoLogarithm,
                                        m_NoLogarithm := PySem.W.mg_of X G a_NoLogarithm,
                                        kc_NoLogarithm := kc_NoLogarithm,
                                        s_NoLogarithm := s_NoLogarithm,
                                        t_NoLogarithm := t_NoLogarithm,
                                        i_NoLogarithm := i_NoLogarithm,
                                        hd_NoLogarithm := hd_NoLogarithm,
                                        x_NoLogarithm := x_NoLogarithm,
                                        c_OpenKey := c_OpenKey,
                                        m_OpenKey := PySem.W.mg_of X G a_OpenKey,
                                        kc_OpenKey := kc_OpenKey,
                                        s_OpenKey := s_OpenKey,
                                        t_OpenKey := t_OpenKey,
                                        i_OpenKey := i_OpenKey,
                                        hd_OpenKey := hd_OpenKey,
                                        x_OpenKey := x_OpenKey,
                                        n_LARGEST_MODULUS := ⟨_, PySem.W.mg_of X G n_LARGEST_MODULUS⟩,
                                        n_LARGEST_POWER_ORDER := ⟨_, PySem.W.mg_of X G n_LARGEST_POWER_ORDER⟩,
                                        n_LARGEST_TABLE_ORDER := ⟨_, PySem.W.mg_of X G n_LARGEST_TABLE_ORDER⟩,
                                        n_SMALLEST_ORDER := ⟨_, PySem.W.mg_of X G n_SMALLEST_ORDER⟩ }
  refine ⟨T.d_law, fun s v => .of_eq rfl, fun base _ _ => ?_⟩
  exact ok_law T law_true
theorem walk {l : PySem.W.OpenLaw} {q : Program} {loose : List Str} {XP : (Str → Option Value) → Heap → Prop} {YP : World → Heap → Prop} {d : DefRec} {K : Params → PySem.W.Frag} (hn : l.most = some 63) (hdf : d.params.defaults = [])
    (hY : ∀ (w : World) (h : Heap), YP w h → (K w.params).In h)
    (F : ∀ (w : World) (mg : Str → Option Value) (fa : Addr) (h : Heap), (K w.params).In h → h.Ns mainGlobals mg → mg d.name = some (.ref fa) →
      ∃ fd : FuncData, (∀ (s : Shared) (u : Value), BindsTo s fd ⟨[u], []⟩ [("script", u)]) ∧ ∀ base : Heap, (K w.params).In base → base.Ns mainGlobals mg → FnOk l.prog w (K w.params) mg base CX0 10 fa fd ["script"] (spLaw (K w.params))) :
    PySem.W.WalkO q loose XP YP l.row.toRowW d [] (fun f vs => PySem.call f vs) :=
  L2.walk_of (n := 63) (k := 10) (x := "script") (CX := fun _ => CX0) (sp := fun w => spLaw (K w.params)) hn (by decide) hdf ⟨rfl, by decide, by decide⟩ hY F (fun _ _ a ns hl _ hS => ⟨a, ns, rfl, hS, hl, fun _ => rfl⟩) fun _ _ _ _ _ z => z
end Toy
open PySem PySem.W PyProof.Rows
set_option maxRecDepth 100000 in
set_option maxHeartbeats 0 in
theorem PySem.Challenge.cw_hushpapers_k13_hiding_keys_have_one_blin_holds : PySem.Challenge.rw_hushpapers_k13_hiding_keys_have_one_blin.Holds := by
  w_on; o_law; k_head; (case hw => w_witness2)
  k_fill
  refine Toy.walk (l := PySem.Challenge.rw_hushpapers_k13_hiding_keys_have_one_blin) rfl rfl (fun w h Y => PySem.W.kIn_of Y) ?F
  case F =>
    intro w mg fa h KX G hmg
    refine' Toy.all_mk KX G hmg ?a__law_pool ?l__law_pool ?c__law_pool ?k__law_pool ?a__law_mixed ?l__law_mixed ?c__law_mixed ?k__law_mixed ?a__law_take ?l__law_take ?c__law_take ?k__law_take ?a__law_is_prime ?l__law_is_prime ?c__law_is_prime ?k__law_is_prime ?a__law_order ?l__law_order ?c__law_order ?k__law_order ?a__law_modulus ?l__law_modulus ?c__law_modulus ?k__law_modulus ?a__law_power ?l__law_power ?c__law_power ?k__law_power ?l_PowerGroup_multiply ?c_PowerGroup_multiply ?k_PowerGroup_multiply ?l_TableGroup_multiply ?c_TableGroup_multiply ?k_TableGroup_multiply ?l_Group__powers_of ?c_Group__powers_of ?k_Group__powers_of ?l_Group___init__ ?c_Group___init__ ?k_Group___init__ ?a__is_associative ?l__is_associative ?c__is_associative ?k__is_associative ?a_is_prime ?l_is_prime ?c_is_prime ?k_is_prime ?a_is_tuple_of ?l_is_tuple_of ?c_is_tuple_of ?k_is_tuple_of ?a_is_residue ?l_is_residue ?c_is_residue ?k_is_residue ?a_is_residue_row ?l_is_residue_row ?c_is_residue_row ?k_is_residue_row ?a__is_square ?l__is_square ?c__is_square ?k__is_square ?a__units ?l__units ?c__units ?k__units ?a__is_group_table ?l__is_group_table ?c__is_group_table ?k__is_group_table ?l_TableGroup___init__ ?c_TableGroup___init__ ?k_TableGroup___init__ ?x_TableGroup___init__ ?q_TableGroup___init__ ?q2_TableGroup___init__ ?s1_TableGroup___init__ ?s2_TableGroup___init__ ?s3_TableGroup___init__ ?s4_TableGroup___init__ ?s5_TableGroup___init__ ?s6_TableGroup___init__ ?a__law_table ?l__law_table ?c__law_table ?k__law_table ?a__has_subgroup ?l__has_subgroup ?c__has_subgroup ?k__has_subgroup ?a__power_modulo ?l__power_modulo ?c__power_modulo ?k__power_modulo ?l_PowerGroup___init__ ?c_PowerGroup___init__ ?k_PowerGroup___init__ ?x_PowerGroup___init__ ?q_PowerGroup___init__ ?q2_PowerGroup___init__ ?s1_PowerGroup___init__ ?s2_PowerGroup___init__ ?s3_PowerGroup___init__ ?s4_PowerGroup___init__ ?s5_PowerGroup___init__ ?s6_PowerGroup___init__ ?a__law_group ?l__law_group ?c__law_group ?k__law_group ?a__law_world ?l__law_world ?c__law_world ?k__law_world ?a_inverse ?l_inverse ?c_inverse ?k_inverse ?l_Group_log ?c_Group_log ?k_Group_log ?l_Group_has ?c_Group_has ?k_Group_has ?l_Key___init__ ?c_Key___init__ ?k_Key___init__ ?a__law_member ?l__law_member ?c__law_member ?k__law_member ?a__law_key ?l__law_key ?c__law_key ?k__law_key ?a__law_number ?l__law_number ?c__law_number ?k__law_number ?a__law_inverse ?l__law_inverse ?c__law_inverse ?k__law_inverse ?a__law_blind ?l__law_blind ?c__law_blind ?k__law_blind ?a__law_same ?l__law_same ?c__law_same ?k__law_same ?l_Group_combine ?c_Group_combine ?k_Group_combine ?l_Key_cover ?c_Key_cover ?k_Key_cover ?l_Key_opens ?c_Key_opens ?k_Key_opens ?l_Group_power ?c_Group_power ?k_Group_power ?l_Group_inverse_of ?c_Group_inverse_of ?k_Group_inverse_of ?a_divide ?l_divide ?c_divide ?k_divide ?l_Key_hiding ?c_Key_hiding ?k_Key_hiding ?l_Key_blind_for ?c_Key_blind_for ?k_Key_blind_for ?l_Key_count_openings ?c_Key_count_openings ?k_Key_count_openings ?a_law ?l_law ?c_law ?k_law ?a_Key ?pg_Key ?hd_Key ?po_Key ?sa_Key ?mk_Key ?kc_Key ?in_Key ?if_Key ?e_blind_for_Key ?g_blind_for_Key ?e_count_openings_Key ?g_count_openings_Key ?e_cover_Key ?g_cover_Key ?e_opens_Key ?g_opens_Key ?ya_hiding_Key ?yg_hiding_Key ?yt_hiding_Key ?yc_hiding_Key ?n__relation_Key ?n_base_Key ?n_blind_base_Key ?n_group_Key ?a_PowerGroup ?pg_PowerGroup ?hd_PowerGroup ?po_PowerGroup ?sa_PowerGroup ?mk_PowerGroup ?kc_PowerGroup ?in_PowerGroup ?if_PowerGroup ?e__powers_of_PowerGroup ?g__powers_of_PowerGroup ?e_combine_PowerGroup ?g_combine_PowerGroup ?e_has_PowerGroup ?g_has_PowerGroup ?e_inverse_of_PowerGroup ?g_inverse_of_PowerGroup ?e_log_PowerGroup ?g_log_PowerGroup ?e_multiply_PowerGroup ?g_multiply_PowerGroup ?e_power_PowerGroup ?g_power_PowerGroup ?n__exponents_PowerGroup ?n__powers_PowerGroup ?n_generator_PowerGroup ?n_members_PowerGroup ?n_modulus_PowerGroup ?n_order_PowerGroup ?n_unit_PowerGroup ?a_TableGroup ?pg_TableGroup ?hd_TableGroup ?po_TableGroup ?sa_TableGroup ?mk_TableGroup ?kc_TableGroup ?in_TableGroup ?if_TableGroup ?e__powers_of_TableGroup ?g__powers_of_TableGroup ?e_combine_TableGroup ?g_combine_TableGroup ?e_has_TableGroup ?g_has_TableGroup ?e_inverse_of_TableGroup ?g_inverse_of_TableGroup ?e_log_TableGroup ?g_log_TableGroup ?e_multiply_TableGroup ?g_multiply_TableGroup ?e_power_TableGroup ?g_power_TableGroup ?n__exponents_TableGroup ?n__powers_TableGroup ?n_generator_TableGroup ?n_members_TableGroup ?n_order_TableGroup ?n_table_TableGroup ?n_unit_TableGroup ?a_Group ?in_Group ?hfile ?htop ?z_all ?z_bool ?z_enumerate ?z_int ?z_isinstance ?z_len ?z_list ?z_range ?z_set ?z_str ?z_super ?z_tuple ?z_zip ?a_BadGroup ?kc_BadGroup ?s_BadGroup ?t_BadGroup ?i_BadGroup ?hd_BadGroup ?x_BadGroup ?a_BadKey ?kc_BadKey ?s_BadKey ?t_BadKey ?i_BadKey ?hd_BadKey ?x_BadKey ?a_NoInverse ?kc_NoInverse ?s_NoInverse ?t_NoInverse ?i_NoInverse ?hd_NoInverse ?x_NoInverse ?a_NoLogarithm ?kc_NoLogarithm ?s_NoLogarithm ?t_NoLogarithm ?i_NoLogarithm ?hd_NoLogarithm ?x_NoLogarithm ?a_OpenKey ?kc_OpenKey ?s_OpenKey ?t_OpenKey ?i_OpenKey ?hd_OpenKey ?x_OpenKey ?n_LARGEST_MODULUS ?n_LARGEST_POWER_ORDER ?n_LARGEST_TABLE_ORDER ?n_SMALLEST_ORDER
    (case a__law_pool => k_is)
    (case a__law_mixed => k_is)
    (case a__law_take => k_is)
    (case a__law_is_prime => k_is)
    (case a__law_order => k_is)
    (case a__law_modulus => k_is)
    (case a__law_power => k_is)
    (case a__is_associative => k_is)
    (case a_is_prime => k_is)
    (case a_is_tuple_of => k_is)
    (case a_is_residue => k_is)
    (case a_is_residue_row => k_is)
    (case a__is_square => k_is)
    (case a__units => k_is)
    (case a__is_group_table => k_is)
    (case a__law_table => k_is)
    (case a__has_subgroup => k_is)
    (case a__power_modulo => k_is)
    (case a__law_group => k_is)
    (case a__law_world => k_is)
    (case a_inverse => k_is)
    (case a__law_member => k_is)
    (case a__law_key => k_is)
    (case a__law_number => k_is)
    (case a__law_inverse => k_is)
    (case a__law_blind => k_is)
    (case a__law_same => k_is)
    (case a_divide => k_is)
    (case a_law => k_is)
    (case a_Key => k_is)
    (case a_PowerGroup => k_is)
    (case a_TableGroup => k_is)
    (case a_Group => k_is)
    (case a_BadGroup => k_is)
    (case a_BadKey => k_is)
    (case a_NoInverse => k_is)
    (case a_NoLogarithm => k_is)
    (case a_OpenKey => k_is)
    (case in_Key => k_is)
    (case e_blind_for_Key => k_is)
    (case e_count_openings_Key => k_is)
    (case e_cover_Key => k_is)
    (case e_opens_Key => k_is)
    (case ya_hiding_Key => k_is)
    (case in_PowerGroup => k_is)
    (case e__powers_of_PowerGroup => k_is)
    (case e_combine_PowerGroup => k_is)
    (case e_has_PowerGroup => k_is)
    (case e_inverse_of_PowerGroup => k_is)
    (case e_log_PowerGroup => k_is)
    (case e_multiply_PowerGroup => k_is)
    (case e_power_PowerGroup => k_is)
    (case in_TableGroup => k_is)
    (case e__powers_of_TableGroup => k_is)
    (case e_combine_TableGroup => k_is)
    (case e_has_TableGroup => k_is)
    (case e_inverse_of_TableGroup => k_is)
    (case e_log_TableGroup => k_is)
    (case e_multiply_TableGroup => k_is)
    (case e_power_TableGroup => k_is)
    (case in_Group => k_is)
    (case s3_TableGroup___init__ => rfl)
    (case s3_PowerGroup___init__ => rfl)
    (case yc_hiding_Key => k_is)
    (case l__law_pool => k_is)
    (case l__law_mixed => k_is)
    (case l__law_take => k_is)
    (case l__law_is_prime => k_is)
    (case l__law_order => k_is)
    (case l__law_modulus => k_is)
    (case l__law_power => k_is)
    (case l_PowerGroup_multiply => k_is)
    (case l_TableGroup_multiply => k_is)
    (case l_Group__powers_of => k_is)
    (case l_Group___init__ => k_is)
    (case l__is_associative => k_is)
    (case l_is_prime => k_is)
    (case l_is_tuple_of => k_is)
    (case l_is_residue => k_is)
    (case l_is_residue_row => k_is)
    (case l__is_square => k_is)
    (case l__units => k_is)
    (case l__is_group_table => k_is)
    (case l_TableGroup___init__ => k_is)
    (case l__law_table => k_is)
    (case l__has_subgroup => k_is)
    (case l__power_modulo => k_is)
    (case l_PowerGroup___init__ => k_is)
    (case l__law_group => k_is)
    (case l__law_world => k_is)
    (case l_inverse => k_is)
    (case l_Group_log => k_is)
    (case l_Group_has => k_is)
    (case l_Key___init__ => k_is)
    (case l__law_member => k_is)
    (case l__law_key => k_is)
    (case l__law_number => k_is)
    (case l__law_inverse => k_is)
    (case l__law_blind => k_is)
    (case l__law_same => k_is)
    (case l_Group_combine => k_is)
    (case l_Key_cover => k_is)
    (case l_Key_opens => k_is)
    (case l_Group_power => k_is)
    (case l_Group_inverse_of => k_is)
    (case l_divide => k_is)
    (case l_Key_hiding => k_is)
    (case l_Key_blind_for => k_is)
    (case l_Key_count_openings => k_is)
    (case l_law => k_is)
    (case c__law_pool => k_is)
    (case k__law_pool => k_is)
    (case c__law_mixed => k_is)
    (case k__law_mixed => k_is)
    (case c__law_take => k_is)
    (case k__law_take => k_is)
    (case c__law_is_prime => k_is)
    (case k__law_is_prime => k_is)
    (case c__law_order => k_is)
    (case k__law_order => k_is)
    (case c__law_modulus => k_is)
    (case k__law_modulus => k_is)
    (case c__law_power => k_is)
    (case k__law_power => k_is)
    (case c_PowerGroup_multiply => k_is)
    (case k_PowerGroup_multiply => k_is)
    (case c_TableGroup_multiply => k_is)
    (case k_TableGroup_multiply => k_is)
    (case c_Group__powers_of => k_is)
    (case k_Group__powers_of => k_is)
    (case c_Group___init__ => k_is)
    (case k_Group___init__ => k_is)
    (case c__is_associative => k_is)
    (case k__is_associative => k_is)
    (case c_is_prime => k_is)
    (case k_is_prime => k_is)
    (case c_is_tuple_of => k_is)
    (case k_is_tuple_of => k_is)
    (case c_is_residue => k_is)
    (case k_is_residue => k_is)
    (case c_is_residue_row => k_is)
    (case k_is_residue_row => k_is)
    (case c__is_square => k_is)
    (case k__is_square => k_is)
    (case c__units => k_is)
    (case k__units => k_is)
    (case c__is_group_table => k_is)
    (case k__is_group_table => k_is)
    (case c_TableGroup___init__ => k_is)
    (case k_TableGroup___init__ => k_is)
    (case x_TableGroup___init__ => k_is)
    (case q_TableGroup___init__ => k_is)
    (case s1_TableGroup___init__ => k_is)
    (case s2_TableGroup___init__ => k_is)
    (case s4_TableGroup___init__ => k_is)
    (case s5_TableGroup___init__ => k_is)
    (case s6_TableGroup___init__ => k_is)
    (case c__law_table => k_is)
    (case k__law_table => k_is)
    (case c__has_subgroup => k_is)
    (case k__has_subgroup => k_is)
    (case c__power_modulo => k_is)
    (case k__power_modulo => k_is)
    (case c_PowerGroup___init__ => k_is)
    (case k_PowerGroup___init__ => k_is)
    (case x_PowerGroup___init__ => k_is)
    (case q_PowerGroup___init__ => k_is)
    (case s1_PowerGroup___init__ => k_is)
    (case s2_PowerGroup___init__ => k_is)
    (case s4_PowerGroup___init__ => k_is)
    (case s5_PowerGroup___init__ => k_is)
    (case s6_PowerGroup___init__ => k_is)
    (case c__law_group => k_is)
    (case k__law_group => k_is)
    (case c__law_world => k_is)
    (case k__law_world => k_is)
    (case c_inverse => k_is)
    (case k_inverse => k_is)
    (case c_Group_log => k_is)
    (case k_Group_log => k_is)
    (case c_Group_has => k_is)
    (case k_Group_has => k_is)
    (case c_Key___init__ => k_is)
    (case k_Key___init__ => k_is)
    (case c__law_member => k_is)
    (case k__law_member => k_is)
    (case c__law_key => k_is)
    (case k__law_key => k_is)
    (case c__law_number => k_is)
    (case k__law_number => k_is)
    (case c__law_inverse => k_is)
    (case k__law_inverse => k_is)
    (case c__law_blind => k_is)
    (case k__law_blind => k_is)
    (case c__law_same => k_is)
    (case k__law_same => k_is)
    (case c_Group_combine => k_is)
    (case k_Group_combine => k_is)
    (case c_Key_cover => k_is)
    (case k_Key_cover => k_is)
    (case c_Key_opens => k_is)
    (case k_Key_opens => k_is)
    (case c_Group_power => k_is)
    (case k_Group_power => k_is)
    (case c_Group_inverse_of => k_is)
    (case k_Group_inverse_of => k_is)
    (case c_divide => k_is)
    (case k_divide => k_is)
    (case c_Key_hiding => k_is)
    (case k_Key_hiding => k_is)
    (case c_Key_blind_for => k_is)
    (case k_Key_blind_for => k_is)
    (case c_Key_count_openings => k_is)
    (case k_Key_count_openings => k_is)
    (case c_law => k_is)
    (case k_law => k_is)
    (case pg_Key => k_is)
    (case hd_Key => k_is)
    (case po_Key => k_is)
    (case sa_Key => k_is)
    (case mk_Key => k_is)
    (case kc_Key => k_is)
    (case if_Key => k_is)
    (case g_blind_for_Key => k_is)
    (case g_count_openings_Key => k_is)
    (case g_cover_Key => k_is)
    (case g_opens_Key => k_is)
    (case yg_hiding_Key => k_is)
    (case yt_hiding_Key => k_is)
    (case n__relation_Key => k_is)
    (case n_base_Key => k_is)
    (case n_blind_base_Key => k_is)
    (case n_group_Key => k_is)
    (case pg_PowerGroup => k_is)
    (case hd_PowerGroup => k_is)
    (case po_PowerGroup => k_is)
    (case sa_PowerGroup => k_is)
    (case mk_PowerGroup => k_is)
    (case kc_PowerGroup => k_is)
    (case if_PowerGroup => k_is)
    (case g__powers_of_PowerGroup => k_is)
    (case g_combine_PowerGroup => k_is)
    (case g_has_PowerGroup => k_is)
    (case g_inverse_of_PowerGroup => k_is)
    (case g_log_PowerGroup => k_is)
    (case g_multiply_PowerGroup => k_is)
    (case g_power_PowerGroup => k_is)
    (case n__exponents_PowerGroup => k_is)
    (case n__powers_PowerGroup => k_is)
    (case n_generator_PowerGroup => k_is)
    (case n_members_PowerGroup => k_is)
    (case n_modulus_PowerGroup => k_is)
    (case n_order_PowerGroup => k_is)
    (case n_unit_PowerGroup => k_is)
    (case pg_TableGroup => k_is)
    (case hd_TableGroup => k_is)
    (case po_TableGroup => k_is)
    (case sa_TableGroup => k_is)
    (case mk_TableGroup => k_is)
    (case kc_TableGroup => k_is)
    (case if_TableGroup => k_is)
    (case g__powers_of_TableGroup => k_is)
    (case g_combine_TableGroup => k_is)
    (case g_has_TableGroup => k_is)
    (case g_inverse_of_TableGroup => k_is)
    (case g_log_TableGroup => k_is)
    (case g_multiply_TableGroup => k_is)
    (case g_power_TableGroup => k_is)
    (case n__exponents_TableGroup => k_is)
    (case n__powers_TableGroup => k_is)
    (case n_generator_TableGroup => k_is)
    (case n_members_TableGroup => k_is)
    (case n_order_TableGroup => k_is)
    (case n_table_TableGroup => k_is)
    (case n_unit_TableGroup => k_is)
    (case hfile => rfl)
    (case htop => rfl)
    (case z_all => k_is)
    (case z_bool => k_is)
    (case z_enumerate => k_is)
    (case z_int => k_is)
    (case z_isinstance => k_is)
    (case z_len => k_is)
    (case z_list => k_is)
    (case z_range => k_is)
    (case z_set => k_is)
    (case z_str => k_is)
    (case z_super => k_is)
    (case z_tuple => k_is)
    (case z_zip => k_is)
    (case kc_BadGroup => k_is)
    (case s_BadGroup => k_is)
    (case t_BadGroup => k_is)
    (case i_BadGroup => k_is)
    (case hd_BadGroup => k_is)
    (case x_BadGroup => k_exc)
    (case kc_BadKey => k_is)
    (case s_BadKey => k_is)
    (case t_BadKey => k_is)
    (case i_BadKey => k_is)
    (case hd_BadKey => k_is)
    (case x_BadKey => k_exc)
    (case kc_NoInverse => k_is)
    (case s_NoInverse => k_is)
    (case t_NoInverse => k_is)
    (case i_NoInverse => k_is)
    (case hd_NoInverse => k_is)
    (case x_NoInverse => k_exc)
    (case kc_NoLogarithm => k_is)
    (case s_NoLogarithm => k_is)
    (case t_NoLogarithm => k_is)
    (case i_NoLogarithm => k_is)
    (case hd_NoLogarithm => k_is)
    (case x_NoLogarithm => k_exc)
    (case kc_OpenKey => k_is)
    (case s_OpenKey => k_is)
    (case t_OpenKey => k_is)
    (case i_OpenKey => k_is)
    (case hd_OpenKey => k_is)
    (case x_OpenKey => k_exc)
    (case n_LARGEST_MODULUS => k_is)
    (case n_LARGEST_POWER_ORDER => k_is)
    (case n_LARGEST_TABLE_ORDER => k_is)
    (case n_SMALLEST_ORDER => k_is)
    (case q2_TableGroup___init__ => rfl)
    (case q2_PowerGroup___init__ => rfl)
