import PyProof.Rows.All
import Wide.All
import OpenK.AllK
import Wide.FinOn
import HandS.ForMost
import HandS.Wide
import HandS.IsInst
import HandS.Gcd
import HandS.NoneIn
import HandS.ForExc
import HandS.ExcIs
import HandS.Star
import HandS.Walk
import HandS.Zip
import HandS.TupAny
import HandS.Strs
import HandS.TupMul
import HandS.ClsMeth
import HandS.DictComp
import HandS.MakeKw
import HandS.Property
import KE.KSuper
import KE.GoesMore
import HandS.Conv
import HandS.Rev
import HandS.RevTup
import HandS.Deep
import HandS.CallSlots
import HandS.EndBits
import HandS.Flow
import HandS.SetFor
import HandS.SortInts
import PySem.Challenge.RW_hushpapers_k06_table_groups
set_option Elab.async false
set_option linter.all false
set_option maxRecDepth 100000
set_option maxHeartbeats 4000000
namespace Toy
open PySem L2
/-! ### values, described; what stands still; environments -/
inductive PV where
  | non | bl (b : Bool) | int (i : Int) | str (x : Str)
  | tup (xs : List PV) | lst (xs : List PV) | fls (xs : List PV)
  | ins (C : Str) (fs : List (Str × PV)) | dct (kvs : List (Key × PV))
  | ty (n : String)
mutual
inductive Is (K : PySem.W.Frag) (cl : Str → Option Addr) (F : Hp) : V → PV → Prop
  | non : Is K cl F .non .non
  | bl (b : Bool) : Is K cl F (.bl b) (.bl b)
  | int (i : Int) : Is K cl F (.int i) (.int i)
  | str (x : Str) : Is K cl F (.str x) (.str x)
  | ty (n : String) : Is K cl F (.ty n) (.ty n)
  | tup {a : Addr} {vs : List V} {ps : List PV} : SqT K F a vs → IsL K cl F vs ps → Is K cl F (.ref a) (.tup ps)
  | lst {a : Addr} {vs : List V} {ps : List PV} : F a = some (.lst vs) → IsL K cl F vs ps → Is K cl F (.ref a) (.lst ps)
  | fls {a : Addr} {vs : List V} {ps : List PV} : SqL K F a vs → IsL K cl F vs ps → Is K cl F (.ref a) (.fls ps)
  | ins {a c dx : Addr} {C : Str} {vs : List (Str × V)} {fs : List (Str × PV)} : cl C = some c → F a = some (.ins c dx vs) → IsF K cl F vs fs → Is K cl F (.ref a) (.ins C fs)
  | dct {a : Addr} {vs : List (Key × V)} {ps : List (Key × PV)} : F a = some (.dK vs) → IsK K cl F vs ps → Is K cl F (.ref a) (.dct ps)
inductive IsL (K : PySem.W.Frag) (cl : Str → Option Addr) (F : Hp) : List V → List PV → Prop
  | nil : IsL K cl F [] []
  | cons {v : V} {p : PV} {vs : List V} {ps : List PV} : Is K cl F v p → IsL K cl F vs ps → IsL K cl F (v :: vs) (p :: ps)
inductive IsF (K : PySem.W.Frag) (cl : Str → Option Addr) (F : Hp) : List (Str × V) → List (Str × PV) → Prop
  | nil : IsF K cl F [] []
  | cons {f : Str} {v : V} {p : PV} {vs : List (Str × V)} {ps : List (Str × PV)} : Is K cl F v p → IsF K cl F vs ps → IsF K cl F ((f, v) :: vs) ((f, p) :: ps)
inductive IsK (K : PySem.W.Frag) (cl : Str → Option Addr) (F : Hp) : List (Key × V) → List (Key × PV) → Prop
  | nil : IsK K cl F [] []
  | cons {f : Key} {v : V} {p : PV} {vs : List (Key × V)} {ps : List (Key × PV)} : Is K cl F v p → IsK K cl F vs ps → IsK K cl F ((f, v) :: vs) ((f, p) :: ps)
end
section
variable {K : PySem.W.Frag} {cl : Str → Option Addr} {F F' : Hp}
def Sub (F F' : Hp) : Prop := ∀ a o, F a = some o → F' a = some o
theorem Sub.refl {F : Hp} : Sub F F := fun _ _ h => h
theorem Sub.trans {F F' F2 : Hp} (a : Sub F F') (b : Sub F' F2) : Sub F F2 := fun x o h => b x o (a x o h)
theorem Sub.rd {a : Addr} {u : HO} (s : Sub F F') (h : Rd F a u) : Rd F' a u := by
  rcases h with h | ⟨o, h⟩
  · exact .inl (s _ _ h)
  · exact .inr ⟨o, s _ _ h⟩
theorem Sub.sqT {a : Addr} {vs : List V} (s : Sub F F') (h : SqT K F a vs) : SqT K F' a vs := h.imp (fun h => s.rd h) id
theorem Sub.sqL {a : Addr} {vs : List V} (s : Sub F F') (h : SqL K F a vs) : SqL K F' a vs := h.imp (fun h => s.rd h) id
mutual
theorem Is.mono (s : Sub F F') : ∀ {v : V} {p : PV}, Is K cl F v p → Is K cl F' v p
  | _, _, .non => .non
  | _, _, .bl b => .bl b
  | _, _, .int i => .int i
  | _, _, .str x => .str x
  | _, _, .ty n => .ty n
  | _, _, .tup h r => .tup (s.sqT h) (IsL.mono s r)
  | _, _, .lst h r => .lst (s _ _ h) (IsL.mono s r)
  | _, _, .fls h r => .fls (s.sqL h) (IsL.mono s r)
  | _, _, .ins c h r => .ins c (s _ _ h) (IsF.mono s r)
  | _, _, .dct h r => .dct (s _ _ h) (IsK.mono s r)
theorem IsL.mono (s : Sub F F') : ∀ {vs : List V} {ps : List PV}, IsL K cl F vs ps → IsL K cl F' vs ps
  | _, _, .nil => .nil
  | _, _, .cons a r => .cons (Is.mono s a) (IsL.mono s r)
theorem IsF.mono (s : Sub F F') : ∀ {vs : List (Str × V)} {ps : List (Str × PV)}, IsF K cl F vs ps → IsF K cl F' vs ps
  | _, _, .nil => .nil
  | _, _, .cons a r => .cons (Is.mono s a) (IsF.mono s r)
theorem IsK.mono (s : Sub F F') : ∀ {vs : List (Key × V)} {ps : List (Key × PV)}, IsK K cl F vs ps → IsK K cl F' vs ps
  | _, _, .nil => .nil
  | _, _, .cons a r => .cons (Is.mono s a) (IsK.mono s r)
end
theorem IsL.len : ∀ {vs : List V} {ps : List PV}, IsL K cl F vs ps → vs.length = ps.length
  | _, _, .nil => rfl
  | _, _, .cons _ r => congrArg (· + 1) r.len
theorem IsL.get : ∀ {vs : List V} {ps : List PV} {i : Nat} {p : PV}, IsL K cl F vs ps → ps[i]? = some p → ∃ v, vs[i]? = some v ∧ Is K cl F v p
  | _, _, _, _, .nil, e => by simp at e
  | _, _, 0, _, .cons a _, e => by simp at e; subst e; exact ⟨_, rfl, a⟩
  | _, _, i + 1, _, .cons _ r, e => by
    obtain ⟨v, h, q⟩ := r.get (i := i) (by simpa using e)
    exact ⟨v, by simpa using h, q⟩
theorem IsL.get' : ∀ {vs : List V} {ps : List PV} {i : Nat} {v : V}, IsL K cl F vs ps → vs[i]? = some v → ∃ p, ps[i]? = some p ∧ Is K cl F v p
  | _, _, _, _, .nil, e => by simp at e
  | _, _, 0, _, .cons a _, e => by simp at e; subst e; exact ⟨_, rfl, a⟩
  | _, _, i + 1, _, .cons _ r, e => by
    obtain ⟨v, h, q⟩ := r.get' (i := i) (by simpa using e)
    exact ⟨v, by simpa using h, q⟩
theorem IsL.append : ∀ {vs ws : List V} {ps qs : List PV}, IsL K cl F vs ps → IsL K cl F ws qs → IsL K cl F (vs ++ ws) (ps ++ qs)
  | _, _, _, _, .nil, s => s
  | _, _, _, _, .cons a r, s => .cons a (r.append s)
theorem IsL.one {v : V} {p : PV} (h : Is K cl F v p) : IsL K cl F [v] [p] := .cons h .nil
theorem IsL.take : ∀ {vs : List V} {ps : List PV} (n : Nat), IsL K cl F vs ps → IsL K cl F (vs.take n) (ps.take n)
  | _, _, 0, _ => .nil
  | _, _, _ + 1, .nil => .nil
  | _, _, n + 1, .cons a r => .cons a (r.take n)
theorem IsL.drop : ∀ {vs : List V} {ps : List PV} (n : Nat), IsL K cl F vs ps → IsL K cl F (vs.drop n) (ps.drop n)
  | _, _, 0, r => r
  | _, _, _ + 1, .nil => .nil
  | _, _, n + 1, .cons _ r => r.drop n
theorem IsL.set {v : V} {p : PV} (h : Is K cl F v p) : ∀ {vs : List V} {ps : List PV} (n : Nat), IsL K cl F vs ps → IsL K cl F (vs.set n v) (ps.set n p)
  | _, _, _, .nil => .nil
  | _, _, 0, .cons _ r => .cons h r
  | _, _, n + 1, .cons a r => .cons a (IsL.set h n r)
theorem IsL.erase : ∀ {vs : List V} {ps : List PV} (n : Nat), IsL K cl F vs ps → IsL K cl F (vs.eraseIdx n) (ps.eraseIdx n)
  | _, _, _, .nil => .nil
  | _, _, 0, .cons _ r => r
  | _, _, n + 1, .cons a r => .cons a (IsL.erase n r)
theorem IsL.rep {v : V} {p : PV} (h : Is K cl F v p) : ∀ n : Nat, IsL K cl F (List.replicate n v) (List.replicate n p)
  | 0 => .nil
  | n + 1 => .cons h (IsL.rep h n)
theorem IsL.reverse {vs : List V} {ps : List PV} (h : IsL K cl F vs ps) : IsL K cl F vs.reverse ps.reverse := by
  induction vs generalizing ps with
  | nil => cases h; exact .nil
  | cons v vs ih =>
    cases h with
    | cons a r =>
      rw [List.reverse_cons, List.reverse_cons]
      exact (ih r).append (.one a)
theorem IsL.ints {vs : List V} : ∀ {ns : List Int}, IsL K cl F vs (ns.map PV.int) → vs = ns.map V.int := by
  intro ns
  induction ns generalizing vs with
  | nil => intro h; cases h; rfl
  | cons n ns ih =>
    intro h
    cases h with
    | cons a r =>
      cases a
      rw [ih r]
      rfl
theorem IsL.of_ints : ∀ ns : List Int, IsL K cl F (ns.map V.int) (ns.map PV.int)
  | [] => .nil
  | n :: ns => .cons (.int n) (IsL.of_ints ns)
theorem IsL.bls {vs : List V} : ∀ {ns : List Bool}, IsL K cl F vs (ns.map PV.bl) → vs = ns.map V.bl := by
  intro ns
  induction ns generalizing vs with
  | nil => intro h; cases h; rfl
  | cons n ns ih =>
    intro h
    cases h with
    | cons a r =>
      cases a
      rw [ih r]
      rfl
theorem IsF.look {f : Str} {p : PV} : ∀ {vs : List (Str × V)} {ps : List (Str × PV)}, IsF K cl F vs ps → ps.lookup f = some p → ∃ v, vs.lookup f = some v ∧ Is K cl F v p
  | _, _, .nil, e => by cases e
  | _, _, .cons (f := g) a r, e => by
    rw [List.lookup_cons] at e ⊢
    split at e
    · next h => cases e; exact ⟨_, rfl, a⟩
    · next h => exact r.look e
theorem IsF.nolook {f : Str} : ∀ {vs : List (Str × V)} {ps : List (Str × PV)}, IsF K cl F vs ps → ps.lookup f = none → vs.lookup f = none
  | _, _, .nil, _ => rfl
  | _, _, .cons (f := g) a r, e => by
    rw [List.lookup_cons] at e ⊢
    split at e
    · cases e
    · next h => exact r.nolook e
def valP (kvs : List (Key × PV)) (k : Key) : Option PV := (kvs.find? fun kv => decide (kv.1 = k)).map (·.2)
theorem IsK.val {k : Key} {p : PV} : ∀ {vs : List (Key × V)} {ps : List (Key × PV)}, IsK K cl F vs ps → valP ps k = some p → ∃ v, valV vs k = some v ∧ Is K cl F v p
  | _, _, .nil, e => by cases e
  | _, _, .cons (f := g) a r, e => by
    unfold valP at e
    unfold valV
    rw [List.find?_cons] at e ⊢
    by_cases h : g = k
    · rw [decide_eq_true h] at e ⊢
      cases e
      exact ⟨_, rfl, a⟩
    · rw [decide_eq_false h] at e ⊢
      exact r.val e
theorem IsK.noval {k : Key} : ∀ {vs : List (Key × V)} {ps : List (Key × PV)}, IsK K cl F vs ps → valP ps k = none → valV vs k = none
  | _, _, .nil, _ => rfl
  | _, _, .cons (f := g) a r, e => by
    unfold valP at e
    unfold valV
    rw [List.find?_cons] at e ⊢
    by_cases h : g = k
    · rw [decide_eq_true h] at e
      cases e
    · rw [decide_eq_false h] at e ⊢
      exact r.noval e
theorem IsK.len : ∀ {vs : List (Key × V)} {ps : List (Key × PV)}, IsK K cl F vs ps → vs.length = ps.length
  | _, _, .nil => rfl
  | _, _, .cons _ r => congrArg (· + 1) r.len
def putP (kvs : List (Key × PV)) (k : Key) (v : PV) : List (Key × PV) :=
  if (kvs.any fun kv => decide (kv.1 = k)) = true then kvs.map (fun kv => if kv.1 = k then (kv.1, v) else kv) else kvs ++ [(k, v)]
theorem IsK.any {k : Key} : ∀ {vs : List (Key × V)} {ps : List (Key × PV)}, IsK K cl F vs ps → (vs.any fun kv => decide (kv.1 = k)) = ps.any fun kv => decide (kv.1 = k)
  | _, _, .nil => rfl
  | _, _, .cons _ r => by rw [List.any_cons, List.any_cons, r.any]
theorem IsK.over {k : Key} {v : V} {p : PV} (h : Is K cl F v p) : ∀ {vs : List (Key × V)} {ps : List (Key × PV)}, IsK K cl F vs ps → IsK K cl F (vs.map fun kv => if kv.1 = k then (kv.1, v) else kv) (ps.map fun kv => if kv.1 = k then (kv.1, p) else kv)
  | _, _, .nil => .nil
  | _, _, .cons (f := g) a r => by
    rw [List.map_cons, List.map_cons]
    by_cases e : g = k
    · rw [if_pos e, if_pos e]
      exact .cons h (r.over h)
    · rw [if_neg e, if_neg e]
      exact .cons a (r.over h)
theorem IsK.append : ∀ {vs ws : List (Key × V)} {ps qs : List (Key × PV)}, IsK K cl F vs ps → IsK K cl F ws qs → IsK K cl F (vs ++ ws) (ps ++ qs)
  | _, _, _, _, .nil, s => s
  | _, _, _, _, .cons a r, s => .cons a (r.append s)
theorem IsK.put {k : Key} {v : V} {p : PV} (h : Is K cl F v p) {vs : List (Key × V)} {ps : List (Key × PV)} (r : IsK K cl F vs ps) : IsK K cl F (putK vs k v) (putP ps k p) := by
  unfold putK putP
  rw [r.any]
  split
  · exact r.over h
  · exact r.append (.cons h .nil)
end
/-! ### results -/
inductive Res (α : Type) where
  | val (a : α) | exc (c : Str) | stuck
def Res.bind {α β : Type} : Res α → (α → Res β) → Res β
  | .val a, f => f a
  | .exc c, _ => .exc c
  | .stuck, _ => .stuck
instance : Monad Res where
  pure := .val
  bind := Res.bind
def wp {α : Type} (m : Res α) (Q : α → Prop) (E : Str → Prop) : Prop := match m with
  | .val a => Q a
  | .exc c => E c
  | .stuck => False
section
variable {α β : Type} {Q : α → Prop} {E : Str → Prop} {R : β → Prop}
theorem wp_val {a : α} : wp (.val a) Q E ↔ Q a := Iff.rfl
theorem wp_bind {m : Res β} {f : β → Res α} : wp (m >>= f) Q E ↔ wp m (fun b => wp (f b) Q E) E := by cases m <;> rfl
theorem wp_mono {m : Res α} {Q' : α → Prop} {E' : Str → Prop} (h : wp m Q E) (q : ∀ a, Q a → Q' a) (e : ∀ c, E c → E' c) : wp m Q' E' := by
  cases m with
  | val a => exact q a h
  | exc c => exact e c h
  | stuck => exact h
@[simp] theorem bind_val {a : β} {f : β → Res α} : (Res.val a >>= f) = f a := rfl
@[simp] theorem bind_exc {c : Str} {f : β → Res α} : (Res.exc c >>= f) = .exc c := rfl
@[simp] theorem bind_stuck {f : β → Res α} : ((Res.stuck : Res β) >>= f) = .stuck := rfl
@[simp] theorem pure_val {a : α} : (pure a : Res α) = .val a := rfl
theorem wp_of_val {m : Res α} {a : α} (h : m = .val a) (q : Q a) : wp m Q E := by subst h; exact q
theorem wp_get {m : Res α} (h : wp m Q (fun _ => False)) : ∃ a, m = .val a ∧ Q a := by
  cases m with
  | val a => exact ⟨a, rfl, h⟩
  | exc c => exact h.elim
  | stuck => exact h.elim
end
/-! ### environments -/
inductive MO where
  | lst (xs : List PV) | dct (kvs : List (Key × PV)) | ob (C : Str) (fs : List (Str × PV))
inductive Slot where
  | un | fz (p : PV) | ow (m : MO) | rf (k : Nat) (m : MO)
abbrev Ro := List Slot
def frz (H : Hp) (A : List Addr) : Hp := fun a => if a ∈ A then none else H a
theorem frz_some {H : Hp} {A : List Addr} {a : Addr} {o : HO} : frz H A a = some o ↔ a ∉ A ∧ H a = some o := by
  unfold frz
  by_cases h : a ∈ A
  · rw [if_pos h]
    exact ⟨(fun z => nomatch z), fun z => absurd h z.1⟩
  · rw [if_neg h]
    exact ⟨fun z => ⟨h, z⟩, fun z => z.2⟩
theorem frz_sub {H : Hp} {A : List Addr} : Sub (frz H A) H := fun _ _ h => (frz_some.mp h).2
theorem frz_in {H : Hp} {A : List Addr} {a : Addr} (h : a ∈ A) : frz H A a = none := by unfold frz; rw [if_pos h]
/-- all but A is kept; what is in A' is of A or new -/
def Gr (A : List Addr) (H : Hp) (A' : List Addr) (H' : Hp) : Prop := (∀ x o, x ∉ A → H x = some o → H' x = some o) ∧ ∀ x, x ∈ A' → x ∈ A ∨ H x = none
theorem Gr.refl {A : List Addr} {H : Hp} : Gr A H A H := ⟨fun _ _ _ h => h, fun _ h => .inl h⟩
theorem Gr.trans {A B C : List Addr} {H H1 H2 : Hp} (a : Gr A H B H1) (b : Gr B H1 C H2) : Gr A H C H2 := by
  refine ⟨fun x o n h => ?_, fun x hx => ?_⟩
  · have h1 := a.1 x o n h
    refine b.1 x o (fun z => ?_) h1
    rcases a.2 x z with c | c
    · exact n c
    · rw [c] at h; cases h
  · rcases b.2 x hx with c | c
    · exact a.2 x c
    · cases e : H x with
      | none => exact .inr rfl
      | some o =>
        by_cases m : x ∈ A
        · exact .inl m
        · rw [a.1 x o m e] at c; cases c
theorem Gr.of {A : List Addr} {H H1 : Hp} (s : Sub H H1) : Gr A H A H1 := ⟨fun x o _ h => s x o h, fun _ h => .inl h⟩
theorem Gr.sub {O A A' : List Addr} {H H' : Hp} (g : Gr A H A' H') (hO : ∀ a, a ∈ O → ∃ o, H a = some o) : Sub (frz H (O ++ A)) (frz H' (O ++ A')) := fun x o h => by
  obtain ⟨n, h⟩ := frz_some.mp h
  rw [List.mem_append] at n
  refine frz_some.mpr ⟨fun z => ?_, g.1 x o (fun z => n (.inr z)) h⟩
  rcases List.mem_append.mp z with z | z
  · exact n (.inl z)
  · rcases g.2 x z with c | c
    · exact n (.inr c)
    · rw [c] at h; cases h
def adr : Ro → St → List Addr
  | .ow _ :: ρ, some (.ref a) :: σ => a :: adr ρ σ
  | .rf _ _ :: ρ, some (.ref a) :: σ => a :: adr ρ σ
  | _ :: ρ, _ :: σ => adr ρ σ
  | _, _ => []
def owa : Ro → St → List Addr
  | .ow _ :: ρ, some (.ref a) :: σ => a :: owa ρ σ
  | _ :: ρ, _ :: σ => owa ρ σ
  | _, _ => []
section
variable (K : PySem.W.Frag) (cl : Str → Option Addr)
def MoIs (F H : Hp) (a : Addr) : MO → Prop
  | .lst ps => ∃ vs, H a = some (.lst vs) ∧ IsL K cl F vs ps
  | .dct ps => ∃ vs, H a = some (.dK vs) ∧ IsK K cl F vs ps
  | .ob C fs => ∃ c dx vs, cl C = some c ∧ H a = some (.ins c dx vs) ∧ IsF K cl F vs fs
def SlotIs (bs : List Addr) (F H : Hp) : Slot → Option V → Prop
  | .un, _ => True
  | .fz p, x => ∃ v, x = some v ∧ Is K cl F v p
  | .ow m, x => ∃ a, x = some (.ref a) ∧ MoIs K cl F H a m
  | .rf k m, x => ∃ a, x = some (.ref a) ∧ bs[k]? = some a ∧ MoIs K cl F H a m
inductive RelS (bs : List Addr) (F H : Hp) : Ro → St → Prop
  | nil : RelS bs F H [] []
  | cons {s : Slot} {x : Option V} {ρ : Ro} {σ : St} : SlotIs K cl bs F H s x → RelS bs F H ρ σ → RelS bs F H (s :: ρ) (x :: σ)
structure Rel (O bs : List Addr) (ρ : Ro) (σ : St) (H : Hp) : Prop where
  sl : RelS K cl bs (frz H (O ++ adr ρ σ)) H ρ σ
  nd : (adr ρ σ).Nodup
  al : ∀ a, a ∈ O → ∃ o, H a = some o
  ow : ∀ a, a ∈ owa ρ σ → a ∉ O
end
section
variable {K : PySem.W.Frag} {cl : Str → Option Addr} {F F' H H' : Hp} {O bs : List Addr} {ρ : Ro} {σ : St}
theorem MoIs.mono {a : Addr} {m : MO} (h : MoIs K cl F H a m) (s : Sub F F') (e : ∀ o, H a = some o → H' a = some o) : MoIs K cl F' H' a m := by
  cases m with
  | lst ps => obtain ⟨vs, h, r⟩ := h; exact ⟨vs, e _ h, r.mono s⟩
  | dct ps => obtain ⟨vs, h, r⟩ := h; exact ⟨vs, e _ h, r.mono s⟩
  | ob C fs => obtain ⟨c, dx, vs, h0, h, r⟩ := h; exact ⟨c, dx, vs, h0, e _ h, r.mono s⟩
theorem MoIs.got {a : Addr} {m : MO} (h : MoIs K cl F H a m) : ∃ o, H a = some o := by
  cases m with
  | lst ps => obtain ⟨vs, h, r⟩ := h; exact ⟨_, h⟩
  | dct ps => obtain ⟨vs, h, r⟩ := h; exact ⟨_, h⟩
  | ob C fs => obtain ⟨c, dx, vs, h0, h, r⟩ := h; exact ⟨_, h⟩
theorem SlotIs.mono {s : Slot} {x : Option V} (h : SlotIs K cl bs F H s x) (q : Sub F F') (e : ∀ a o, (x = some (.ref a) ∧ s ≠ .un ∧ (∀ p, s ≠ .fz p)) → H a = some o → H' a = some o) : SlotIs K cl bs F' H' s x := by
  cases s with
  | un => trivial
  | fz p => obtain ⟨v, rfl, h⟩ := h; exact ⟨v, rfl, h.mono q⟩
  | ow m => obtain ⟨a, rfl, h⟩ := h; exact ⟨a, rfl, h.mono q fun o => e a o ⟨rfl, (fun z => nomatch z), fun _ z => nomatch z⟩⟩
  | rf k m => obtain ⟨a, rfl, b, h⟩ := h; exact ⟨a, rfl, b, h.mono q fun o => e a o ⟨rfl, (fun z => nomatch z), fun _ z => nomatch z⟩⟩
theorem RelS.mono (h : RelS K cl bs F H ρ σ) (q : Sub F F') (e : ∀ a o, a ∈ adr ρ σ → H a = some o → H' a = some o) : RelS K cl bs F' H' ρ σ := by
  induction h with
  | nil => exact .nil
  | @cons s x ρ σ a r ih =>
    refine .cons (a.mono q fun b o z h => e b o ?_ h) (ih fun b o z h => e b o ?_ h)
    · obtain ⟨rfl, n1, n2⟩ := z
      cases s with
      | un => exact absurd rfl n1
      | fz p => exact absurd rfl (n2 p)
      | ow m => exact List.mem_cons_self
      | rf k m => exact List.mem_cons_self
    · cases s with
      | un => exact z
      | fz p => exact z
      | ow m => obtain ⟨c, rfl, _⟩ := a; exact List.mem_cons_of_mem _ z
      | rf k m => obtain ⟨c, rfl, _⟩ := a; exact List.mem_cons_of_mem _ z
theorem RelS.len (h : RelS K cl bs F H ρ σ) : ρ.length = σ.length := by
  induction h with
  | nil => rfl
  | cons _ _ ih => exact congrArg (· + 1) ih
theorem RelS.get {i : Nat} {s : Slot} (h : RelS K cl bs F H ρ σ) (e : ρ[i]? = some s) : ∃ x, σ[i]? = some x ∧ SlotIs K cl bs F H s x := by
  induction h generalizing i with
  | nil => simp at e
  | cons a r ih =>
    cases i with
    | zero => simp at e; subst e; exact ⟨_, rfl, a⟩
    | succ i =>
      obtain ⟨x, h1, h2⟩ := ih (i := i) (by simpa using e)
      exact ⟨x, by simpa using h1, h2⟩
theorem RelS.adr_got (h : RelS K cl bs F H ρ σ) {a : Addr} (ha : a ∈ adr ρ σ) : ∃ o, H a = some o := by
  induction h with
  | nil => cases ha
  | @cons s x ρ σ a r ih =>
    cases s with
    | un => exact ih ha
    | fz p => exact ih ha
    | ow m =>
      obtain ⟨c, rfl, q⟩ := a
      rcases List.mem_cons.mp ha with e | e
      · rw [e]; exact q.got
      · exact ih e
    | rf k m =>
      obtain ⟨c, rfl, _, q⟩ := a
      rcases List.mem_cons.mp ha with e | e
      · rw [e]; exact q.got
      · exact ih e
theorem Rel.same (h : Rel K cl O bs ρ σ H) (s : Sub H H') : Rel K cl O bs ρ σ H' :=
  ⟨h.sl.mono ((Gr.of s).sub h.al) fun _ _ _ e => s _ _ e, h.nd, fun a ha => let ⟨o, e⟩ := h.al a ha; ⟨o, s _ _ e⟩, h.ow⟩
theorem Rel.sub (h : Rel K cl O bs ρ σ H) (s : Sub H H') : Sub (frz H (O ++ adr ρ σ)) (frz H' (O ++ adr ρ σ)) := (Gr.of s).sub h.al
/-- all of O and of the owned stands -/
theorem Rel.got (h : Rel K cl O bs ρ σ H) {a : Addr} (ha : a ∈ O ++ adr ρ σ) : ∃ o, H a = some o := by
  rcases List.mem_append.mp ha with c | c
  · exact h.al a c
  · exact h.sl.adr_got c
/-- what is new is frozen at once -/
theorem Rel.new_frz (h : Rel K cl O bs ρ σ H) {p : Addr} (hp : H p = none) (o : HO) : frz (upd H p o) (O ++ adr ρ σ) p = some o := by
  refine frz_some.mpr ⟨fun z => ?_, upd_same⟩
  obtain ⟨u, e⟩ := h.got z
  rw [hp] at e
  cases e
theorem sub_new {H : Hp} {p : Addr} (h : H p = none) (o : HO) : Sub H (upd H p o) := fun b u q => by rw [upd_ne (ne_of_none q h)]; exact q
end
/-! ### readings that give a described value -/
def IsV (K : PySem.W.Frag) (cl : Str → Option Addr) (F H : Hp) (v : V) : PV → Prop
  | .lst ps => ∃ a vs, v = .ref a ∧ H a = some (.lst vs) ∧ IsL K cl F vs ps
  | .dct ps => ∃ a vs, v = .ref a ∧ H a = some (.dK vs) ∧ IsK K cl F vs ps
  | p => Is K cl F v p
section
variable (K : PySem.W.Frag) (cl : Str → Option Addr) (W : WX)
def XW (σ : St) (H : Hp) (c : Str) : Prop := ∀ C H', cl c = some C → Sub H H' → W (.ref C) none σ H'
/-- strictly frozen -/
def Pur (t : TE) (ρ : Ro) (m : Res PV) : Prop := ∀ (O bs : List Addr) (σ : St) (H : Hp) (Q : VK), Rel K cl O bs ρ σ H →
  wp m (fun r => ∀ v H', Sub H H' → Is K cl (frz H' (O ++ adr ρ σ)) v r → Q v H') (XW cl W σ H) → t σ H Q
/-- a view: the container may be owned -/
def Vw (t : TE) (ρ : Ro) (m : Res PV) : Prop := ∀ (O bs : List Addr) (σ : St) (H : Hp) (Q : VK), Rel K cl O bs ρ σ H →
  wp m (fun r => ∀ v H', Sub H H' → IsV K cl (frz H' (O ++ adr ρ σ)) H' v r → Q v H') (XW cl W σ H) → t σ H Q
def PurL (t : TA) (ρ : Ro) (m : Res (List PV)) : Prop := ∀ (O bs : List Addr) (σ : St) (H : Hp) (Q : List V → Hp → Prop), Rel K cl O bs ρ σ H →
  wp m (fun r => ∀ vs H', Sub H H' → IsL K cl (frz H' (O ++ adr ρ σ)) vs r → Q vs H') (XW cl W σ H) → t σ H Q
def Tst (t : TT) (ρ : Ro) (m : Res Bool) : Prop := ∀ (O bs : List Addr) (σ : St) (H : Hp) (Q : Bool → Hp → Prop), Rel K cl O bs ρ σ H →
  wp m (fun r => ∀ H', Sub H H' → Q r H') (XW cl W σ H) → t σ H Q
/-- an operation on two values -/
def Op2 (r : R2) (f : PV → PV → Res PV) : Prop := ∀ (A : List Addr) (H : Hp) (x y : V) (p q : PV) (Q : VK) (E : Str → Prop), (∀ a, a ∈ A → ∃ o, H a = some o) → IsV K cl (frz H A) H x p → IsV K cl (frz H A) H y q →
  wp (f p q) (fun z => ∀ v H', Sub H H' → Is K cl (frz H' A) v z → Q v H') E → r x y H Q
def Op1 (r : V → Hp → VK → Prop) (f : PV → Res PV) : Prop := ∀ (A : List Addr) (H : Hp) (x : V) (p : PV) (Q : VK) (E : Str → Prop), (∀ a, a ∈ A → ∃ o, H a = some o) → IsV K cl (frz H A) H x p →
  wp (f p) (fun z => ∀ v H', Sub H H' → Is K cl (frz H' A) v z → Q v H') E → r x H Q
/-- a built-in on one view -/
def Bi1 (r : List V → Hp → VK → Prop) (f : PV → Res PV) : Prop := Op1 K cl (fun x H Q => r [x] H Q) f
def Bi2 (r : List V → Hp → VK → Prop) (f : PV → PV → Res PV) : Prop := Op2 K cl (fun x y H Q => r [x, y] H Q) f
end
section
variable {K : PySem.W.Frag} {cl : Str → Option Addr} {W : WX} {ρ : Ro} {σ : St} {H H' F : Hp} {A : List Addr} {t ta tb tc : TE} {m ma mb : Res PV} {f : PV → PV → Res PV} {r : R2}
theorem Is.view {v : V} {p : PV} (h : Is K cl F v p) (s : Sub F H) : IsV K cl F H v p := by
  cases h with
  | tup h r => exact .tup h r
  | lst h r => exact ⟨_, _, rfl, s _ _ h, r⟩
  | fls h r => exact .fls h r
  | dct h r => exact ⟨_, _, rfl, s _ _ h, r⟩
  | non => exact .non
  | bl b => exact .bl b
  | int i => exact .int i
  | str x => exact .str x
  | ty n => exact .ty n
  | ins c h r => exact .ins c h r
theorem IsV.mono {F' : Hp} {v : V} {p : PV} (h : IsV K cl F H v p) (s : Sub F F') (s2 : Sub H H') : IsV K cl F' H' v p := by
  cases p with
  | tup ps => exact Is.mono s h
  | lst ps => obtain ⟨a, vs, e, h, r⟩ := h; exact ⟨a, vs, e, s2 _ _ h, r.mono s⟩
  | fls ps => exact Is.mono s h
  | dct ps => obtain ⟨a, vs, e, h, r⟩ := h; exact ⟨a, vs, e, s2 _ _ h, r.mono s⟩
  | non => exact Is.mono s h
  | bl b => exact Is.mono s h
  | int i => exact Is.mono s h
  | str x => exact Is.mono s h
  | ty n => exact Is.mono s h
  | ins C fs => exact Is.mono s h
theorem new_frz (hA : ∀ a, a ∈ A → ∃ o, H a = some o) {p : Addr} (hp : H p = none) (o : HO) : frz (upd H p o) A p = some o := by
  refine frz_some.mpr ⟨fun z => ?_, upd_same⟩
  obtain ⟨u, e⟩ := hA _ z
  rw [hp] at e
  cases e
theorem frz_same (s : Sub H H') : Sub (frz H A) (frz H' A) := fun x o h => by
  obtain ⟨n, h⟩ := frz_some.mp h
  exact frz_some.mpr ⟨n, s _ _ h⟩
theorem new_lst (hA : ∀ a, a ∈ A → ∃ o, H a = some o) {p : Addr} (hp : H p = none) {vs : List V} {ps : List PV} (h : IsL K cl (frz H A) vs ps) : Is K cl (frz (upd H p (.lst vs)) A) (.ref p) (.lst ps) :=
  .lst (new_frz hA hp _) (h.mono (frz_same (sub_new hp _)))
theorem new_tup (hA : ∀ a, a ∈ A → ∃ o, H a = some o) {p : Addr} (hp : H p = none) {vs : List V} {ps : List PV} (h : IsL K cl (frz H A) vs ps) : Is K cl (frz (upd H p (.tup vs)) A) (.ref p) (.tup ps) :=
  .tup (.inl (.inl (new_frz hA hp _))) (h.mono (frz_same (sub_new hp _)))
theorem Pur.vw (h : Pur K cl W t ρ m) : Vw K cl W t ρ m := fun O bs σ H Q R q => h O bs σ H Q R (wp_mono q (fun r k v H' s i => k v H' s (i.view frz_sub)) fun _ z => z)
theorem XW.mono {c : Str} (h : XW cl W σ H c) (s : Sub H H') : XW cl W σ H' c := fun C H2 e s2 => h C H2 e (s.trans s2)
theorem pu_var {i : Nat} {p : PV} (h : ρ[i]? = some (.fz p)) : Pur K cl W (tVar i) ρ (.val p) := fun O bs σ H Q R q => by
  obtain ⟨x, e, v, rfl, hv⟩ := R.sl.get h
  exact ⟨v, e, q v H .refl hv⟩
theorem vw_own {i : Nat} {ps : List PV} (h : ρ[i]? = some (.ow (.lst ps))) : Vw K cl W (tVar i) ρ (.val (.lst ps)) := fun O bs σ H Q R q => by
  obtain ⟨x, e, a, rfl, vs, ha, hv⟩ := R.sl.get h
  exact ⟨_, e, q _ H .refl ⟨a, vs, rfl, ha, hv⟩⟩
theorem vw_ownd {i : Nat} {ps : List (Key × PV)} (h : ρ[i]? = some (.ow (.dct ps))) : Vw K cl W (tVar i) ρ (.val (.dct ps)) := fun O bs σ H Q R q => by
  obtain ⟨x, e, a, rfl, vs, ha, hv⟩ := R.sl.get h
  exact ⟨_, e, q _ H .refl ⟨a, vs, rfl, ha, hv⟩⟩
theorem vw_rf {i k : Nat} {ps : List PV} (h : ρ[i]? = some (.rf k (.lst ps))) : Vw K cl W (tVar i) ρ (.val (.lst ps)) := fun O bs σ H Q R q => by
  obtain ⟨x, e, a, rfl, _, vs, ha, hv⟩ := R.sl.get h
  exact ⟨_, e, q _ H .refl ⟨a, vs, rfl, ha, hv⟩⟩
theorem vw_rfd {i k : Nat} {ps : List (Key × PV)} (h : ρ[i]? = some (.rf k (.dct ps))) : Vw K cl W (tVar i) ρ (.val (.dct ps)) := fun O bs σ H Q R q => by
  obtain ⟨x, e, a, rfl, _, vs, ha, hv⟩ := R.sl.get h
  exact ⟨_, e, q _ H .refl ⟨a, vs, rfl, ha, hv⟩⟩
theorem pu_c {v : V} {p : PV} (h : ∀ F, Is K cl F v p) : Pur K cl W (tC v) ρ (.val p) := fun O bs σ H Q R q => q v H .refl (h _)
theorem pu_int {i : Int} : Pur K cl W (tC (.int i)) ρ (.val (.int i)) := pu_c fun _ => .int i
theorem pu_bl {i : Bool} : Pur K cl W (tC (.bl i)) ρ (.val (.bl i)) := pu_c fun _ => .bl i
theorem pu_str {i : Str} : Pur K cl W (tC (.str i)) ρ (.val (.str i)) := pu_c fun _ => .str i
theorem pu_non : Pur K cl W (tC .non) ρ (.val .non) := pu_c fun _ => .non
theorem pu_ty {n : String} : Pur K cl W (tC (.ty n)) ρ (.val (.ty n)) := pu_c fun _ => .ty n
theorem pu_op (ho : Op2 K cl r f) (ha : Vw K cl W ta ρ ma) (hb : Vw K cl W tb ρ mb) : Pur K cl W (tOp r ta tb) ρ (ma >>= fun x => mb >>= fun y => f x y) := fun O bs σ H Q R q => by
  refine ha O bs σ H _ R (wp_mono (wp_bind.mp q) (fun x qx v1 H1 s1 i1 => ?_) fun _ z => z)
  have R1 := R.same s1
  refine hb O bs σ H1 _ R1 (wp_mono (wp_bind.mp qx) (fun y qy v2 H2 s2 i2 => ?_) fun _ z => z.mono s1)
  have R2 := R1.same s2
  refine ho _ H2 v1 v2 x y _ _ (fun a h => R2.got h) (i1.mono (frz_same s2) s2) i2 (wp_mono qy (fun z qz v H' s iz => qz v H' ((s1.trans s2).trans s) iz) fun _ z => z)
theorem pu_un {r : V → Hp → VK → Prop} {f : PV → Res PV} (ho : Op1 K cl r f) (ha : Vw K cl W ta ρ ma) : Pur K cl W (tUn r ta) ρ (ma >>= f) := fun O bs σ H Q R q => by
  refine ha O bs σ H _ R (wp_mono (wp_bind.mp q) (fun x qx v1 H1 s1 i1 => ?_) fun _ z => z)
  exact ho _ H1 v1 x _ _ (fun a h => (R.same s1).got h) i1 (wp_mono qx (fun z qz v H' s iz => qz v H' (s1.trans s) iz) fun _ z => z)
/-- both bools known to be so -/
def asB : PV → Res Bool
  | .bl b => .val b
  | _ => .stuck
theorem isV_bl {v : V} {b : Bool} (h : IsV K cl F H v (.bl b)) : v = .bl b := by cases h; rfl
theorem isV_int {v : V} {b : Int} (h : IsV K cl F H v (.int b)) : v = .int b := by cases h; rfl
theorem wp_asB {p : PV} {Q : Bool → Prop} {E : Str → Prop} (h : wp (asB p) Q E) : ∃ b, p = .bl b ∧ Q b := by
  cases p with
  | bl b => exact ⟨b, rfl, h⟩
  | _ => exact h.elim
theorem ts_val (ha : Vw K cl W ta ρ ma) : Tst K cl W (tB ta) ρ (ma >>= asB) := fun O bs σ H Q R q => by
  refine ha O bs σ H _ R (wp_mono (wp_bind.mp q) (fun x qx v1 H1 s1 i1 => ?_) fun _ z => z)
  obtain ⟨b, rfl, qb⟩ := wp_asB qx
  exact ⟨b, isV_bl i1, qb H1 s1⟩
theorem ts_cmp (ha : Vw K cl W t ρ ma) : Tst K cl W (tTest t) ρ (ma >>= asB) := fun O bs σ H Q R q => by
  refine ha O bs σ H _ R (wp_mono (wp_bind.mp q) (fun x qx v1 H1 s1 i1 => ?_) fun _ z => z)
  obtain ⟨b, rfl, qb⟩ := wp_asB qx
  exact ⟨b, isV_bl i1, qb H1 s1⟩
variable {u w : TT} {mu mw : Res Bool}
theorem ts_and (hu : Tst K cl W u ρ mu) (hw : Tst K cl W w ρ mw) : Tst K cl W (tAnd u w) ρ (mu >>= fun b => if b = true then mw else .val false) := fun O bs σ H Q R q => by
  refine hu O bs σ H _ R (wp_mono (wp_bind.mp q) (fun b qb H1 s1 => ?_) fun _ z => z)
  cases b with
  | true => exact hw O bs σ H1 _ (R.same s1) (wp_mono qb (fun c qc H2 s2 => qc H2 (s1.trans s2)) fun _ z => z.mono s1)
  | false => exact qb H1 s1
theorem ts_or (hu : Tst K cl W u ρ mu) (hw : Tst K cl W w ρ mw) : Tst K cl W (tOr u w) ρ (mu >>= fun b => if b = true then .val true else mw) := fun O bs σ H Q R q => by
  refine hu O bs σ H _ R (wp_mono (wp_bind.mp q) (fun b qb H1 s1 => ?_) fun _ z => z)
  cases b with
  | false => exact hw O bs σ H1 _ (R.same s1) (wp_mono qb (fun c qc H2 s2 => qc H2 (s1.trans s2)) fun _ z => z.mono s1)
  | true => exact qb H1 s1
theorem ts_not (hu : Tst K cl W u ρ mu) : Tst K cl W (tNot u) ρ (mu >>= fun b => .val (!b)) := fun O bs σ H Q R q => by
  refine hu O bs σ H _ R (wp_mono (wp_bind.mp q) (fun b qb H1 s1 => qb H1 s1) fun _ z => z)
theorem pu_andV (ha : Vw K cl W ta ρ ma) (hb : Pur K cl W tb ρ mb) : Pur K cl W (tAndV ta tb) ρ (ma >>= asB >>= fun b => if b = true then mb else .val (.bl false)) := fun O bs σ H Q R q => by
  rw [wp_bind, wp_bind] at q
  refine ha O bs σ H _ R (wp_mono q (fun x qx v1 H1 s1 i1 => ?_) fun _ z => z)
  obtain ⟨b, rfl, qb⟩ := wp_asB qx
  refine ⟨b, isV_bl i1, ?_⟩
  cases b with
  | true => exact hb O bs σ H1 _ (R.same s1) (wp_mono qb (fun c qc v H2 s2 i => qc v H2 (s1.trans s2) i) fun _ z => z.mono s1)
  | false => exact qb _ H1 s1 (.bl false)
theorem pu_orV (ha : Vw K cl W ta ρ ma) (hb : Pur K cl W tb ρ mb) : Pur K cl W (tOrV ta tb) ρ (ma >>= asB >>= fun b => if b = true then .val (.bl true) else mb) := fun O bs σ H Q R q => by
  rw [wp_bind, wp_bind] at q
  refine ha O bs σ H _ R (wp_mono q (fun x qx v1 H1 s1 i1 => ?_) fun _ z => z)
  obtain ⟨b, rfl, qb⟩ := wp_asB qx
  refine ⟨b, isV_bl i1, ?_⟩
  cases b with
  | false => exact hb O bs σ H1 _ (R.same s1) (wp_mono qb (fun c qc v H2 s2 i => qc v H2 (s1.trans s2) i) fun _ z => z.mono s1)
  | true => exact qb _ H1 s1 (.bl true)
theorem pu_notV (ha : Vw K cl W ta ρ ma) : Pur K cl W (tNotV ta) ρ (ma >>= asB >>= fun b => .val (.bl (!b))) := fun O bs σ H Q R q => by
  rw [wp_bind, wp_bind] at q
  refine ha O bs σ H _ R (wp_mono q (fun x qx v1 H1 s1 i1 => ?_) fun _ z => z)
  obtain ⟨b, rfl, qb⟩ := wp_asB qx
  exact ⟨b, isV_bl i1, qb _ H1 s1 (.bl _)⟩
theorem pu_if (hu : Tst K cl W u ρ mu) (ha : Pur K cl W ta ρ ma) (hb : Pur K cl W tb ρ mb) : Pur K cl W (tIf u ta tb) ρ (mu >>= fun b => if b = true then ma else mb) := fun O bs σ H Q R q => by
  refine hu O bs σ H _ R (wp_mono (wp_bind.mp q) (fun b qb H1 s1 => ?_) fun _ z => z)
  cases b with
  | true => exact ha O bs σ H1 _ (R.same s1) (wp_mono qb (fun c qc v H2 s2 i => qc v H2 (s1.trans s2) i) fun _ z => z.mono s1)
  | false => exact hb O bs σ H1 _ (R.same s1) (wp_mono qb (fun c qc v H2 s2 i => qc v H2 (s1.trans s2) i) fun _ z => z.mono s1)
theorem pu_chain {r' : R2} {f' : PV → PV → Res PV} {mc : Res PV} (ho : Op2 K cl r f) (ho' : Op2 K cl r' f') (ha : Vw K cl W ta ρ ma) (hb : Vw K cl W tb ρ mb) (hc : Vw K cl W tc ρ mc) :
    Pur K cl W (tChain r r' ta tb tc) ρ (ma >>= fun x => mb >>= fun y => f x y >>= asB >>= fun b => if b = true then mc >>= fun z => f' y z else .val (.bl false)) := fun O bs σ H Q R q => by
  refine ha O bs σ H _ R (wp_mono (wp_bind.mp q) (fun x qx v1 H1 s1 i1 => ?_) fun _ z => z)
  have R1 := R.same s1
  refine hb O bs σ H1 _ R1 (wp_mono (wp_bind.mp qx) (fun y qy v2 H2 s2 i2 => ?_) fun _ z => z.mono s1)
  have R2 := R1.same s2
  rw [wp_bind, wp_bind] at qy
  refine ho _ H2 v1 v2 x y _ _ (fun a h => R2.got h) (i1.mono (frz_same s2) s2) i2 (wp_mono qy (fun z qz v3 H3 s3 i3 => ?_) fun _ z => z)
  obtain ⟨b, rfl, qb⟩ := wp_asB qz
  refine ⟨b, by cases i3; rfl, ?_⟩
  have s13 := (s1.trans s2).trans s3
  cases b with
  | false => exact qb _ H3 s13 (.bl false)
  | true =>
    have R3 := R2.same s3
    refine hc O bs σ H3 _ R3 (wp_mono (wp_bind.mp qb) (fun z qz v4 H4 s4 i4 => ?_) fun _ z => z.mono s13)
    exact ho' _ H4 v2 v4 y z _ _ (fun a h => (R3.same s4).got h) (i2.mono (frz_same (s3.trans s4)) (s3.trans s4)) i4 (wp_mono qz (fun z qz v H' s iz => qz v H' ((s13.trans s4).trans s) iz) fun _ z => z)
variable {tr : TA} {ml : Res (List PV)}
theorem pl_nil : PurL K cl W tNil ρ (.val []) := fun O bs σ H Q R q => q [] H .refl .nil
theorem pl_cons (ha : Pur K cl W ta ρ ma) (hl : PurL K cl W tr ρ ml) : PurL K cl W (tCons ta tr) ρ (ma >>= fun x => ml >>= fun xs => .val (x :: xs)) := fun O bs σ H Q R q => by
  refine ha O bs σ H _ R (wp_mono (wp_bind.mp q) (fun x qx v1 H1 s1 i1 => ?_) fun _ z => z)
  refine hl O bs σ H1 _ (R.same s1) (wp_mono (wp_bind.mp qx) (fun xs qs vs H2 s2 i2 => ?_) fun _ z => z.mono s1)
  exact qs _ H2 (s1.trans s2) (.cons (i1.mono (frz_same s2)) i2)
def asSq : PV → Res (List PV)
  | .tup ps => .val ps
  | .lst ps => .val ps
  | .fls ps => .val ps
  | _ => .stuck
theorem wp_asSq {p : PV} {v : V} {Q : List PV → Prop} {E : Str → Prop} (h : wp (asSq p) Q E) (i : IsV K cl F H v p) (s : Sub F H := by exact frz_sub) : ∃ a vs ps, v = .ref a ∧ (SqT K H a vs ∨ SqL K H a vs) ∧ IsL K cl F vs ps ∧ Q ps := by
  cases p with
  | tup ps => cases i with | tup h1 r => exact ⟨_, _, ps, rfl, .inl (s.sqT h1), r, h⟩
  | lst ps => obtain ⟨a, vs, e, h1, r⟩ := i; exact ⟨a, vs, ps, e, .inr (.inl (.inl h1)), r, h⟩
  | fls ps => cases i with | fls h1 r => exact ⟨_, _, ps, rfl, .inr (s.sqL h1), r, h⟩
  | _ => exact h.elim
theorem pl_star (ha : Vw K cl W ta ρ ma) (hl : PurL K cl W tr ρ ml) : PurL K cl W (StX.tStar K ta tr) ρ (ma >>= asSq >>= fun ys => ml >>= fun xs => .val (ys ++ xs)) := fun O bs σ H Q R q => by
  rw [wp_bind, wp_bind] at q
  refine ha O bs σ H _ R (wp_mono q (fun x qx v1 H1 s1 i1 => ?_) fun _ z => z)
  obtain ⟨a, vs, ps, rfl, hs, hl1, qp⟩ := wp_asSq qx i1
  refine ⟨a, vs, rfl, hs, hl O bs σ H1 _ (R.same s1) (wp_mono (wp_bind.mp qp) (fun xs qs vs H2 s2 i2 => ?_) fun _ z => z.mono s1)⟩
  exact qs _ H2 (s1.trans s2) ((hl1.mono (frz_same s2)).append i2)
def sized (n : Nat) : Res Unit := if n ≤ sizeLine then .val () else .stuck
theorem wp_sized {n : Nat} {Q : Unit → Prop} {E : Str → Prop} (h : wp (sized n) Q E) : n ≤ sizeLine ∧ Q () := by
  unfold sized at h
  by_cases c : n ≤ sizeLine
  · rw [if_pos c] at h; exact ⟨c, h⟩
  · rw [if_neg c] at h; exact h.elim
def mkT (ps : List PV) : Res PV := sized ps.length >>= fun _ => .val (.tup ps)
def mkL (ps : List PV) : Res PV := sized ps.length >>= fun _ => .val (.lst ps)
theorem pu_tup (hl : PurL K cl W tr ρ ml) : Pur K cl W (tTup tr) ρ (ml >>= mkT) := fun O bs σ H Q R q => by
  refine hl O bs σ H _ R (wp_mono (wp_bind.mp q) (fun ps qs vs H1 s1 i1 => ?_) fun _ z => z)
  obtain ⟨z, qs⟩ := wp_sized (wp_bind.mp qs)
  refine ⟨by rw [i1.len]; exact z, fun p hp => qs _ _ (s1.trans (sub_new hp _)) (new_tup (fun a h => (R.same s1).got h) hp i1)⟩
theorem pu_lst (hl : PurL K cl W tr ρ ml) : Pur K cl W (tLst tr) ρ (ml >>= mkL) := fun O bs σ H Q R q => by
  refine hl O bs σ H _ R (wp_mono (wp_bind.mp q) (fun ps qs vs H1 s1 i1 => ?_) fun _ z => z)
  obtain ⟨z, qs⟩ := wp_sized (wp_bind.mp qs)
  refine ⟨by rw [i1.len]; exact z, fun p hp => qs _ _ (s1.trans (sub_new hp _)) (new_lst (fun a h => (R.same s1).got h) hp i1)⟩
theorem pu_cb1 {r : List V → Hp → VK → Prop} {f : PV → Res PV} (ho : Bi1 K cl r f) (ha : Vw K cl W ta ρ ma) : Pur K cl W (tCB r (tCons ta tNil)) ρ (ma >>= f) := fun O bs σ H Q R q => by
  refine ha O bs σ H _ R (wp_mono (wp_bind.mp q) (fun x qx v1 H1 s1 i1 => ?_) fun _ z => z)
  exact ho _ H1 v1 x _ _ (fun a h => (R.same s1).got h) i1 (wp_mono qx (fun z qz v H' s iz => qz v H' (s1.trans s) iz) fun _ z => z)
theorem pu_cb2 {r : List V → Hp → VK → Prop} (ho : Bi2 K cl r f) (ha : Vw K cl W ta ρ ma) (hb : Vw K cl W tb ρ mb) : Pur K cl W (tCB r (tCons ta (tCons tb tNil))) ρ (ma >>= fun x => mb >>= fun y => f x y) :=
  pu_op (r := fun x y H Q => r [x, y] H Q) ho ha hb
end
/-! ### operations -/
section
variable {X : Cx} {f : Value → Value → Sem Value} {r1 r2 : R2}
def rOr (r1 r2 : R2) : R2 := fun x y H Q => r1 x y H Q ∨ r2 x y H Q
theorem OpR.or (h1 : OpR X f r1) (h2 : OpR X f r2) : OpR X f (rOr r1 r2) := fun pins s σ H x y v u Q I rx ry h => h.elim (h1 pins s σ H x y v u Q I rx ry) (h2 pins s σ H x y v u Q I rx ry)
theorem IxR.or (h1 : IxR X r1) (h2 : IxR X r2) : IxR X (rOr r1 r2) := fun va sl pins s σ H x y v u Q I rx ry h hs => h.elim (fun h => h1 va sl pins s σ H x y v u Q I rx ry h hs) (fun h => h2 va sl pins s σ H x y v u Q I rx ry h hs)
def cOr (r1 r2 : List V → Hp → VK → Prop) : List V → Hp → VK → Prop := fun xs H Q => r1 xs H Q ∨ r2 xs H Q
theorem CallR.or {f : Value} {r1 r2 : List V → Hp → VK → Prop} (h1 : CallR X f r1) (h2 : CallR X f r2) : CallR X f (cOr r1 r2) := fun pins s σ H xs us Q I r h => h.elim (h1 pins s σ H xs us Q I r) (h2 pins s σ H xs us Q I r)
def sOr (r1 r2 : V → Option Int → Option Int → Hp → VK → Prop) : V → Option Int → Option Int → Hp → VK → Prop := fun x l h H Q => r1 x l h H Q ∨ r2 x l h H Q
theorem SlR.or {r1 r2 : V → Option Int → Option Int → Hp → VK → Prop} (h1 : SlR X r1) (h2 : SlR X r2) : SlR X (sOr r1 r2) := fun pins s σ H x v vl vu lo hi sl Q I rx hs pl pu h => h.elim (h1 pins s σ H x v vl vu lo hi sl Q I rx hs pl pu) (h2 pins s σ H x v vl vu lo hi sl Q I rx hs pl pu)
end
section
variable {K : PySem.W.Frag} {cl : Str → Option Addr} {F H : Hp} {r r1 r2 : R2} {f g : PV → PV → Res PV}
def ints2 (g : Int → Int → Res PV) : PV → PV → Res PV
  | .int i, .int j => g i j
  | _, _ => .stuck
theorem o2_ints {g : Int → Int → Res PV} {r : R2} (h : ∀ (A : List Addr) (H : Hp) (i j : Int) (Q : VK) (E : Str → Prop), wp (g i j) (fun z => ∀ v H', Sub H H' → Is K cl (frz H' A) v z → Q v H') E → r (.int i) (.int j) H Q) : Op2 K cl r (ints2 g) := fun A H x y p q Q E hA ix iy w => by
  unfold ints2 at w
  split at w
  · cases isV_int ix
    cases isV_int iy
    exact h A H _ _ Q E w
  · exact w.elim
theorem o2_i0 {g : Int → Int → V} {k : Int → Int → PV} (h : ∀ i j F, Is K cl F (g i j) (k i j)) : Op2 K cl (rI0 g) (ints2 fun i j => .val (k i j)) := o2_ints fun A H i j Q E w => ⟨i, j, rfl, rfl, w _ H .refl (h i j _)⟩
theorem o2_i {C : Int → Int → Prop} [∀ i j, Decidable (C i j)] {g : Int → Int → V} {k : Int → Int → PV} (h : ∀ i j F, Is K cl F (g i j) (k i j)) : Op2 K cl (rI C g) (ints2 fun i j => if C i j then .val (k i j) else .stuck) := o2_ints fun A H i j Q E w => by
  by_cases c : C i j
  · rw [if_pos c] at w
    exact ⟨i, j, rfl, rfl, c, w _ H .refl (h i j _)⟩
  · rw [if_neg c] at w
    exact w.elim
/-- one rule or the other, by what the first mirror makes -/
def orS (f g : PV → PV → Res PV) : PV → PV → Res PV := fun x y => match f x y with
  | .stuck => g x y
  | z => z
theorem o2_or (h1 : Op2 K cl r1 f) (h2 : Op2 K cl r2 g) : Op2 K cl (rOr r1 r2) (orS f g) := fun A H x y p q Q E hA ix iy w => by
  unfold orS at w
  split at w
  · exact .inr (h2 A H x y p q Q E hA ix iy w)
  · exact .inl (h1 A H x y p q Q E hA ix iy w)
instance (i j : Int) : Decidable (CMul i j) := by unfold CMul; infer_instance
instance (i j : Int) : Decidable (CMulW i j) := by unfold CMulW; infer_instance
instance (i j : Int) : Decidable (CDivN i j) := by unfold CDivN; infer_instance
instance (i j : Int) : Decidable (CDivW i j) := by unfold CDivW; infer_instance
instance (i j : Int) : Decidable (CPow i j) := by unfold CPow; infer_instance
/-! +, -, *, //, %, **, shifts -/
def catS : PV → PV → Res PV
  | .str i, .str j => if i.length + j.length ≤ sizeLine then .val (.str (i ++ j)) else .stuck
  | _, _ => .stuck
def catL : PV → PV → Res PV
  | .lst i, .lst j => if i.length + j.length ≤ sizeLine then .val (.lst (i ++ j)) else .stuck
  | _, _ => .stuck
def catT : PV → PV → Res PV
  | .tup i, .tup j => if i.length + j.length ≤ sizeLine then .val (.tup (i ++ j)) else .stuck
  | _, _ => .stuck
theorem isV_str {v : V} {b : Str} (h : IsV K cl F H v (.str b)) : v = .str b := by cases h; rfl
theorem o2_catS : Op2 K cl (fun x y H Q => ∃ i j, x = .str i ∧ y = .str j ∧ i.length + j.length ≤ sizeLine ∧ Q (.str (i ++ j)) H) catS := fun A H x y p q Q E hA ix iy w => by
  unfold catS at w
  split at w
  · cases isV_str ix
    cases isV_str iy
    split at w
    · next c => exact ⟨_, _, rfl, rfl, c, w _ H .refl (.str _)⟩
    · exact w.elim
  · exact w.elim
theorem o2_catL : Op2 K cl rCat catL := fun A H x y p q Q E hA ix iy w => by
  unfold catL at w
  split at w
  · obtain ⟨a, vs, rfl, ha, la⟩ := ix
    obtain ⟨b, ws, rfl, hb, lb⟩ := iy
    split at w
    · next c =>
      rw [← la.len, ← lb.len] at c
      exact ⟨a, b, vs, ws, rfl, rfl, ha, hb, c, fun p hp => w _ _ (sub_new hp _) (new_lst hA hp (la.append lb))⟩
    · exact w.elim
  · exact w.elim
theorem o2_catT : Op2 K cl (rCatA K) catT := fun A H x y p q Q E hA ix iy w => by
  unfold catT at w
  split at w
  · cases ix with
    | tup h1 l1 =>
    cases iy with
    | tup h2 l2 =>
    split at w
    · next c =>
      rw [← l1.len, ← l2.len] at c
      refine ⟨_, _, _, _, rfl, rfl, frz_sub.sqT h1, frz_sub.sqT h2, c, fun e => ?_, fun _ e => ?_, fun _ _ p hp => w _ _ (sub_new hp _) (new_tup hA hp (l1.append l2))⟩
      · refine w _ H .refl (.tup h2 ?_)
        subst e
        cases l1
        exact l2
      · refine w _ H .refl (.tup h1 ?_)
        subst e
        cases l2
        rw [List.append_nil]
        exact l1
    · exact w.elim
  · exact w.elim
def addP : PV → PV → Res PV := orS (ints2 fun i j => .val (.int (i + j))) (orS catS (orS catL catT))
def rAddV (K : PySem.W.Frag) : R2 := rOr (rI0 fun i j => .int (i + j)) (rOr (fun x y H Q => ∃ i j, x = .str i ∧ y = .str j ∧ i.length + j.length ≤ sizeLine ∧ Q (.str (i ++ j)) H) (rOr rCat (rCatA K)))
theorem o2_add : Op2 K cl (rAddV K) addP := o2_or (o2_i0 fun _ _ _ => .int _) (o2_or o2_catS (o2_or o2_catL o2_catT))
theorem op_addV (K : PySem.W.Frag) {X : Cx} (e : X.K = K) : OpR X (binaryOp .Add) (rAddV K) := by
  subst e
  exact op_add.or (op_add_str.or (op_cat.or op_catA))
def subP : PV → PV → Res PV := ints2 fun i j => .val (.int (i - j))
theorem o2_sub : Op2 K cl (rI0 fun i j => .int (i - j)) subP := o2_i0 fun _ _ _ => .int _
def repL : PV → PV → Res PV
  | .lst xs, .int k => if -(2 ^ 63) ≤ k ∧ k < 2 ^ 63 ∧ xs.length * k.toNat ≤ sizeLine then .val (.lst (List.replicate k.toNat xs).flatten) else .stuck
  | _, _ => .stuck
theorem IsL.reps {vs : List V} {ps : List PV} (h : IsL K cl F vs ps) : ∀ n : Nat, IsL K cl F (List.replicate n vs).flatten (List.replicate n ps).flatten
  | 0 => .nil
  | n + 1 => by
    rw [List.replicate_succ, List.replicate_succ, List.flatten_cons, List.flatten_cons]
    exact h.append (h.reps n)
theorem o2_repL : Op2 K cl rRep repL := fun A H x y p q Q E hA ix iy w => by
  unfold repL at w
  split at w
  · obtain ⟨a, vs, rfl, ha, la⟩ := ix
    cases isV_int iy
    split at w
    · next c =>
      rw [← la.len] at c
      exact ⟨a, _, vs, rfl, rfl, ha, c.1, c.2.1, c.2.2, fun p hp => w _ _ (sub_new hp _) (new_lst hA hp (la.reps _))⟩
    · exact w.elim
  · exact w.elim
def mulI : PV → PV → Res PV := orS (ints2 fun i j => if CMul i j then .val (.int (i * j)) else .stuck) (ints2 fun i j => if CMulW i j then .val (.int (i * j)) else .stuck)
def mulP : PV → PV → Res PV := orS mulI repL
def rMulV : R2 := rOr (rOr (rI CMul fun i j => .int (i * j)) (rI CMulW fun i j => .int (i * j))) rRep
theorem o2_mul : Op2 K cl rMulV mulP := o2_or (o2_or (o2_i fun _ _ _ => .int _) (o2_i fun _ _ _ => .int _)) o2_repL
theorem op_mulV {X : Cx} : OpR X (binaryOp .Mult) rMulV := (op_mul.or op_mulW).or op_rep
def fdivP : PV → PV → Res PV := orS (ints2 fun i j => if CDivN i j then .val (.int (i.fdiv j)) else .stuck) (ints2 fun i j => if CDivW i j then .val (.int (i / j)) else .stuck)
def rFdivV : R2 := rOr (rI CDivN fun i j => .int (i.fdiv j)) (rI CDivW fun i j => .int (i / j))
theorem o2_fdiv : Op2 K cl rFdivV fdivP := o2_or (o2_i fun _ _ _ => .int _) (o2_i fun _ _ _ => .int _)
theorem op_fdivV {X : Cx} : OpR X (binaryOp .FloorDiv) rFdivV := op_fdivN.or op_fdivW
def modP : PV → PV → Res PV := ints2 fun i j => if j ≠ 0 then .val (.int (i.fmod j)) else .stuck
theorem o2_mod : Op2 K cl (rI (fun _ j => j ≠ 0) fun i j => .int (i.fmod j)) modP := o2_i (C := fun _ j => j ≠ 0) fun _ _ _ => .int _
def powP : PV → PV → Res PV := ints2 fun i j => if CPow i j then .val (.int (i ^ j.toNat)) else .stuck
theorem o2_pow : Op2 K cl (rI CPow fun i j => .int (i ^ j.toNat)) powP := o2_i fun _ _ _ => .int _
def shlP : PV → PV → Res PV := ints2 fun i j => if CPow i j then .val (.int (i * 2 ^ j.toNat)) else .stuck
theorem o2_shl : Op2 K cl (rI CPow fun i j => .int (i * 2 ^ j.toNat)) shlP := o2_i fun _ _ _ => .int _
def shrP : PV → PV → Res PV := ints2 fun i j => if 0 ≤ j then .val (.int (i / 2 ^ j.toNat)) else .stuck
theorem o2_shr : Op2 K cl (rI (fun _ j => 0 ≤ j) fun i j => .int (i / 2 ^ j.toNat)) shrP := o2_i (C := fun _ j => 0 ≤ j) fun _ _ _ => .int _
def negP : PV → Res PV
  | .int i => .val (.int (-i))
  | _ => .stuck
theorem o1_neg : Op1 K cl (rU fun i => .int (-i)) negP := fun A H x p Q E hA ix w => by
  unfold negP at w
  split at w
  · cases isV_int ix
    exact ⟨_, rfl, w _ H .refl (.int _)⟩
  · exact w.elim
/-! comparisons -/
def ltP : PV → PV → Res PV := ints2 fun i j => .val (.bl (decide (i < j)))
def leP : PV → PV → Res PV := ints2 fun i j => .val (.bl (decide (i ≤ j)))
def gtP : PV → PV → Res PV := ints2 fun i j => .val (.bl (decide (j < i)))
def geP : PV → PV → Res PV := ints2 fun i j => .val (.bl (decide (j ≤ i)))
theorem o2_lt : Op2 K cl (rI0 fun i j => .bl (decide (i < j))) ltP := o2_i0 fun _ _ _ => .bl _
theorem o2_le : Op2 K cl (rI0 fun i j => .bl (decide (i ≤ j))) leP := o2_i0 fun _ _ _ => .bl _
theorem o2_gt : Op2 K cl (rI0 fun i j => .bl (decide (j < i))) gtP := o2_i0 fun _ _ _ => .bl _
theorem o2_ge : Op2 K cl (rI0 fun i j => .bl (decide (j ≤ i))) geP := o2_i0 fun _ _ _ => .bl _
mutual
def toD : PV → Option PyData
  | .non => some .none
  | .bl b => some (.bool b)
  | .int i => some (.int i)
  | .str x => some (.str x)
  | .lst xs => (toDs xs).map .list
  | .tup xs => (toDs xs).map .tuple
  | .fls xs => (toDs xs).map .list
  | .ins _ _ => none
  | .dct _ => none
  | .ty _ => none
def toDs : List PV → Option (List PyData)
  | [] => some []
  | x :: xs => (toD x).bind fun d => (toDs xs).map fun ds => d :: ds
end
mutual
theorem Is.dp : ∀ {v : V} {p : PV} {d : PyData}, Is K cl F v p → toD p = some d → Dp K F v d
  | _, _, _, .non, e => by cases e; exact .non
  | _, _, _, .bl b, e => by cases e; exact .bl b
  | _, _, _, .int b, e => by cases e; exact .int b
  | _, _, _, .str b, e => by cases e; exact .str b
  | _, _, _, .ty n, e => by cases e
  | _, _, _, .ins _ _ _, e => by cases e
  | _, _, _, .dct _ _, e => by cases e
  | _, _, _, .tup h r, e => by
    unfold toD at e
    obtain ⟨ds, e1, rfl⟩ := Option.map_eq_some_iff.mp e
    exact .tup h (IsL.dp r e1)
  | _, _, _, .lst h r, e => by
    unfold toD at e
    obtain ⟨ds, e1, rfl⟩ := Option.map_eq_some_iff.mp e
    exact .lst (.inl (.inl h)) (IsL.dp r e1)
  | _, _, _, .fls h r, e => by
    unfold toD at e
    obtain ⟨ds, e1, rfl⟩ := Option.map_eq_some_iff.mp e
    exact .lst h (IsL.dp r e1)
theorem IsL.dp : ∀ {vs : List V} {ps : List PV} {ds : List PyData}, IsL K cl F vs ps → toDs ps = some ds → DpAll K F vs ds
  | _, _, _, .nil, e => by cases e; exact .nil
  | _, _, _, .cons a r, e => by
    unfold toDs at e
    obtain ⟨d, e1, e2⟩ := Option.bind_eq_some_iff.mp e
    obtain ⟨ds, e3, rfl⟩ := Option.map_eq_some_iff.mp e2
    exact .cons (Is.dp a e1) (IsL.dp r e3)
end
mutual
theorem dp_sub {F F' : Hp} (s : Sub F F') : ∀ {v : V} {d : PyData}, Dp K F v d → Dp K F' v d
  | _, _, .non => .non
  | _, _, .bl b => .bl b
  | _, _, .int b => .int b
  | _, _, .str b => .str b
  | _, _, .lst h r => .lst (s.sqL h) (dpall_sub s r)
  | _, _, .tup h r => .tup (s.sqT h) (dpall_sub s r)
theorem dpall_sub {F F' : Hp} (s : Sub F F') : ∀ {v : List V} {d : List PyData}, DpAll K F v d → DpAll K F' v d
  | _, _, .nil => .nil
  | _, _, .cons a r => .cons (dp_sub s a) (dpall_sub s r)
end
theorem IsV.dp {v : V} {p : PV} {d : PyData} (h : IsV K cl F H v p) (s : Sub F H) (e : toD p = some d) : Dp K H v d := by
  cases p with
  | lst ps =>
    obtain ⟨a, vs, rfl, h, r⟩ := h
    unfold toD at e
    obtain ⟨ds, e1, rfl⟩ := Option.map_eq_some_iff.mp e
    exact .lst (.inl (.inl h)) (dpall_sub s (r.dp e1))
  | dct ps => cases e
  | tup ps => exact dp_sub s (Is.dp (K := K) (cl := cl) (F := F) h e)
  | fls ps => exact dp_sub s (Is.dp (K := K) (cl := cl) (F := F) h e)
  | non => exact dp_sub s (Is.dp (K := K) (cl := cl) (F := F) h e)
  | bl b => exact dp_sub s (Is.dp (K := K) (cl := cl) (F := F) h e)
  | int i => exact dp_sub s (Is.dp (K := K) (cl := cl) (F := F) h e)
  | str x => exact dp_sub s (Is.dp (K := K) (cl := cl) (F := F) h e)
  | ty n => exact dp_sub s (Is.dp (K := K) (cl := cl) (F := F) h e)
  | ins C fs => exact dp_sub s (Is.dp (K := K) (cl := cl) (F := F) h e)
def eqB (p q : PV) : Option Bool := (toD p).bind fun d => (toD q).bind fun e => if SeqAt.shaped d = true ∧ SeqAt.shaped e = true then some (PyData.eqv d e) else none
def eqP (p q : PV) : Res PV := match eqB p q with
  | some b => .val (.bl b)
  | none => .stuck
def neP (p q : PV) : Res PV := match eqB p q with
  | some b => .val (.bl (!b))
  | none => .stuck
theorem eqB_some {p q : PV} {b : Bool} (h : eqB p q = some b) : ∃ d e, toD p = some d ∧ toD q = some e ∧ SeqAt.shaped d = true ∧ SeqAt.shaped e = true ∧ b = PyData.eqv d e := by
  unfold eqB at h
  obtain ⟨d, e1, h⟩ := Option.bind_eq_some_iff.mp h
  obtain ⟨e, e2, h⟩ := Option.bind_eq_some_iff.mp h
  split at h
  · next c => exact ⟨d, e, e1, e2, c.1, c.2, (Option.some.inj h).symm⟩
  · cases h
theorem o2_eq : Op2 K cl (rEqD K) eqP := fun A H x y p q Q E hA ix iy w => by
  unfold eqP at w
  split at w
  · next b h =>
    obtain ⟨d, e, e1, e2, s1, s2, rfl⟩ := eqB_some h
    exact ⟨d, e, ix.dp frz_sub e1, iy.dp frz_sub e2, s1, s2, w _ H .refl (.bl _)⟩
  · exact w.elim
theorem o2_ne : Op2 K cl (rNeD K) neP := fun A H x y p q Q E hA ix iy w => by
  unfold neP at w
  split at w
  · next b h =>
    obtain ⟨d, e, e1, e2, s1, s2, rfl⟩ := eqB_some h
    exact ⟨d, e, ix.dp frz_sub e1, iy.dp frz_sub e2, s1, s2, w _ H .refl (.bl _)⟩
  · exact w.elim
def isNo : PV → Bool
  | .non => true
  | _ => false
theorem is_non {v : V} {p : PV} (h : Is K cl F v p) : decide (v = .non) = isNo p := by cases h <;> rfl
theorem isV_non {v : V} {p : PV} (h : IsV K cl F H v p) : decide (v = .non) = isNo p := by
  cases p with
  | lst ps => obtain ⟨a, vs, rfl, _⟩ := h; rfl
  | dct ps => obtain ⟨a, vs, rfl, _⟩ := h; rfl
  | _ => exact is_non (K := K) (cl := cl) (F := F) h
def isP : PV → PV → Res PV
  | p, .non => .val (.bl (isNo p))
  | _, _ => .stuck
def isnP : PV → PV → Res PV
  | p, .non => .val (.bl (!isNo p))
  | _, _ => .stuck
theorem o2_is : Op2 K cl (fun x y H Q => y = .non ∧ Q (.bl (decide (x = .non))) H) isP := fun A H x y p q Q E hA ix iy w => by
  unfold isP at w
  split at w
  · cases iy
    exact ⟨rfl, w _ H .refl (by rw [isV_non ix]; exact .bl _)⟩
  · exact w.elim
theorem o2_isn : Op2 K cl (fun x y H Q => y = .non ∧ Q (.bl (!decide (x = .non))) H) isnP := fun A H x y p q Q E hA ix iy w => by
  unfold isnP at w
  split at w
  · cases iy
    exact ⟨rfl, w _ H .refl (by rw [isV_non ix]; exact .bl _)⟩
  · exact w.elim
/-! items -/
def ixP : PV → PV → Res PV
  | .lst xs, .int i => match atI xs i with | some p => .val p | none => .stuck
  | .tup xs, .int i => match atI xs i with | some p => .val p | none => .stuck
  | .fls xs, .int i => match atI xs i with | some p => .val p | none => .stuck
  | _, _ => .stuck
def rIxV (K : PySem.W.Frag) : R2 := rOr (rIxL K) (rIxT K)
theorem ix_V {X : Cx} : IxR X (rIxV X.K) := ix_list.or ix_tup
theorem ix_VK (K : PySem.W.Frag) {X : Cx} (e : X.K = K) : IxR X (rIxV K) := by subst e; exact ix_V
theorem IsL.atI {vs : List V} {ps : List PV} {i : Int} {p : PV} (h : IsL K cl F vs ps) (e : atI ps i = some p) : ∃ v, atI vs i = some v ∧ Is K cl F v p := by
  unfold L2.atI at e ⊢
  rw [h.len]
  cases c : ixN ps.length i with
  | none => rw [c] at e; cases e
  | some j =>
    rw [c] at e
    exact h.get e
theorem o2_ix : Op2 K cl (rIxV K) ixP := fun A H x y p q Q E hA ix iy w => by
  unfold ixP at w
  split at w
  · obtain ⟨a, vs, rfl, ha, la⟩ := ix
    cases isV_int iy
    split at w
    · next c =>
      obtain ⟨v, e, i⟩ := la.atI c
      exact .inl ⟨a, vs, _, v, rfl, rfl, .inl (.inl ha), e, w v H .refl i⟩
    · exact w.elim
  · cases ix with
    | tup ha la =>
    cases isV_int iy
    split at w
    · next c =>
      obtain ⟨v, e, i⟩ := la.atI c
      exact .inr ⟨_, _, _, v, rfl, rfl, frz_sub.sqT ha, e, w v H .refl i⟩
    · exact w.elim
  · cases ix with
    | fls ha la =>
    cases isV_int iy
    split at w
    · next c =>
      obtain ⟨v, e, i⟩ := la.atI c
      exact .inl ⟨_, _, _, v, rfl, rfl, frz_sub.sqL ha, e, w v H .refl i⟩
    · exact w.elim
  · exact w.elim
/-! x in xs: flat things only -/
def flatP : PV → Option V
  | .non => some .non
  | .bl b => some (.bl b)
  | .int i => some (.int i)
  | .str x => some (.str x)
  | _ => none
def flatsP : List PV → Option (List V)
  | [] => some []
  | x :: xs => (flatP x).bind fun v => (flatsP xs).map fun vs => v :: vs
theorem flatP_is {v w : V} {p : PV} (h : Is K cl F v p) (e : flatP p = some w) : v = w ∧ flatV v = true := by
  cases h <;> cases e <;> exact ⟨rfl, rfl⟩
theorem isV_flat {v w : V} {p : PV} (h : IsV K cl F H v p) (e : flatP p = some w) : v = w ∧ flatV v = true := by
  cases p with
  | non => exact flatP_is (K := K) (cl := cl) (F := F) h e
  | bl b => exact flatP_is (K := K) (cl := cl) (F := F) h e
  | int i => exact flatP_is (K := K) (cl := cl) (F := F) h e
  | str x => exact flatP_is (K := K) (cl := cl) (F := F) h e
  | tup ps => cases e
  | lst ps => cases e
  | fls ps => cases e
  | dct ps => cases e
  | ty n => cases e
  | ins C fs => cases e
theorem flatsP_is : ∀ {vs : List V} {ps : List PV} {ws : List V}, IsL K cl F vs ps → flatsP ps = some ws → vs = ws ∧ vs.all flatV = true
  | _, _, _, .nil, e => by cases e; exact ⟨rfl, rfl⟩
  | _, _, _, .cons a r, e => by
    unfold flatsP at e
    obtain ⟨d, e1, e2⟩ := Option.bind_eq_some_iff.mp e
    obtain ⟨ds, e3, rfl⟩ := Option.map_eq_some_iff.mp e2
    obtain ⟨rfl, c1⟩ := flatP_is a e1
    obtain ⟨rfl, c2⟩ := flatsP_is r e3
    exact ⟨rfl, by rw [List.all_cons, c1, c2]; rfl⟩
def inP (neg : Bool) (p q : PV) : Res PV := asSq q >>= fun qs => match flatP p, flatsP qs with
  | some v, some vs => .val (.bl (if neg then !inV v vs else inV v vs))
  | _, _ => .stuck
theorem o2_in {neg : Bool} : Op2 K cl (rIn K neg) (inP neg) := fun A H x y p q Q E hA ix iy w => by
  unfold inP at w
  obtain ⟨a, vs, ps, rfl, hs, hl, w⟩ := wp_asSq (wp_bind.mp w) iy
  split at w
  · next v ws e1 e2 =>
    obtain ⟨rfl, c1⟩ := isV_flat ix e1
    obtain ⟨rfl, c2⟩ := flatsP_is hl e2
    exact ⟨a, vs, rfl, hs.symm, c1, c2, w _ H .refl (.bl _)⟩
  · exact w.elim
/-! built-ins -/
def lenP (p : PV) : Res PV := match p with
  | .str z => if z.length ≤ sizeLine then .val (.int z.length) else .stuck
  | .dct kvs => .val (.int kvs.length)
  | p => asSq p >>= fun ps => .val (.int ps.length)
def rLenS (K : PySem.W.Frag) : List V → Hp → VK → Prop := fun xs H Q => ∃ p ys, xs = [.ref p] ∧ (SqL K H p ys ∨ SqT K H p ys) ∧ Q (.int ys.length) H
def rLenV (K : PySem.W.Frag) : List V → Hp → VK → Prop := cOr (rLenS K) (cOr (fun xs H Q => ∃ z, xs = [.str z] ∧ z.length ≤ sizeLine ∧ Q (.int z.length) H) (fun xs H Q => ∃ a kvs, xs = [V.ref a] ∧ H a = some (.dK kvs) ∧ Q (.int kvs.length) H))
theorem call_lenV {X : Cx} : CallR X (.builtin "len") (rLenV X.K) := call_len_seq.or (call_len_str.or call_lenD)
theorem call_lenVK (K : PySem.W.Frag) {X : Cx} (e : X.K = K) : CallR X (.builtin "len") (rLenV K) := by subst e; exact call_lenV
theorem b1_len : Bi1 K cl (rLenV K) lenP := fun A H x p Q E hA ix w => by
  unfold lenP at w
  split at w
  · cases isV_str ix
    split at w
    · next c => exact .inr (.inl ⟨_, rfl, c, w _ H .refl (.int _)⟩)
    · exact w.elim
  · obtain ⟨a, vs, rfl, ha, la⟩ := ix
    exact .inr (.inr ⟨a, vs, rfl, ha, by rw [la.len]; exact w _ H .refl (.int _)⟩)
  · obtain ⟨a, vs, ps, rfl, hs, hl, w⟩ := wp_asSq (wp_bind.mp w) ix
    exact .inl ⟨a, vs, rfl, hs.symm, by rw [hl.len]; exact w _ H .refl (.int _)⟩
def listP (p : PV) : Res PV := asSq p >>= fun ps => .val (.lst ps)
def rListV (K : PySem.W.Frag) : List V → Hp → VK → Prop := fun xs H Q => ∃ p ys, xs = [.ref p] ∧ (SqL K H p ys ∨ SqT K H p ys) ∧ ∀ l, H l = none → Q (.ref l) (upd H l (.lst ys))
theorem call_listV (K : PySem.W.Frag) {X : Cx} (e : X.K = K) : CallR X (.type "list") (rListV K) := by subst e; exact call_list_of
theorem b1_list : Bi1 K cl (rListV K) listP := fun A H x p Q E hA ix w => by
  obtain ⟨a, vs, ps, rfl, hs, hl, w⟩ := wp_asSq (wp_bind.mp w) ix
  exact ⟨a, vs, rfl, hs.symm, fun l hl' => w _ _ (sub_new hl' _) (new_lst hA hl' hl)⟩
def tupleP (p : PV) : Res PV := asSq p >>= fun ps => .val (.tup ps)
def rTupleV (K : PySem.W.Frag) : List V → Hp → VK → Prop := fun xs H Q => ∃ p ys, xs = [.ref p] ∧ ((SqL K H p ys ∧ ∀ l, H l = none → Q (.ref l) (upd H l (.tup ys))) ∨ (SqT K H p ys ∧ Q (.ref p) H))
theorem call_tupleV (K : PySem.W.Frag) {X : Cx} (e : X.K = K) : CallR X (.type "tuple") (rTupleV K) := by subst e; exact call_tuple_of
theorem b1_tuple : Bi1 K cl (rTupleV K) tupleP := fun A H x p Q E hA ix w => by
  cases p with
  | tup ps =>
    cases ix with
    | tup h r => exact ⟨_, _, rfl, .inr ⟨frz_sub.sqT h, w _ H .refl (.tup h r)⟩⟩
  | lst ps =>
    obtain ⟨a, vs, rfl, h, r⟩ := ix
    exact ⟨a, vs, rfl, .inl ⟨.inl (.inl h), fun l hl => w _ _ (sub_new hl _) (new_tup hA hl r)⟩⟩
  | fls ps =>
    cases ix with
    | fls h r => exact ⟨_, _, rfl, .inl ⟨frz_sub.sqL h, fun l hl => w _ _ (sub_new hl _) (new_tup hA hl r)⟩⟩
  | _ => exact w.elim
/-! int, bool, abs, sum, all, any, isinstance -/
def intP : PV → Res PV
  | .int i => .val (.int i)
  | .bl b => .val (.int (if b then 1 else 0))
  | _ => .stuck
def rIntV : List V → Hp → VK → Prop := fun xs H Q => (∃ i, xs = [.int i] ∧ Q (.int i) H) ∨ ∃ k, xs = [.bl k] ∧ Q (.int (if k then 1 else 0)) H
theorem b1_int : Bi1 K cl rIntV intP := fun A H x p Q E hA ix w => by
  unfold intP at w
  split at w
  · cases isV_int ix; exact .inl ⟨_, rfl, w _ H .refl (.int _)⟩
  · cases isV_bl ix; exact .inr ⟨_, rfl, w _ H .refl (.int _)⟩
  · exact w.elim
def boolP : PV → Res PV
  | .int i => .val (.bl (i != 0))
  | .bl b => .val (.bl b)
  | _ => .stuck
def rBoolV : List V → Hp → VK → Prop := fun xs H Q => (∃ i, xs = [.int i] ∧ Q (.bl (i != 0)) H) ∨ ∃ k, xs = [.bl k] ∧ Q (.bl k) H
theorem b1_bool : Bi1 K cl rBoolV boolP := fun A H x p Q E hA ix w => by
  unfold boolP at w
  split at w
  · cases isV_int ix; exact .inl ⟨_, rfl, w _ H .refl (.bl _)⟩
  · cases isV_bl ix; exact .inr ⟨_, rfl, w _ H .refl (.bl _)⟩
  · exact w.elim
def absP : PV → Res PV
  | .int i => .val (.int (if i < 0 then -i else i))
  | _ => .stuck
theorem b1_abs : Bi1 K cl (fun xs H Q => ∃ i, xs = [.int i] ∧ Q (.int (if i < 0 then -i else i)) H) absP := fun A H x p Q E hA ix w => by
  unfold absP at w
  split at w
  · cases isV_int ix; exact ⟨_, rfl, w _ H .refl (.int _)⟩
  · exact w.elim
def maxP : PV → PV → Res PV := ints2 fun i j => .val (.int (if j > i then j else i))
theorem b2_max : Bi2 K cl (fun xs H Q => ∃ i j, xs = [.int i, .int j] ∧ Q (.int (if j > i then j else i)) H) maxP := o2_ints fun A H i j Q E w => ⟨i, j, rfl, w _ H .refl (.int _)⟩
def minP : PV → PV → Res PV := ints2 fun i j => .val (.int (if j < i then j else i))
theorem b2_min : Bi2 K cl (fun xs H Q => ∃ i j, xs = [.int i, .int j] ∧ Q (.int (if j < i then j else i)) H) minP := o2_ints fun A H i j Q E w => ⟨i, j, rfl, w _ H .refl (.int _)⟩
def allI : List PV → Option (List Int)
  | [] => some []
  | .int i :: r => (allI r).map fun is => i :: is
  | _ :: _ => none
theorem allI_eq : ∀ {ps : List PV} {is : List Int}, allI ps = some is → ps = is.map PV.int
  | [], _, e => by cases e; rfl
  | p :: r, is, e => by
    cases p with
    | int i =>
      obtain ⟨js, e1, rfl⟩ := Option.map_eq_some_iff.mp (show (allI r).map (fun is => i :: is) = some is from e)
      rw [allI_eq e1]
      rfl
    | _ => cases e
theorem allI_map : ∀ is : List Int, allI (is.map PV.int) = some is
  | [] => rfl
  | i :: is => by
    show (allI (is.map PV.int)).map (fun js => i :: js) = _
    rw [allI_map is]
    rfl
def allB : List PV → Option (List Bool)
  | [] => some []
  | .bl i :: r => (allB r).map fun is => i :: is
  | _ :: _ => none
theorem allB_eq : ∀ {ps : List PV} {is : List Bool}, allB ps = some is → ps = is.map PV.bl
  | [], _, e => by cases e; rfl
  | p :: r, is, e => by
    cases p with
    | bl i =>
      obtain ⟨js, e1, rfl⟩ := Option.map_eq_some_iff.mp (show (allB r).map (fun is => i :: is) = some is from e)
      rw [allB_eq e1]
      rfl
    | _ => cases e
theorem allB_map : ∀ is : List Bool, allB (is.map PV.bl) = some is
  | [] => rfl
  | i :: is => by
    show (allB (is.map PV.bl)).map (fun js => i :: js) = _
    rw [allB_map is]
    rfl
def asLi : PV → Res (List PV)
  | .lst ps => .val ps
  | .fls ps => .val ps
  | _ => .stuck
theorem wp_asLi {p : PV} {v : V} {Q : List PV → Prop} {E : Str → Prop} (h : wp (asLi p) Q E) (i : IsV K cl F H v p) (s : Sub F H := by exact frz_sub) : ∃ a vs ps, v = .ref a ∧ SqL K H a vs ∧ IsL K cl F vs ps ∧ Q ps := by
  cases p with
  | lst ps => obtain ⟨a, vs, e, h1, r⟩ := i; exact ⟨a, vs, ps, e, .inl (.inl h1), r, h⟩
  | fls ps => cases i with | fls h1 r => exact ⟨_, _, ps, rfl, s.sqL h1, r, h⟩
  | _ => exact h.elim
def sumP (p : PV) : Res PV := asLi p >>= fun ps => match allI ps with
  | some is => .val (.int is.sum)
  | none => .stuck
theorem b1_sum : Bi1 K cl (rSum K) sumP := fun A H x p Q E hA ix w => by
  obtain ⟨a, vs, ps, rfl, hs, hl, w⟩ := wp_asLi (wp_bind.mp w) ix
  split at w
  · next is e =>
    cases allI_eq e
    cases hl.ints
    exact ⟨a, is, rfl, hs, w _ H .refl (.int _)⟩
  · exact w.elim
def allP (p : PV) : Res PV := asLi p >>= fun ps => match allB ps with
  | some is => .val (.bl (is.all id))
  | none => .stuck
theorem b1_all : Bi1 K cl (rAll K) allP := fun A H x p Q E hA ix w => by
  obtain ⟨a, vs, ps, rfl, hs, hl, w⟩ := wp_asLi (wp_bind.mp w) ix
  split at w
  · next is e =>
    cases allB_eq e
    cases hl.bls
    exact ⟨a, is, rfl, hs, w _ H .refl (.bl _)⟩
  · exact w.elim
def anyP (p : PV) : Res PV := asLi p >>= fun ps => match allB ps with
  | some is => .val (.bl (is.any id))
  | none => .stuck
theorem b1_any : Bi1 K cl (rAny K) anyP := fun A H x p Q E hA ix w => by
  obtain ⟨a, vs, ps, rfl, hs, hl, w⟩ := wp_asLi (wp_bind.mp w) ix
  split at w
  · next is e =>
    cases allB_eq e
    cases hl.bls
    exact ⟨a, is, rfl, hs, w _ H .refl (.bl _)⟩
  · exact w.elim
def tyNm : PV → Option String
  | .non => some "NoneType"
  | .bl _ => some "bool"
  | .int _ => some "int"
  | .str _ => some "str"
  | .tup _ => some "tuple"
  | .lst _ => some "list"
  | .dct _ => some "dict"
  | _ => none
def isiP : PV → PV → Res PV
  | p, .ty T => match (tyNm p).bind fun n => kitB n T with
    | some b => .val (.bl b)
    | none => .stuck
  | _, _ => .stuck
theorem isV_ty {v : V} {p : PV} {n : String} (h : IsV K cl F H v p) (s : Sub F H) (e : tyNm p = some n) : TyX K H v (.type n) := by
  cases p with
  | lst ps => obtain ⟨a, vs, rfl, h, _⟩ := h; cases e; exact .base (.lst h)
  | dct ps => obtain ⟨a, vs, rfl, h, _⟩ := h; cases e; exact .base (.dK h)
  | non => cases h; cases e; exact .base .non
  | bl b => cases h; cases e; exact .base (.bl b)
  | int b => cases h; cases e; exact .base (.int b)
  | str b => cases h; cases e; exact .base (.str b)
  | tup ps =>
    cases h with
    | tup h _ =>
      cases e
      rcases s.sqT h with (h | ⟨o, h⟩) | ⟨o, its, n, h, c, _⟩
      · exact .base (.tup h)
      · exact .fTuple h
      · exact .kTuple h c
  | fls ps => cases e
  | ty m => cases e
  | ins C fs => cases e
theorem b2_isi : Bi2 K cl (rIsi K) isiP := fun A H x y p q Q E hA ix iy w => by
  unfold isiP at w
  split at w
  · next T =>
    cases iy
    split at w
    · next b e =>
      obtain ⟨n, e1, e2⟩ := Option.bind_eq_some_iff.mp e
      exact ⟨x, .ty T, .type n, .type T, b, rfl, .ty _, isV_ty ix frz_sub e1, kit_ty e2, w _ H .refl (.bl _)⟩
    · exact w.elim
  · exact w.elim
end
/-! ### statements -/
inductive Fl (S L : Type) where
  | nx (s : S) | rt (v : PV) (r : List MO) | ro (mo : MO) | bk (l : L) | ct (l : L)
/-- forgetting a slot, freezing a slot -/
inductive Wk : Ro → Ro → Prop
  | nil : Wk [] []
  | keep {s : Slot} {ρ ρ' : Ro} : Wk ρ ρ' → Wk (s :: ρ) (s :: ρ')
  | drop {s : Slot} {ρ ρ' : Ro} : Wk ρ ρ' → Wk (s :: ρ) (.un :: ρ')
  | ice {ps : List PV} {ρ ρ' : Ro} : Wk ρ ρ' → Wk (.ow (.lst ps) :: ρ) (.fz (.lst ps) :: ρ')
  | iced {ps : List (Key × PV)} {ρ ρ' : Ro} : Wk ρ ρ' → Wk (.ow (.dct ps) :: ρ) (.fz (.dct ps) :: ρ')
theorem Wk.refl : ∀ ρ : Ro, Wk ρ ρ
  | [] => .nil
  | _ :: ρ => .keep (Wk.refl ρ)
theorem adr_cons {s : Slot} {x : Option V} {ρ : Ro} {σ : St} {a : Addr} (h : a ∈ adr ρ σ) : a ∈ adr (s :: ρ) (x :: σ) := by
  cases s with
  | un => exact h
  | fz p => exact h
  | ow m =>
    cases x with
    | none => exact h
    | some v => cases v <;> first | exact h | exact List.mem_cons_of_mem _ h
  | rf k m =>
    cases x with
    | none => exact h
    | some v => cases v <;> first | exact h | exact List.mem_cons_of_mem _ h
section
variable {K : PySem.W.Frag} {cl : Str → Option Addr} {W : WX} {bs O : List Addr} {F H H' : Hp} {ρ ρ' : Ro} {σ : St}
theorem Wk.adr (w : Wk ρ ρ') : ∀ {σ : St}, (adr ρ' σ).Sublist (adr ρ σ) ∧ (owa ρ' σ).Sublist (owa ρ σ) := by
  induction w with
  | nil => intro σ; exact ⟨by cases σ <;> exact .slnil, by cases σ <;> exact .slnil⟩
  | @keep s ρ ρ' w ih =>
    intro σ
    cases σ with
    | nil => cases s <;> exact ⟨.slnil, .slnil⟩
    | cons x σ =>
      cases s with
      | un => exact ih
      | fz p => exact ih
      | ow m =>
        cases x with
        | none => exact ih
        | some v => cases v <;> first | exact ih | exact ⟨.cons_cons _ ih.1, .cons_cons _ ih.2⟩
      | rf k m =>
        cases x with
        | none => exact ih
        | some v => cases v <;> first | exact ih | exact ⟨.cons_cons _ ih.1, ih.2⟩
  | @drop s ρ ρ' w ih =>
    intro σ
    cases σ with
    | nil => cases s <;> exact ⟨.slnil, .slnil⟩
    | cons x σ =>
      cases s with
      | un => exact ih
      | fz p => exact ih
      | ow m =>
        cases x with
        | none => exact ih
        | some v => cases v <;> first | exact ih | exact ⟨.cons _ ih.1, .cons _ ih.2⟩
      | rf k m =>
        cases x with
        | none => exact ih
        | some v => cases v <;> first | exact ih | exact ⟨.cons _ ih.1, ih.2⟩
  | ice w ih =>
    intro σ
    cases σ with
    | nil => exact ⟨.slnil, .slnil⟩
    | cons x σ =>
      cases x with
      | none => exact ih
      | some v => cases v <;> first | exact ih | exact ⟨.cons _ ih.1, .cons _ ih.2⟩
  | iced w ih =>
    intro σ
    cases σ with
    | nil => exact ⟨.slnil, .slnil⟩
    | cons x σ =>
      cases x with
      | none => exact ih
      | some v => cases v <;> first | exact ih | exact ⟨.cons _ ih.1, .cons _ ih.2⟩
theorem frz_less {H : Hp} {A A' : List Addr} (h : ∀ a, a ∈ A' → a ∈ A) : Sub (frz H A) (frz H A') := fun x o e => by
  obtain ⟨n, e⟩ := frz_some.mp e
  exact frz_some.mpr ⟨fun z => n (h _ z), e⟩
theorem owa_sub : ∀ {ρ : Ro} {σ : St} {a : Addr}, a ∈ owa ρ σ → a ∈ adr ρ σ
  | [], σ, a, h => by cases σ <;> cases h
  | s :: ρ, [], a, h => by cases s <;> cases h
  | s :: ρ, x :: σ, a, h => by
    cases s with
    | un => exact owa_sub (ρ := ρ) h
    | fz p => exact owa_sub (ρ := ρ) h
    | rf k m => exact adr_cons (owa_sub (ρ := ρ) (by cases x with | none => exact h | some v => cases v <;> exact h))
    | ow m =>
      cases x with
      | none => exact owa_sub (ρ := ρ) h
      | some v =>
        cases v with
        | ref b =>
          rcases List.mem_cons.mp h with e | e
          · rw [e]; exact List.mem_cons_self
          · exact List.mem_cons_of_mem _ (owa_sub e)
        | _ => exact owa_sub (ρ := ρ) h
theorem RelS.wk (w : Wk ρ ρ') : ∀ {σ : St} {F F' : Hp}, Sub F F' → (adr ρ σ).Nodup → (∀ a, a ∈ owa ρ σ → a ∉ adr ρ' σ → ∀ o, H a = some o → F' a = some o) → RelS K cl bs F H ρ σ → RelS K cl bs F' H ρ' σ := by
  induction w with
  | nil => intro σ F F' s nd g r; cases r; exact .nil
  | @keep s ρ ρ' w ih =>
    intro σ F F' sF nd g r
    cases r with
    | @cons _ x _ σ a r =>
      refine .cons (a.mono sF fun _ _ _ h => h) ?_
      cases s with
      | un => exact ih sF nd g r
      | fz p => exact ih sF nd g r
      | ow m =>
        obtain ⟨b, rfl, _⟩ := a
        obtain ⟨n1, nd⟩ := List.nodup_cons.mp nd
        refine ih sF nd (fun a ha na => g a (List.mem_cons_of_mem _ ha) fun z => ?_) r
        rcases List.mem_cons.mp z with e | e
        · exact n1 (e ▸ owa_sub ha)
        · exact na e
      | rf k m =>
        obtain ⟨b, rfl, _⟩ := a
        obtain ⟨n1, nd⟩ := List.nodup_cons.mp nd
        refine ih sF nd (fun a ha na => g a ha fun z => ?_) r
        rcases List.mem_cons.mp z with e | e
        · exact n1 (e ▸ owa_sub ha)
        · exact na e
  | @drop s ρ ρ' w ih =>
    intro σ F F' sF nd g r
    cases r with
    | @cons _ x _ σ a r =>
      refine .cons trivial ?_
      cases s with
      | un => exact ih sF nd g r
      | fz p => exact ih sF nd g r
      | ow m =>
        obtain ⟨b, rfl, _⟩ := a
        exact ih sF (List.nodup_cons.mp nd).2 (fun a ha na => g a (List.mem_cons_of_mem _ ha) na) r
      | rf k m =>
        obtain ⟨b, rfl, _⟩ := a
        exact ih sF (List.nodup_cons.mp nd).2 (fun a ha na => g a ha na) r
  | @ice ps ρ ρ' w ih =>
    intro σ F F' sF nd g r
    cases r with
    | @cons _ x _ σ a r =>
      obtain ⟨b, rfl, vs, hb, hl⟩ := a
      obtain ⟨n1, nd⟩ := List.nodup_cons.mp nd
      refine .cons ⟨_, rfl, .lst (g b List.mem_cons_self (fun z => n1 (w.adr.1.subset z)) _ hb) (hl.mono sF)⟩ ?_
      exact ih sF nd (fun a ha na => g a (List.mem_cons_of_mem _ ha) na) r
  | @iced ps ρ ρ' w ih =>
    intro σ F F' sF nd g r
    cases r with
    | @cons _ x _ σ a r =>
      obtain ⟨b, rfl, vs, hb, hl⟩ := a
      obtain ⟨n1, nd⟩ := List.nodup_cons.mp nd
      refine .cons ⟨_, rfl, .dct (g b List.mem_cons_self (fun z => n1 (w.adr.1.subset z)) _ hb) (hl.mono sF)⟩ ?_
      exact ih sF nd (fun a ha na => g a (List.mem_cons_of_mem _ ha) na) r
theorem Rel.wk (R : Rel K cl O bs ρ σ H) (w : Wk ρ ρ') : Rel K cl O bs ρ' σ H := by
  obtain ⟨sl, nd, al, ow⟩ := R
  have s1 := (w.adr (σ := σ)).1
  refine ⟨sl.wk w (frz_less fun a ha => ?_) nd (fun a ha na o e => frz_some.mpr ⟨fun z => ?_, e⟩), nd.sublist s1, al, fun a ha => ow a ((w.adr (σ := σ)).2.subset ha)⟩
  · rcases List.mem_append.mp ha with c | c
    · exact List.mem_append_left _ c
    · exact List.mem_append_right _ (s1.subset c)
  · rcases List.mem_append.mp z with c | c
    · exact ow a ha c
    · exact na c
end
/-! ### statements: the judgement -/
def nad : Ro → Nat → Bool
  | [], _ => false
  | .un :: _, 0 => true
  | .fz _ :: _, 0 => true
  | _ :: _, 0 => false
  | _ :: ρ, i + 1 => nad ρ i
def brs : Ro → List MO
  | [] => []
  | .rf _ m :: ρ => m :: brs ρ
  | _ :: ρ => brs ρ
def rfB : Nat → Ro → Bool
  | _, [] => true
  | n, .rf k _ :: ρ => (k == n) && rfB (n + 1) ρ
  | n, _ :: ρ => rfB n ρ
def uns (n : Nat) : Ro := List.replicate n .un
theorem wk_uns : ∀ {ρ : Ro} {n : Nat}, ρ.length = n → Wk ρ (uns n)
  | [], _, rfl => .nil
  | _ :: ρ, _, rfl => .drop (wk_uns (ρ := ρ) rfl)
section
variable (K : PySem.W.Frag) (cl : Str → Option Addr) (W : WX)
def FlOk {S L : Type} (O bs : List Addr) (ρn : S → Ro) (ρl : L → Ro) (D : Ends) (A : List Addr) (H : Hp) : Fl S L → Prop
  | .nx s => ∀ σ' H', Gr A H (adr (ρn s) σ') H' → Rel K cl O bs (ρn s) σ' H' → D.nx σ' H'
  | .bk s => ∀ σ' H', Gr A H (adr (ρl s) σ') H' → Rel K cl O bs (ρl s) σ' H' → D.bk σ' H'
  | .ct s => ∀ σ' H', Gr A H (adr (ρl s) σ') H' → Rel K cl O bs (ρl s) σ' H' → D.ct σ' H'
  | .rt v r => ∀ (w : V) (H' : Hp), Gr A H [] H' → Is K cl (frz H' O) w v → (∀ (k : Nat) (b : Addr) (m : MO), bs[k]? = some b → r[k]? = some m → MoIs K cl (frz H' O) H' b m) → D.rt w H'
  | .ro mo => ∀ (p : Addr) (H' : Hp), Gr A H [p] H' → p ∉ O → MoIs K cl (frz H' (p :: O)) H' p mo → D.rt (.ref p) H'
def ExOk (O bs : List Addr) (ρx : Ro) (A : List Addr) (H : Hp) (c : Str) : Prop := ∀ C σ' H', cl c = some C → Gr A H (adr ρx σ') H' → Rel K cl O bs ρx σ' H' → W (.ref C) none σ' H'
def Runs {S L : Type} (t : TS) (ρ : Ro) (m : Res (Fl S L)) (ρn : S → Ro) (ρl : L → Ro) (ρx : Ro) : Prop := ∀ (O bs : List Addr) (σ : St) (H : Hp) (D : Ends), Rel K cl O bs ρ σ H → (∀ b, b ∈ bs → b ∈ O) →
  wp m (FlOk K cl O bs ρn ρl D (adr ρ σ) H) (ExOk K cl W O bs ρx (adr ρ σ) H) → t D σ H
end
section
variable {K : PySem.W.Frag} {cl : Str → Option Addr} {W : WX} {bs O A A1 : List Addr} {F H H' H1 : Hp} {ρ ρ' ρx : Ro} {σ : St} {S S1 L : Type} {ρn : S → Ro} {ρj : S1 → Ro} {ρl : L → Ro} {D : Ends} {t u v : TS} {te : TE} {m : Res PV}
theorem FlOk.step {f : Fl S L} (h : FlOk K cl O bs ρn ρl D A H f) (g : Gr A H A1 H1) : FlOk K cl O bs ρn ρl D A1 H1 f := by
  cases f with
  | nx s => exact fun σ' H' g' R => h σ' H' (g.trans g') R
  | bk s => exact fun σ' H' g' R => h σ' H' (g.trans g') R
  | ct s => exact fun σ' H' g' R => h σ' H' (g.trans g') R
  | rt v r => exact fun w H' g' i b => h w H' (g.trans g') i b
  | ro mo => exact fun p H' g' n i => h p H' (g.trans g') n i
theorem ExOk.step {c : Str} (h : ExOk K cl W O bs ρx A H c) (g : Gr A H A1 H1) : ExOk K cl W O bs ρx A1 H1 c := fun C σ' H' e g' R => h C σ' H' e (g.trans g') R
theorem Gr.wk (w : Wk ρ ρ') : Gr (adr ρ σ) H (adr ρ' σ) H := ⟨fun _ _ _ h => h, fun _ h => .inl (w.adr.1.subset h)⟩
theorem ExOk.xw {c : Str} (h : ExOk K cl W O bs ρx (adr ρ σ) H c) (R : Rel K cl O bs ρ σ H) (w : Wk ρ ρx) : XW cl W σ H c := fun C H' e s => h C σ H' e ((Gr.of s).trans (Gr.wk w)) ((R.same s).wk w)
theorem run_one {M : Res (Fl S L)} (h : Runs K cl W (tSeq t tNext) ρ M ρn ρl ρx) : Runs K cl W t ρ M ρn ρl ρx := h
theorem run_assoc {M : Res (Fl S L)} (h : Runs K cl W (tSeq t (tSeq u v)) ρ M ρn ρl ρx) : Runs K cl W (tSeq (tSeq t u) v) ρ M ρn ρl ρx := h
theorem run_skip {M : Res (Fl S L)} (h : Runs K cl W u ρ M ρn ρl ρx) : Runs K cl W (tSeq tNext u) ρ M ρn ρl ρx := h
theorem run_next {s : S} (w : Wk ρ (ρn s)) : Runs K cl W tNext ρ (.val (.nx s)) ρn ρl ρx := fun O bs σ H D R hb q => q σ H (Gr.wk w) (R.wk w)
theorem run_break {s : L} (w : Wk ρ (ρl s)) : Runs (S := S) K cl W (tSeq tBreak u) ρ (.val (.bk s)) ρn ρl ρx := fun O bs σ H D R hb q => q σ H (Gr.wk w) (R.wk w)
theorem run_cont {s : L} (w : Wk ρ (ρl s)) : Runs (S := S) K cl W (tSeq tCont u) ρ (.val (.ct s)) ρn ρl ρx := fun O bs σ H D R hb q => q σ H (Gr.wk w) (R.wk w)
theorem run_wk {M : Res (Fl S L)} (w : Wk ρ ρ') (h : Runs K cl W t ρ' M ρn ρl ρx) : Runs K cl W t ρ M ρn ρl ρx := fun O bs σ H D R hb q =>
  h O bs σ H D (R.wk w) hb (wp_mono q (fun _ z => z.step (Gr.wk w)) fun _ z => z.step (Gr.wk w))
/-! setting a slot -/
theorem adr_setn : ∀ {ρ : Ro} {σ : St} {i : Nat} {p : PV} {x : Option V}, nad ρ i = true → adr (ρ.set i (.fz p)) (σ.set i x) = adr ρ σ
  | [], σ, i, p, x, h => by cases h
  | s :: ρ, [], i, p, x, h => by
    cases i with
    | zero => cases s <;> first | rfl | cases h
    | succ i => cases s <;> rfl
  | s :: ρ, y :: σ, 0, p, x, h => by cases s <;> first | rfl | cases h
  | s :: ρ, y :: σ, i + 1, p, x, h => by
    have ih := adr_setn (ρ := ρ) (σ := σ) (i := i) (p := p) (x := x) (by cases s <;> exact h)
    show adr (s :: ρ.set i (.fz p)) (y :: σ.set i x) = adr (s :: ρ) (y :: σ)
    cases s with
    | un => exact ih
    | fz q => exact ih
    | ow m => cases y with
      | none => exact ih
      | some v => cases v <;> first | exact ih | exact congrArg (_ :: ·) ih
    | rf k m => cases y with
      | none => exact ih
      | some v => cases v <;> first | exact ih | exact congrArg (_ :: ·) ih
theorem owa_setn : ∀ {ρ : Ro} {σ : St} {i : Nat} {p : PV} {x : Option V}, nad ρ i = true → owa (ρ.set i (.fz p)) (σ.set i x) = owa ρ σ
  | [], σ, i, p, x, h => by cases h
  | s :: ρ, [], i, p, x, h => by
    cases i with
    | zero => cases s <;> first | rfl | cases h
    | succ i => cases s <;> rfl
  | s :: ρ, y :: σ, 0, p, x, h => by cases s <;> first | rfl | cases h
  | s :: ρ, y :: σ, i + 1, p, x, h => by
    have ih := owa_setn (ρ := ρ) (σ := σ) (i := i) (p := p) (x := x) (by cases s <;> exact h)
    show owa (s :: ρ.set i (.fz p)) (y :: σ.set i x) = owa (s :: ρ) (y :: σ)
    cases s with
    | un => exact ih
    | fz q => exact ih
    | ow m => cases y with
      | none => exact ih
      | some v => cases v <;> first | exact ih | exact congrArg (_ :: ·) ih
    | rf k m => cases y with
      | none => exact ih
      | some v => cases v <;> first | exact ih
theorem RelS.set {F : Hp} (r : RelS K cl bs F H ρ σ) {i : Nat} {s : Slot} {x : Option V} (h : SlotIs K cl bs F H s x) : RelS K cl bs F H (ρ.set i s) (σ.set i x) := by
  induction r generalizing i with
  | nil => exact .nil
  | cons a r ih =>
    cases i with
    | zero => exact .cons h r
    | succ i => exact .cons a ih
theorem Rel.setfz (R : Rel K cl O bs ρ σ H) {i : Nat} {p : PV} {v : V} (hn : nad ρ i = true) (h : Is K cl (frz H (O ++ adr ρ σ)) v p) : Rel K cl O bs (ρ.set i (.fz p)) (σ.set i (some v)) H := by
  have e := adr_setn (σ := σ) (p := p) (x := some v) hn
  refine ⟨?_, by rw [e]; exact R.nd, R.al, by rw [owa_setn hn]; exact R.ow⟩
  rw [e]
  exact R.sl.set ⟨v, rfl, h⟩
theorem adr_seto : ∀ {ρ : Ro} {σ : St} {i : Nat} {m : MO} {p : Addr}, ρ.length = σ.length → nad ρ i = true → (adr (ρ.set i (.ow m)) (σ.set i (some (.ref p)))).Perm (p :: adr ρ σ) ∧ (owa (ρ.set i (.ow m)) (σ.set i (some (.ref p)))).Perm (p :: owa ρ σ)
  | [], σ, i, m, p, _, h => by cases h
  | s :: ρ, [], i, m, p, e, h => by cases e
  | s :: ρ, y :: σ, 0, m, p, _, h => by cases s <;> first | exact ⟨.refl _, .refl _⟩ | cases h
  | s :: ρ, y :: σ, i + 1, m, p, e, h => by
    have ih := adr_seto (ρ := ρ) (σ := σ) (i := i) (m := m) (p := p) (Nat.succ.inj e) (by cases s <;> exact h)
    show (adr (s :: ρ.set i (.ow m)) (y :: σ.set i (some (.ref p)))).Perm (p :: adr (s :: ρ) (y :: σ)) ∧ (owa (s :: ρ.set i (.ow m)) (y :: σ.set i (some (.ref p)))).Perm (p :: owa (s :: ρ) (y :: σ))
    cases s with
    | un => exact ih
    | fz q => exact ih
    | ow m => cases y with
      | none => exact ih
      | some v => cases v <;> first | exact ih | exact ⟨(ih.1.cons _).trans (.swap _ _ _), (ih.2.cons _).trans (.swap _ _ _)⟩
    | rf k m => cases y with
      | none => exact ih
      | some v => cases v <;> first | exact ih | exact ⟨(ih.1.cons _).trans (.swap _ _ _), ih.2⟩
/-- a new object becomes owned -/
theorem Rel.setow (R : Rel K cl O bs ρ σ H) {i : Nat} {mo : MO} {p : Addr} (s : Sub H H') (hn : nad ρ i = true) (hp : H p = none) (h : MoIs K cl (frz H' (p :: (O ++ adr ρ σ))) H' p mo) :
    Rel K cl O bs (ρ.set i (.ow mo)) (σ.set i (some (.ref p))) H' ∧ Gr (adr ρ σ) H (adr (ρ.set i (.ow mo)) (σ.set i (some (.ref p)))) H' := by
  obtain ⟨e1, e2⟩ := adr_seto (ρ := ρ) (σ := σ) (i := i) (m := mo) (p := p) R.sl.len hn
  have np : p ∉ O ++ adr ρ σ := fun z => by
    obtain ⟨o, e⟩ := R.got z
    rw [hp] at e; cases e
  have memA : ∀ a, a ∈ adr (ρ.set i (.ow mo)) (σ.set i (some (.ref p))) → a = p ∨ a ∈ adr ρ σ := fun a ha => List.mem_cons.mp (e1.mem_iff.mp ha)
  refine ⟨⟨?_, e1.nodup_iff.mpr (List.nodup_cons.mpr ⟨fun z => np (List.mem_append_right _ z), R.nd⟩), fun a ha => let ⟨o, e⟩ := R.al a ha; ⟨o, s _ _ e⟩, fun a ha => ?_⟩, ⟨fun x o _ h => s _ _ h, fun x hx => ?_⟩⟩
  · have s1 : Sub (frz H (O ++ adr ρ σ)) (frz H' (O ++ adr (ρ.set i (.ow mo)) (σ.set i (some (.ref p))))) := fun x o e => by
      obtain ⟨n, e⟩ := frz_some.mp e
      refine frz_some.mpr ⟨fun z => ?_, s _ _ e⟩
      rcases List.mem_append.mp z with c | c
      · exact n (List.mem_append_left _ c)
      · rcases memA x c with c | c
        · rw [c, hp] at e; cases e
        · exact n (List.mem_append_right _ c)
    have s2 : Sub (frz H' (p :: (O ++ adr ρ σ))) (frz H' (O ++ adr (ρ.set i (.ow mo)) (σ.set i (some (.ref p))))) := frz_less fun a ha => by
      rcases List.mem_append.mp ha with c | c
      · exact List.mem_cons_of_mem _ (List.mem_append_left _ c)
      · rcases memA a c with c | c
        · rw [c]; exact List.mem_cons_self
        · exact List.mem_cons_of_mem _ (List.mem_append_right _ c)
    exact (R.sl.mono s1 fun a o _ e => s _ _ e).set ⟨p, rfl, h.mono s2 fun _ e => e⟩
  · rcases List.mem_cons.mp (e2.mem_iff.mp ha) with c | c
    · rw [c]; exact fun z => np (List.mem_append_left _ z)
    · exact R.ow a c
  · rcases memA x hx with c | c
    · rw [c]; exact .inr hp
    · exact .inl c
theorem run_set {i : Nat} {n : PV → Res (Fl S L)} (he : Pur K cl W te ρ m) (hn : nad ρ i = true) (w : Wk ρ ρx) (h : ∀ x, Runs K cl W u (ρ.set i (.fz x)) (n x) ρn ρl ρx) : Runs K cl W (tSeq (tAsg te (gName i)) u) ρ (m >>= n) ρn ρl ρx := fun O bs σ H D R hb q => by
  refine he O bs σ H _ R (wp_mono (wp_bind.mp q) (fun x qx v H' s ix => ?_) fun _ z => z.xw R w)
  have g : Gr (adr ρ σ) H (adr (ρ.set i (.fz x)) (σ.set i (some v))) H' := by rw [adr_setn hn]; exact Gr.of s
  exact h x O bs _ H' D ((R.same s).setfz hn ix) hb (wp_mono qx (fun _ z => z.step g) fun _ z => z.step g)
/-! new lists -/
end
section
variable (K : PySem.W.Frag) (cl : Str → Option Addr) (W : WX)
def New (t : TE) (ρ : Ro) (m : Res (List PV)) : Prop := ∀ (O bs : List Addr) (σ : St) (H : Hp) (Q : VK), Rel K cl O bs ρ σ H →
  wp m (fun ps => ∀ p vs H', Sub H H' → H p = none → H' p = some (.lst vs) → IsL K cl (frz H' (p :: (O ++ adr ρ σ))) vs ps → Q (.ref p) H') (XW cl W σ H) → t σ H Q
def NewD (t : TE) (ρ : Ro) (m : Res (List (Key × PV))) : Prop := ∀ (O bs : List Addr) (σ : St) (H : Hp) (Q : VK), Rel K cl O bs ρ σ H →
  wp m (fun ps => ∀ p vs H', Sub H H' → H p = none → H' p = some (.dK vs) → IsK K cl (frz H' (p :: (O ++ adr ρ σ))) vs ps → Q (.ref p) H') (XW cl W σ H) → t σ H Q
end
section
variable {K : PySem.W.Frag} {cl : Str → Option Addr} {W : WX} {bs O A A1 : List Addr} {F H H' H1 : Hp} {ρ ρ' ρx : Ro} {σ : St} {S S1 L : Type} {ρn : S → Ro} {ρj : S1 → Ro} {ρl : L → Ro} {D : Ends} {t u v : TS} {te ta tb : TE} {m ma mb : Res PV} {tr : TA} {ml : Res (List PV)} {md : Res (List (Key × PV))}
theorem New.pur (h : New K cl W te ρ ml) : Pur K cl W te ρ (ml >>= fun ps => .val (.lst ps)) := fun O bs σ H Q R q => by
  refine h O bs σ H Q R (wp_mono (wp_bind.mp q) (fun ps qs p vs H' s hp hv hl => qs _ H' s (.lst (frz_some.mpr ⟨fun z => ?_, hv⟩) (hl.mono (frz_less fun a ha => List.mem_cons_of_mem _ ha)))) fun _ z => z)
  obtain ⟨o, e⟩ := R.got z
  rw [hp] at e; cases e
theorem NewD.pur (h : NewD K cl W te ρ md) : Pur K cl W te ρ (md >>= fun ps => .val (.dct ps)) := fun O bs σ H Q R q => by
  refine h O bs σ H Q R (wp_mono (wp_bind.mp q) (fun ps qs p vs H' s hp hv hl => qs _ H' s (.dct (frz_some.mpr ⟨fun z => ?_, hv⟩) (hl.mono (frz_less fun a ha => List.mem_cons_of_mem _ ha)))) fun _ z => z)
  obtain ⟨o, e⟩ := R.got z
  rw [hp] at e; cases e
theorem frz_new {p : Addr} (hp : H1 p = none) {A : List Addr} (o : HO) : Sub (frz H1 A) (frz (upd H1 p o) (p :: A)) := fun x u e => by
  obtain ⟨n, e⟩ := frz_some.mp e
  have ne : x ≠ p := ne_of_none e hp
  refine frz_some.mpr ⟨fun z => ?_, by rw [upd_ne ne]; exact e⟩
  rcases List.mem_cons.mp z with c | c
  · exact ne c
  · exact n c
theorem none_back (s : Sub H H1) {p : Addr} (h : H1 p = none) : H p = none := by
  cases e : H p with
  | none => rfl
  | some o => rw [s _ _ e] at h; cases h
def mkN (ps : List PV) : Res (List PV) := sized ps.length >>= fun _ => .val ps
theorem nw_lst (hl : PurL K cl W tr ρ ml) : New K cl W (tLst tr) ρ (ml >>= mkN) := fun O bs σ H Q R q => by
  refine hl O bs σ H _ R (wp_mono (wp_bind.mp q) (fun ps qs vs H1 s1 i1 => ?_) fun _ z => z)
  obtain ⟨z, qs⟩ := wp_sized (wp_bind.mp qs)
  exact ⟨by rw [i1.len]; exact z, fun p hp => qs p vs _ (s1.trans (sub_new hp _)) (none_back s1 hp) upd_same (i1.mono (frz_new hp _))⟩
theorem nw_list (ha : Vw K cl W ta ρ ma) : New K cl W (tCB (rListV K) (tCons ta tNil)) ρ (ma >>= asSq) := fun O bs σ H Q R q => by
  refine ha O bs σ H _ R (wp_mono (wp_bind.mp q) (fun x qx v1 H1 s1 i1 => ?_) fun _ z => z)
  obtain ⟨a, vs, ps, rfl, hs, hl, w⟩ := wp_asSq qx i1
  exact ⟨a, vs, rfl, hs.symm, fun l hl' => w l vs _ (s1.trans (sub_new hl' _)) (none_back s1 hl') upd_same (hl.mono (frz_new hl' _))⟩
theorem nw_rep (ha : Vw K cl W ta ρ ma) (hb : Vw K cl W tb ρ mb) : New K cl W (tOp rMulV ta tb) ρ (ma >>= fun x => mb >>= fun y => repL x y >>= asSq) := fun O bs σ H Q R q => by
  refine ha O bs σ H _ R (wp_mono (wp_bind.mp q) (fun x qx v1 H1 s1 i1 => ?_) fun _ z => z)
  have R1 := R.same s1
  refine hb O bs σ H1 _ R1 (wp_mono (wp_bind.mp qx) (fun y qy v2 H2 s2 i2 => ?_) fun _ z => z.mono s1)
  have i1' := i1.mono (frz_same (A := O ++ adr ρ σ) s2) s2
  have w := wp_bind.mp qy
  unfold repL at w
  split at w
  · obtain ⟨a, vs, rfl, ha, la⟩ := i1'
    cases isV_int i2
    split at w
    · next c =>
      rw [← la.len] at c
      have s12 := s1.trans s2
      exact .inr ⟨a, _, vs, rfl, rfl, ha, c.1, c.2.1, c.2.2, fun p hp => w p _ _ (s12.trans (sub_new hp _)) (none_back s12 hp) upd_same ((la.reps _).mono (frz_new hp _))⟩
    · exact w.elim
  · exact w.elim
theorem nd_new : NewD K cl W tDNewK ρ (.val []) := fun O bs σ H Q R q p hp => q p [] _ (sub_new hp _) hp upd_same .nil
theorem run_setow {i : Nat} {n : List PV → Res (Fl S L)} (he : New K cl W te ρ ml) (hn : nad ρ i = true) (w : Wk ρ ρx) (h : ∀ x, Runs K cl W u (ρ.set i (.ow (.lst x))) (n x) ρn ρl ρx) : Runs K cl W (tSeq (tAsg te (gName i)) u) ρ (ml >>= n) ρn ρl ρx := fun O bs σ H D R hb q => by
  refine he O bs σ H _ R (wp_mono (wp_bind.mp q) (fun x qx p vs H' s hp hv hl => ?_) fun _ z => z.xw R w)
  obtain ⟨R', g⟩ := R.setow (mo := .lst x) s hn hp ⟨vs, hv, hl⟩
  exact h x O bs _ H' D R' hb (wp_mono qx (fun _ z => z.step g) fun _ z => z.step g)
theorem run_setowd {i : Nat} {n : List (Key × PV) → Res (Fl S L)} (he : NewD K cl W te ρ md) (hn : nad ρ i = true) (w : Wk ρ ρx) (h : ∀ x, Runs K cl W u (ρ.set i (.ow (.dct x))) (n x) ρn ρl ρx) : Runs K cl W (tSeq (tAsg te (gName i)) u) ρ (md >>= n) ρn ρl ρx := fun O bs σ H D R hb q => by
  refine he O bs σ H _ R (wp_mono (wp_bind.mp q) (fun x qx p vs H' s hp hv hl => ?_) fun _ z => z.xw R w)
  obtain ⟨R', g⟩ := R.setow (mo := .dct x) s hn hp ⟨vs, hv, hl⟩
  exact h x O bs _ H' D R' hb (wp_mono qx (fun _ z => z.step g) fun _ z => z.step g)
/-! return, if, raise -/
theorem mem_adr0 : ∀ {ρ : Ro} {σ : St} {i : Nat} {mo : MO} {a : Addr}, ρ[i]? = some (.ow mo) → σ[i]? = some (some (.ref a)) → a ∈ adr ρ σ ∧ a ∈ owa ρ σ
  | [], σ, i, mo, a, h, _ => by simp at h
  | s0 :: ρ, [], i, mo, a, h, e => by simp at e
  | s0 :: ρ, x :: σ, 0, mo, a, h, e => by
    simp at h e
    subst h; subst e
    exact ⟨List.mem_cons_self, List.mem_cons_self⟩
  | s0 :: ρ, x :: σ, i + 1, mo, a, h, e => by
    have ih := mem_adr0 (ρ := ρ) (σ := σ) (i := i) (by simpa using h) (by simpa using e)
    refine ⟨adr_cons ih.1, ?_⟩
    have q := ih.2
    cases s0 with
    | un => exact q
    | fz p => exact q
    | rf k m => cases x with
      | none => exact q
      | some v => cases v <;> exact q
    | ow m => cases x with
      | none => exact q
      | some v => cases v <;> first | exact q | exact List.mem_cons_of_mem _ q
theorem Rel.mem_adr (_ : Rel K cl O bs ρ σ H) {i : Nat} {mo : MO} {a : Addr} (h : ρ[i]? = some (.ow mo)) (e : σ[i]? = some (some (.ref a))) : a ∈ adr ρ σ := (mem_adr0 h e).1
theorem Rel.mem_owa (_ : Rel K cl O bs ρ σ H) {i : Nat} {mo : MO} {a : Addr} (h : ρ[i]? = some (.ow mo)) (e : σ[i]? = some (some (.ref a))) : a ∈ owa ρ σ := (mem_adr0 h e).2
theorem run_retNew (he : New K cl W te ρ ml) (w : Wk ρ ρx) : Runs (S := S) K cl W (tSeq (tRet te) u) ρ (ml >>= fun l => .val (.ro (.lst l))) ρn ρl ρx := fun O bs σ H D R hb q => by
  refine he O bs σ H _ R (wp_mono (wp_bind.mp q) (fun l ql p vs H' s hp hv hl => ?_) fun _ z => z.xw R w)
  refine ql p H' ⟨fun x o _ h => s _ _ h, fun x hx => ?_⟩ (fun z => ?_) ⟨vs, hv, hl.mono (frz_less fun b hb => ?_)⟩
  · have : x = p := by simpa using hx
    rw [this]; exact .inr hp
  · obtain ⟨o, e⟩ := R.al p z
    rw [hp] at e; cases e
  · rcases List.mem_cons.mp hb with c | c
    · rw [c]; exact List.mem_cons_self
    · exact List.mem_cons_of_mem _ (List.mem_append_left _ c)
theorem brs_rf : ∀ {ρ : Ro} {n : Nat}, rfB n ρ = true → ∀ {k : Nat} {mo : MO}, (brs ρ)[k]? = some mo → Slot.rf (n + k) mo ∈ ρ
  | [], n, h, k, mo, e => by simp [brs] at e
  | s :: ρ, n, h, k, mo, e => by
    cases s with
    | un => exact List.mem_cons_of_mem _ (brs_rf (ρ := ρ) h e)
    | fz p => exact List.mem_cons_of_mem _ (brs_rf (ρ := ρ) h e)
    | ow m => exact List.mem_cons_of_mem _ (brs_rf (ρ := ρ) h e)
    | rf j m =>
      have h' := Bool.and_eq_true_iff.mp (show (j == n && rfB (n + 1) ρ) = true from h)
      have hj : j = n := by simpa using h'.1
      cases k with
      | zero =>
        simp [brs] at e
        rw [hj, e]
        exact List.mem_cons_self
      | succ k =>
        have e' : (brs ρ)[k]? = some mo := by simpa [brs] using e
        have q := brs_rf (ρ := ρ) h'.2 e'
        rw [show n + (k + 1) = n + 1 + k by omega]
        exact List.mem_cons_of_mem _ q
theorem Rel.byref (R : Rel K cl O bs ρ σ H) (hr : rfB 0 ρ = true) {k : Nat} {b : Addr} {mo : MO} (hb : bs[k]? = some b) (e : (brs ρ)[k]? = some mo) : MoIs K cl (frz H O) H b mo := by
  have q := brs_rf hr e
  rw [Nat.zero_add] at q
  obtain ⟨i, hi, e2⟩ := List.getElem_of_mem q
  obtain ⟨x, h1, a, rfl, h3, h4⟩ := R.sl.get (List.getElem?_eq_some_iff.mpr ⟨hi, e2⟩)
  rw [hb] at h3
  cases h3
  exact h4.mono (frz_less fun a ha => List.mem_append_left _ ha) fun _ e => e
theorem run_ret {r : List MO} (he : Pur K cl W te ρ m) (hr : rfB 0 ρ = true) (e : brs ρ = r) (w : Wk ρ ρx) : Runs (S := S) K cl W (tSeq (tRet te) u) ρ (m >>= fun x => .val (.rt x r)) ρn ρl ρx := fun O bs σ H D R hb q => by
  subst e
  refine he O bs σ H _ R (wp_mono (wp_bind.mp q) (fun x qx v H' s ix => ?_) fun _ z => z.xw R w)
  exact qx v H' ⟨fun a o _ h => s _ _ h, fun _ z => by cases z⟩ (ix.mono (frz_less fun a ha => List.mem_append_left _ ha)) fun k b mo h1 h2 => (R.same s).byref hr h1 h2
/-- an owned thing is given away -/
theorem run_retO {i : Nat} {mo : MO} (h : ρ[i]? = some (.ow mo)) : Runs (S := S) K cl W (tSeq (tRet (tVar i)) u) ρ (.val (.ro mo)) ρn ρl ρx := fun O bs σ H D R hb q => by
  obtain ⟨x, e, a, rfl, hm⟩ := R.sl.get h
  have ma : a ∈ adr ρ σ := R.mem_adr h e
  refine ⟨_, e, q a H ⟨fun _ _ _ h => h, fun x hx => ?_⟩ (R.ow a (R.mem_owa h e)) (hm.mono (frz_less fun b hb => ?_) fun _ e => e)⟩
  · have : x = a := by simpa using hx
    rw [this]; exact .inl ma
  · rcases List.mem_cons.mp hb with c | c
    · rw [c]; exact List.mem_append_right _ ma
    · exact List.mem_append_left _ c
theorem run_retN {r : List MO} (hr : rfB 0 ρ = true) (e : brs ρ = r) : Runs (S := S) K cl W (tSeq tRetN u) ρ (.val (.rt .non r)) ρn ρl ρx := fun O bs σ H D R hb q => by
  subst e
  exact q .non H ⟨fun a o _ h => h, fun _ z => by cases z⟩ .non fun k b mo h1 h2 => R.byref hr h1 h2
theorem run_if {c : TT} {mc : Res Bool} {M1 M2 : Res (Fl S L)} (hc : Tst K cl W c ρ mc) (w : Wk ρ ρx) (h1 : Runs K cl W (tSeq t u) ρ M1 ρn ρl ρx) (h2 : Runs K cl W (tSeq v u) ρ M2 ρn ρl ρx) : Runs K cl W (tSeq (tIfS c t v) u) ρ (mc >>= fun b => if b = true then M1 else M2) ρn ρl ρx := fun O bs σ H D R hb q => by
  refine hc O bs σ H _ R (wp_mono (wp_bind.mp q) (fun b qb H' s => ?_) fun _ z => z.xw R w)
  have g := Gr.of (A := adr ρ σ) s
  cases b with
  | true => exact h1 O bs σ H' D (R.same s) hb (wp_mono qb (fun _ z => z.step g) fun _ z => z.step g)
  | false => exact h2 O bs σ H' D (R.same s) hb (wp_mono qb (fun _ z => z.step g) fun _ z => z.step g)
def seqF (M : Res (Fl S1 L)) (n : S1 → Res (Fl S L)) : Res (Fl S L) := M >>= fun f => match f with
  | .nx s => n s
  | .rt v r => .val (.rt v r)
  | .ro mo => .val (.ro mo)
  | .bk l => .val (.bk l)
  | .ct l => .val (.ct l)
/-- one statement as it stands, then the rest -/
theorem run_seq {M : Res (Fl S1 L)} {n : S1 → Res (Fl S L)} (h1 : Runs K cl W t ρ M ρj ρl ρx) (h2 : ∀ s, Runs K cl W u (ρj s) (n s) ρn ρl ρx) : Runs K cl W (tSeq t u) ρ (seqF M n) ρn ρl ρx := fun O bs σ H D R hb q => by
  refine h1 O bs σ H { D with nx := u D } R hb (wp_mono (wp_bind.mp q) (fun f qf => ?_) fun _ z => z)
  cases f with
  | nx s => exact fun σ' H' g R' => h2 s O bs σ' H' D R' hb (wp_mono qf (fun _ z => z.step g) fun _ z => z.step g)
  | rt v r => exact qf
  | ro mo => exact qf
  | bk l => exact qf
  | ct l => exact qf
/-! owned lists and dicts, changed -/
theorem adr_at : ∀ {ρ : Ro} {σ : St} {i : Nat} {s : Slot} {a : Addr}, ρ[i]? = some s → σ[i]? = some (some (.ref a)) → (∃ mo, s = .ow mo) ∨ (∃ k mo, s = .rf k mo) → a ∈ adr ρ σ
  | [], σ, i, s, a, h, _, _ => by simp at h
  | s0 :: ρ, [], i, s, a, h, e, _ => by simp at e
  | s0 :: ρ, x :: σ, 0, s, a, h, e, z => by
    simp at h e
    subst h; subst e
    rcases z with ⟨mo, rfl⟩ | ⟨k, mo, rfl⟩ <;> exact List.mem_cons_self
  | s0 :: ρ, x :: σ, i + 1, s, a, h, e, z => adr_cons (adr_at (ρ := ρ) (σ := σ) (i := i) (by simpa using h) (by simpa using e) z)
def reSl (s : Slot) (m' : MO) : Slot := match s with
  | .ow _ => .ow m'
  | .rf k _ => .rf k m'
  | s => s
theorem adr_re : ∀ {ρ : Ro} {σ : St} {i : Nat} {s : Slot} {m' : MO}, ρ[i]? = some s → adr (ρ.set i (reSl s m')) σ = adr ρ σ ∧ owa (ρ.set i (reSl s m')) σ = owa ρ σ
  | [], σ, i, s, m', h => by simp at h
  | s0 :: ρ, [], i, s, m', h => by
    cases i with
    | zero => simp at h; subst h; cases s0 <;> exact ⟨rfl, rfl⟩
    | succ i => cases s0 <;> exact ⟨rfl, rfl⟩
  | s0 :: ρ, x :: σ, 0, s, m', h => by
    simp at h; subst h
    cases s0 with
    | un => exact ⟨rfl, rfl⟩
    | fz p => exact ⟨rfl, rfl⟩
    | ow m => cases x with
      | none => exact ⟨rfl, rfl⟩
      | some v => cases v <;> exact ⟨rfl, rfl⟩
    | rf k m => cases x with
      | none => exact ⟨rfl, rfl⟩
      | some v => cases v <;> exact ⟨rfl, rfl⟩
  | s0 :: ρ, x :: σ, i + 1, s, m', h => by
    have ih := adr_re (ρ := ρ) (σ := σ) (i := i) (m' := m') (s := s) (by simpa using h)
    show adr (s0 :: ρ.set i (reSl s m')) (x :: σ) = adr (s0 :: ρ) (x :: σ) ∧ owa (s0 :: ρ.set i (reSl s m')) (x :: σ) = owa (s0 :: ρ) (x :: σ)
    cases s0 with
    | un => exact ih
    | fz p => exact ih
    | ow m => cases x with
      | none => exact ih
      | some v => cases v <;> first | exact ih | exact ⟨congrArg (_ :: ·) ih.1, congrArg (_ :: ·) ih.2⟩
    | rf k m => cases x with
      | none => exact ih
      | some v => cases v <;> first | exact ih | exact ⟨congrArg (_ :: ·) ih.1, ih.2⟩
theorem nodup_at : ∀ {ρ : Ro} {σ : St} {i j : Nat} {s s' : Slot} {a : Addr}, (adr ρ σ).Nodup → ρ[i]? = some s → ρ[j]? = some s' → σ[i]? = some (some (.ref a)) → σ[j]? = some (some (.ref a)) → (∃ mo, s = .ow mo) ∨ (∃ k mo, s = .rf k mo) → (∃ mo, s' = .ow mo) ∨ (∃ k mo, s' = .rf k mo) → i = j
  | [], σ, i, j, s, s', a, _, h, _, _, _, _, _ => by simp at h
  | s0 :: ρ, [], i, j, s, s', a, _, _, _, e, _, _, _ => by simp at e
  | s0 :: ρ, x :: σ, 0, 0, s, s', a, _, _, _, _, _, _, _ => rfl
  | s0 :: ρ, x :: σ, 0, j + 1, s, s', a, nd, h, h', e, e', z, z' => by
    simp at h e
    subst h; subst e
    have q := adr_at (ρ := ρ) (σ := σ) (i := j) (by simpa using h') (by simpa using e') z'
    rcases z with ⟨mo, rfl⟩ | ⟨k, mo, rfl⟩ <;> exact absurd q (List.nodup_cons.mp nd).1
  | s0 :: ρ, x :: σ, i + 1, 0, s, s', a, nd, h, h', e, e', z, z' => by
    simp at h' e'
    subst h'; subst e'
    have q := adr_at (ρ := ρ) (σ := σ) (i := i) (by simpa using h) (by simpa using e) z
    rcases z' with ⟨mo, rfl⟩ | ⟨k, mo, rfl⟩ <;> exact absurd q (List.nodup_cons.mp nd).1
  | s0 :: ρ, x :: σ, i + 1, j + 1, s, s', a, nd, h, h', e, e', z, z' => by
    refine congrArg (· + 1) (nodup_at (ρ := ρ) (σ := σ) ?_ (by simpa using h) (by simpa using h') (by simpa using e) (by simpa using e') z z')
    cases s0 with
    | un => exact nd
    | fz p => exact nd
    | ow m => cases x with
      | none => exact nd
      | some v => cases v <;> first | exact nd | exact (List.nodup_cons.mp nd).2
    | rf k m => cases x with
      | none => exact nd
      | some v => cases v <;> first | exact nd | exact (List.nodup_cons.mp nd).2
/-- the object at a slot gets another content -/
theorem Rel.putH (R : Rel K cl O bs ρ σ H) {i : Nat} {s : Slot} {mo m' : MO} {a : Addr} {H2 : Hp} (hk : ∀ x o, x ≠ a → H x = some o → H2 x = some o) (hg : ∃ o, H2 a = some o) (hi : ρ[i]? = some s) (hs : s = .ow mo ∨ ∃ k, s = .rf k mo) (ha : σ[i]? = some (some (.ref a)))
    (h : MoIs K cl (frz H2 (O ++ adr ρ σ)) H2 a m') : Rel K cl O bs (ρ.set i (reSl s m')) σ H2 ∧ Gr (adr ρ σ) H (adr (ρ.set i (reSl s m')) σ) H2 := by
  have hz : (∃ mo, s = .ow mo) ∨ (∃ k mo, s = .rf k mo) := hs.imp (fun e => ⟨_, e⟩) fun ⟨k, e⟩ => ⟨k, _, e⟩
  have ma := adr_at hi ha hz
  obtain ⟨e1, e2⟩ := adr_re (σ := σ) (m' := m') hi
  have keep : ∀ x u, x ∉ adr ρ σ → H x = some u → H2 x = some u := fun x u n e => hk x u (fun z => n (by rw [z]; exact ma)) e
  have sF : Sub (frz H (O ++ adr ρ σ)) (frz H2 (O ++ adr ρ σ)) := fun x u e => by
    obtain ⟨n, e⟩ := frz_some.mp e
    exact frz_some.mpr ⟨n, keep x u (fun z => n (List.mem_append_right _ z)) e⟩
  refine ⟨⟨?_, by rw [e1]; exact R.nd, fun b hb => ?_, by rw [e2]; exact R.ow⟩, by rw [e1]; exact ⟨keep, fun x hx => .inl hx⟩⟩
  · rw [e1]
    -- each slot: i has the new content, the others stand
    have go : ∀ (ρ0 : Ro) (σ0 : St) (i0 : Nat), RelS K cl bs (frz H (O ++ adr ρ σ)) H ρ0 σ0 → (∀ j, ρ0[j]? = ρ[i0 + j]? ∧ σ0[j]? = σ[i0 + j]?) → i0 ≤ i → RelS K cl bs (frz H2 (O ++ adr ρ σ)) H2 (ρ0.set (i - i0) (reSl s m')) σ0 := by
      intro ρ0
      induction ρ0 with
      | nil => intro σ0 i0 r _ _; cases r; exact .nil
      | cons s0 ρ0 ih =>
        intro σ0 i0 r hj hle
        cases r with
        | @cons _ x _ σ0 b r =>
          by_cases c : i0 = i
          · subst c
            rw [Nat.sub_self]
            have h0 := hj 0
            rw [Nat.add_zero, hi, ha] at h0
            simp at h0
            obtain ⟨rfl, rfl⟩ := h0
            refine .cons ?_ ?_
            · rcases hs with rfl | ⟨k, rfl⟩
              · exact ⟨a, rfl, h⟩
              · obtain ⟨a', e, hk, _⟩ := b
                cases e
                exact ⟨a, rfl, hk, h⟩
            · -- the rest of the slots have other addresses
              have far : ∀ (ρ1 : Ro) (σ1 : St) (j0 : Nat), RelS K cl bs (frz H (O ++ adr ρ σ)) H ρ1 σ1 → (∀ j, ρ1[j]? = ρ[j0 + j]? ∧ σ1[j]? = σ[j0 + j]?) → i0 < j0 → RelS K cl bs (frz H2 (O ++ adr ρ σ)) H2 ρ1 σ1 := by
                intro ρ1
                induction ρ1 with
                | nil => intro σ1 j0 r _ _; cases r; exact .nil
                | cons s1 ρ1 ih1 =>
                  intro σ1 j0 r hj1 hlt
                  cases r with
                  | @cons _ x1 _ σ1 b1 r1 =>
                    refine .cons (b1.mono sF fun a1 o1 z1 e1 => ?_) (ih1 σ1 (j0 + 1) r1 (fun j => ?_) (by omega))
                    · have h1 := hj1 0
                      rw [Nat.add_zero] at h1
                      simp at h1
                      refine hk _ _ (fun z => ?_) e1
                      · subst z
                        have hz1 : (∃ mo, s1 = .ow mo) ∨ (∃ k mo, s1 = .rf k mo) := by
                          obtain ⟨_, n1, n2⟩ := z1
                          cases s1 with
                          | un => exact absurd rfl n1
                          | fz p => exact absurd rfl (n2 p)
                          | ow m => exact .inl ⟨m, rfl⟩
                          | rf k m => exact .inr ⟨k, m, rfl⟩
                        have := nodup_at R.nd hi h1.1.symm ha (by rw [← h1.2, z1.1]) hz hz1
                        omega
                    · have := hj1 (j + 1)
                      rw [show j0 + 1 + j = j0 + (j + 1) by omega]
                      simpa using this
              refine far ρ0 σ0 (i0 + 1) r (fun j => ?_) (by omega)
              have := hj (j + 1)
              rw [show i0 + 1 + j = i0 + (j + 1) by omega]
              simpa using this
          · rw [show i - i0 = (i - (i0 + 1)) + 1 by omega]
            refine .cons (b.mono sF fun a1 o1 z1 e1 => ?_) (ih σ0 (i0 + 1) r (fun j => ?_) (by omega))
            · have h1 := hj 0
              rw [Nat.add_zero] at h1
              simp at h1
              refine hk _ _ (fun z => ?_) e1
              · subst z
                have hz1 : (∃ mo, s0 = .ow mo) ∨ (∃ k mo, s0 = .rf k mo) := by
                  obtain ⟨_, n1, n2⟩ := z1
                  cases s0 with
                  | un => exact absurd rfl n1
                  | fz p => exact absurd rfl (n2 p)
                  | ow m => exact .inl ⟨m, rfl⟩
                  | rf k m => exact .inr ⟨k, m, rfl⟩
                exact c (nodup_at R.nd hi h1.1.symm ha (by rw [← h1.2, z1.1]) hz hz1).symm
            · have := hj (j + 1)
              rw [show i0 + 1 + j = i0 + (j + 1) by omega]
              simpa using this
    have := go ρ σ 0 R.sl (fun j => by rw [Nat.zero_add]; exact ⟨rfl, rfl⟩) (Nat.zero_le _)
    rwa [Nat.sub_zero] at this
  · obtain ⟨u, e⟩ := R.al b hb
    by_cases c : b = a
    · rw [c]; exact hg
    · exact ⟨u, hk _ _ c e⟩
theorem Rel.put (R : Rel K cl O bs ρ σ H) {i : Nat} {s : Slot} {mo m' : MO} {a : Addr} {o : HO} (hi : ρ[i]? = some s) (hs : s = .ow mo ∨ ∃ k, s = .rf k mo) (ha : σ[i]? = some (some (.ref a)))
    (h : MoIs K cl (frz H (O ++ adr ρ σ)) (upd H a o) a m') : Rel K cl O bs (ρ.set i (reSl s m')) σ (upd H a o) ∧ Gr (adr ρ σ) H (adr (ρ.set i (reSl s m')) σ) (upd H a o) := by
  have ma := adr_at hi ha (hs.imp (fun e => ⟨_, e⟩) fun ⟨k, e⟩ => ⟨k, _, e⟩)
  refine R.putH (fun x u n e => by rw [upd_ne n]; exact e) ⟨o, upd_same⟩ hi hs ha (h.mono (fun x u e => ?_) fun _ e => e)
  obtain ⟨n, e⟩ := frz_some.mp e
  exact frz_some.mpr ⟨n, by rw [upd_ne fun z => n (List.mem_append_right _ (by rw [z]; exact ma))]; exact e⟩
end
/-! ### targets, loops, comprehensions -/
section
variable (K : PySem.W.Frag) (cl : Str → Option Addr)
def TgtE (g : TG) (vs : List Nat) (ρ : Ro) {α : Type} (d : PV → Res α) (ρe : α → Ro) : Prop := ∀ (x : PV) (O bs : List Addr) (σ : St) (H : Hp) (v : V) (Q : St → Hp → Prop) (E : Str → Prop), Rel K cl O bs ρ (wipe σ vs) H → Is K cl (frz H (O ++ adr ρ (wipe σ vs))) v x →
  wp (d x) (fun a => ∀ σ2, Rel K cl O bs (ρe a) σ2 H → adr (ρe a) σ2 = adr ρ (wipe σ vs) → (vs ≠ [] → wipe σ2 vs = wipe σ vs) → Q σ2 H) E → g v (wipe σ vs) H Q
/-- what an iterator yields -/
def ItOk (P : Hp → Prop) (F : Hp) (J : It) (ps : List PV) : Prop := ∀ (H : Hp) (B : List Addr), P H → Sub F (frz H B) → (∀ a, a ∈ B → ∃ o, H a = some o) → J.stop ps.length H ∧
  ∀ i p, ps[i]? = some p → J.go i H ∧ ∀ x H', J.yld i H x H' → Sub H H' ∧ Is K cl (frz H' B) x p
def Iter (W : WX) (wi : TI) (ρ : Ro) (mi : Res (List PV)) : Prop := ∀ (O bs : List Addr) (σ : St) (H : Hp) (R : It → Hp → Prop), Rel K cl O bs ρ σ H →
  wp mi (fun ps => ∀ J H', Sub H H' → ItOk K cl (fun _ => True) (frz H' (O ++ adr ρ σ)) J ps → R J H') (XW cl W σ H) → wi σ H R
def IterV (W : WX) (wi : TI) (ρ : Ro) (mi : Res (List PV)) : Prop := ∀ (O bs : List Addr) (σ : St) (H : Hp) (R : It → Hp → Prop), Rel K cl O bs ρ σ H →
  wp mi (fun ps => ∀ J H', Sub H H' → ItOk K cl (Sub H') (frz H' (O ++ adr ρ σ)) J ps → R J H') (XW cl W σ H) → wi σ H R
end
section
variable {K : PySem.W.Frag} {cl : Str → Option Addr} {W : WX} {bs O A A1 : List Addr} {F H H' H1 : Hp} {ρ ρ' ρx : Ro} {σ : St} {S S1 L : Type} {ρn : S → Ro} {ρj : S1 → Ro} {ρl : L → Ro} {D : Ends} {t u v tb : TS} {te ta tc : TE} {m ma mb : Res PV} {tr : TA} {ml : Res (List PV)} {md : Res (List (Key × PV))}
theorem wipe_get : ∀ {vs : List Nat} {σ : St} {k : Nat}, (wipe σ vs)[k]? = if k ∈ vs then σ[k]?.map (fun _ => none) else σ[k]?
  | [], σ, k => by simp [wipe]
  | v :: vs, σ, k => by
    show ((wipe σ vs).set v none)[k]? = _
    by_cases c : v = k
    · subst c
      rw [List.getElem?_set_self']
      rw [if_pos List.mem_cons_self, wipe_get]
      by_cases d : v ∈ vs
      · rw [if_pos d]
        cases σ[v]? <;> rfl
      · rw [if_neg d]
        cases σ[v]? <;> rfl
    · rw [List.getElem?_set_ne c, wipe_get]
      by_cases d : k ∈ vs
      · rw [if_pos d, if_pos (List.mem_cons_of_mem _ d)]
      · rw [if_neg d, if_neg (fun z => (List.mem_cons.mp z).elim (fun e => c e.symm) d)]
theorem wipe_set {vs : List Nat} {σ τ : St} {i : Nat} {x : Option V} (hi : i ∈ vs) (h : wipe τ vs = wipe σ vs) : wipe (τ.set i x) vs = wipe σ vs := by
  rw [← h]
  refine List.ext_getElem? fun k => ?_
  rw [wipe_get, wipe_get]
  by_cases c : k ∈ vs
  · rw [if_pos c, if_pos c]
    by_cases e : i = k
    · subst e
      rw [List.getElem?_set_self']
      cases τ[i]? <;> rfl
    · rw [List.getElem?_set_ne e]
  · rw [if_neg c, if_neg c, List.getElem?_set_ne fun z => c (by rw [← z]; exact hi)]
theorem wipe_wipe {vs : List Nat} {σ : St} : wipe (wipe σ vs) vs = wipe σ vs := by
  refine List.ext_getElem? fun k => ?_
  rw [wipe_get, wipe_get]
  by_cases c : k ∈ vs
  · rw [if_pos c, if_pos c]
    cases σ[k]? <;> rfl
  · rw [if_neg c, if_neg c]
theorem tg_name {i : Nat} {vs : List Nat} (hn : nad ρ i = true) (hv : vs = [] ∨ i ∈ vs) : TgtE K cl (gName i) vs ρ (fun x => .val x) (fun x => ρ.set i (.fz x)) := fun x O bs σ H v Q E R ix q => by
  refine q _ (R.setfz hn ix) (adr_setn hn) fun ne => ?_
  rcases hv with rfl | hv
  · exact absurd rfl ne
  · exact wipe_set hv wipe_wipe
def un2 : PV → Res (PV × PV)
  | .tup [a, b] => .val (a, b)
  | _ => .stuck
def un3 : PV → Res (PV × PV × PV)
  | .tup [a, b, c] => .val (a, b, c)
  | _ => .stuck
def un4 : PV → Res (PV × PV × PV × PV)
  | .tup [a, b, c, d] => .val (a, b, c, d)
  | _ => .stuck
theorem nad_set : ∀ {ρ : Ro} {i j : Nat} {p : PV}, nad ρ j = true → nad (ρ.set i (.fz p)) j = true
  | [], i, j, p, h => by cases h
  | s :: ρ, 0, 0, p, h => rfl
  | s :: ρ, 0, j + 1, p, h => by cases s <;> exact h
  | s :: ρ, i + 1, 0, p, h => by cases s <;> exact h
  | s :: ρ, i + 1, j + 1, p, h => by
    show nad (s :: ρ.set i (.fz p)) (j + 1) = true
    cases s <;> exact nad_set (ρ := ρ) h
theorem tg_2 {i j : Nat} {vs : List Nat} (hi : nad ρ i = true) (hj : nad ρ j = true) (hv : vs = [] ∨ (i ∈ vs ∧ j ∈ vs)) : TgtE K cl (gTup K 2 (gCons (gName i) (gCons (gName j) gNil))) vs ρ un2 (fun x => (ρ.set i (.fz x.1)).set j (.fz x.2)) := fun x O bs σ H v Q E R ix q => by
  unfold un2 at q
  split at q
  · cases ix with
    | tup h l =>
    cases l with
    | cons a l =>
    cases l with
    | cons b l =>
    cases l
    refine ⟨_, _, rfl, frz_sub.sqT h, rfl, _, _, rfl, _, _, rfl, rfl, ?_⟩
    have R1 := R.setfz hi a
    have e1 := adr_setn (σ := wipe σ vs) (p := ‹PV›) (x := some ‹V›) hi
    refine q _ (Rel.setfz (R.setfz hi a) (nad_set hj) (by rw [adr_setn hi]; exact b)) ?_ fun ne => ?_
    · rw [adr_setn (nad_set hj), adr_setn hi]
    · rcases hv with rfl | ⟨h1, h2⟩
      · exact absurd rfl ne
      · exact wipe_set h2 (wipe_set h1 wipe_wipe)
  · exact q.elim
theorem tg_3 {i j k : Nat} {vs : List Nat} (hi : nad ρ i = true) (hj : nad ρ j = true) (hk : nad ρ k = true) (hv : vs = [] ∨ (i ∈ vs ∧ j ∈ vs ∧ k ∈ vs)) : TgtE K cl (gTup K 3 (gCons (gName i) (gCons (gName j) (gCons (gName k) gNil)))) vs ρ un3 (fun x => ((ρ.set i (.fz x.1)).set j (.fz x.2.1)).set k (.fz x.2.2)) := fun x O bs σ H v Q E R ix q => by
  unfold un3 at q
  split at q
  · cases ix with
    | tup h l =>
    cases l with
    | cons a l =>
    cases l with
    | cons b l =>
    cases l with
    | cons c l =>
    cases l
    refine ⟨_, _, rfl, frz_sub.sqT h, rfl, _, _, rfl, _, _, rfl, _, _, rfl, rfl, ?_⟩
    refine q _ (Rel.setfz (Rel.setfz (R.setfz hi a) (nad_set hj) (by rw [adr_setn hi]; exact b)) (nad_set (nad_set hk)) (by rw [adr_setn (nad_set hj), adr_setn hi]; exact c)) ?_ fun ne => ?_
    · rw [adr_setn (nad_set (nad_set hk)), adr_setn (nad_set hj), adr_setn hi]
    · rcases hv with rfl | ⟨h1, h2, h3⟩
      · exact absurd rfl ne
      · exact wipe_set h3 (wipe_set h2 (wipe_set h1 wipe_wipe))
  · exact q.elim
theorem tg_4 {i j k l' : Nat} {vs : List Nat} (hi : nad ρ i = true) (hj : nad ρ j = true) (hk : nad ρ k = true) (hl : nad ρ l' = true) (hv : vs = [] ∨ (i ∈ vs ∧ j ∈ vs ∧ k ∈ vs ∧ l' ∈ vs)) : TgtE K cl (gTup K 4 (gCons (gName i) (gCons (gName j) (gCons (gName k) (gCons (gName l') gNil))))) vs ρ un4 (fun x => (((ρ.set i (.fz x.1)).set j (.fz x.2.1)).set k (.fz x.2.2.1)).set l' (.fz x.2.2.2)) := fun x O bs σ H v Q E R ix q => by
  unfold un4 at q
  split at q
  · cases ix with
    | tup h l =>
    cases l with
    | cons a l =>
    cases l with
    | cons b l =>
    cases l with
    | cons c l =>
    cases l with
    | cons d l =>
    cases l
    refine ⟨_, _, rfl, frz_sub.sqT h, rfl, _, _, rfl, _, _, rfl, _, _, rfl, _, _, rfl, rfl, ?_⟩
    refine q _ (Rel.setfz (Rel.setfz (Rel.setfz (R.setfz hi a) (nad_set hj) (by rw [adr_setn hi]; exact b)) (nad_set (nad_set hk)) (by rw [adr_setn (nad_set hj), adr_setn hi]; exact c)) (nad_set (nad_set (nad_set hl))) (by rw [adr_setn (nad_set (nad_set hk)), adr_setn (nad_set hj), adr_setn hi]; exact d)) ?_ fun ne => ?_
    · rw [adr_setn (nad_set (nad_set (nad_set hl))), adr_setn (nad_set (nad_set hk)), adr_setn (nad_set hj), adr_setn hi]
    · rcases hv with rfl | ⟨h1, h2, h3, h4⟩
      · exact absurd rfl ne
      · exact wipe_set h4 (wipe_set h3 (wipe_set h2 (wipe_set h1 wipe_wipe)))
  · exact q.elim
/-- x = e, a, b = e -/
theorem run_asg {g : TG} {α : Type} {d : PV → Res α} {ρe : α → Ro} {n : α → Res (Fl S L)} (he : Pur K cl W te ρ m) (hg : TgtE K cl g [] ρ d ρe) (w : Wk ρ ρx) (h : ∀ a, Runs K cl W u (ρe a) (n a) ρn ρl ρx) :
    Runs K cl W (tSeq (tAsg te g) u) ρ (m >>= fun x => d x >>= n) ρn ρl ρx := fun O bs σ H D R hb q => by
  refine he O bs σ H _ R (wp_mono (wp_bind.mp q) (fun x qx v H' s ix => ?_) fun _ z => z.xw R w)
  refine hg x O bs σ H' v _ _ (R.same s) ix (wp_mono (wp_bind.mp qx) (fun a qa σ2 R2 e _ => ?_) fun _ z => z)
  have gr : Gr (adr ρ σ) H (adr (ρe a) σ2) H' := by rw [e]; exact Gr.of s
  exact h a O bs σ2 H' D R2 hb (wp_mono qa (fun _ z => z.step gr) fun _ z => z.step gr)
/-! for -/
def forF {S L : Type} (body : PV → S → Res (Fl S S)) : List PV → S → Res (Fl S L)
  | [], s => .val (.nx s)
  | x :: xs, s => body x s >>= fun f => match f with
    | .nx s' => forF body xs s'
    | .ct s' => forF body xs s'
    | .bk s' => .val (.nx s')
    | .rt v r => .val (.rt v r)
    | .ro mo => .val (.ro mo)
theorem run_for {wi : TI} {g : TG} {mi : Res (List PV)} {α : Type} {d : PV → Res α} {ρs : S → Ro} {ρe : S → α → Ro} {s0 : S} {body : α → S → Res (Fl S S)} (hi : Iter K cl W wi ρ mi) (w0 : Wk ρ (ρs s0)) (w : Wk ρ ρx) (hg : ∀ s, TgtE K cl g [] (ρs s) d (ρe s))
    (hb : ∀ a s, Runs K cl W tb (ρe s a) (body a s) ρs ρs ρx) : Runs K cl W (tFor wi g tb) ρ (mi >>= fun ps => forF (fun x s => d x >>= fun a => body a s) ps s0) ρs ρl ρx := fun O bs σ H D R hbs q => by
  refine hi O bs σ H _ R (wp_mono (wp_bind.mp q) (fun ps qp J H1 s1 hJ => ?_) fun _ z => z.xw R w)
  have R1 := R.same s1
  have g1 : Gr (adr ρ σ) H (adr (ρs s0) σ) H1 := (Gr.of s1).trans (Gr.wk w0)
  refine ⟨fun i mm σ' H' => mm = ps.length - i ∧ i ≤ ps.length ∧ ∃ s, Rel K cl O bs (ρs s) σ' H' ∧ Gr (adr ρ σ) H (adr (ρs s) σ') H' ∧ Sub (frz H1 (O ++ adr ρ σ)) (frz H' (O ++ adr (ρs s) σ')) ∧
      wp (forF (L := L) (fun x s => d x >>= fun a => body a s) (ps.drop i) s) (FlOk K cl O bs ρs ρl D (adr ρ σ) H) (ExOk K cl W O bs ρx (adr ρ σ) H),
    ⟨_, rfl, Nat.zero_le _, s0, R1.wk w0, g1, Gr.sub (Gr.wk w0) R1.al, by rw [List.drop_zero]; exact qp⟩, ?_⟩
  rintro i mm σ' H' ⟨rfl, hle, s, R', g', sF, qw⟩
  obtain ⟨hs, hg'⟩ := hJ H' _ trivial sF (fun a ha => R'.got ha)
  by_cases c : i = ps.length
  · subst c
    rw [List.drop_length] at qw
    exact .inl ⟨hs, qw σ' H' g' R'⟩
  · have hlt : i < ps.length := by omega
    obtain ⟨hgo, hy⟩ := hg' i _ (List.getElem?_eq_getElem hlt)
    rw [List.drop_eq_getElem_cons hlt] at qw
    refine .inr ⟨hgo, fun σ2 H2 => ∃ s', Rel K cl O bs (ρs s') σ2 H2 ∧ Gr (adr ρ σ) H (adr (ρs s') σ2) H2 ∧ Sub (frz H1 (O ++ adr ρ σ)) (frz H2 (O ++ adr (ρs s') σ2)) ∧ wp (forF (L := L) (fun x s => d x >>= fun a => body a s) (ps.drop (i + 1)) s') (FlOk K cl O bs ρs ρl D (adr ρ σ) H) (ExOk K cl W O bs ρx (adr ρ σ) H),
      fun σ2 H2 ⟨s', z⟩ => ⟨_, by omega, rfl, by omega, s', z⟩, fun x H2 hyx => ?_⟩
    obtain ⟨s2, ix⟩ := hy x H2 hyx
    have R2 := R'.same s2
    have qw := wp_bind.mp (wp_bind.mp qw)
    refine hg s ps[i] O bs σ' H2 x _ _ R2 ix (wp_mono qw (fun a qa σ3 R3 e3 _ => ?_) fun _ z => z)
    have g3 : Gr (adr ρ σ) H (adr (ρe s a) σ3) H2 := by rw [e3]; exact g'.trans (Gr.of s2)
    have sF3 : Sub (frz H1 (O ++ adr ρ σ)) (frz H2 (O ++ adr (ρe s a) σ3)) := by rw [e3]; exact sF.trans (frz_same s2)
    refine hb a s O bs σ3 H2 _ R3 hbs (wp_mono qa (fun f qf => ?_) fun _ z => z.step g3)
    cases f with
    | nx s' => exact fun σ4 H4 g4 R4 => ⟨s', R4, g3.trans g4, sF3.trans (g4.sub R3.al), qf⟩
    | ct s' => exact fun σ4 H4 g4 R4 => ⟨s', R4, g3.trans g4, sF3.trans (g4.sub R3.al), qf⟩
    | bk s' => exact fun σ4 H4 g4 R4 => qf σ4 H4 (g3.trans g4) R4
    | rt v r => exact FlOk.step (f := Fl.rt v r) qf g3
    | ro mo => exact FlOk.step (f := Fl.ro mo) qf g3
/-! while -/
def whileF {S L : Type} (c : S → Res Bool) (body : S → Res (Fl S S)) : Nat → S → Res (Fl S L)
  | 0, _ => .stuck
  | n + 1, s => c s >>= fun b => if b = true then body s >>= fun f => match f with
      | .nx s' => whileF c body n s'
      | .ct s' => whileF c body n s'
      | .bk s' => .val (.nx s')
      | .rt v r => .val (.rt v r)
      | .ro mo => .val (.ro mo)
    else .val (.nx s)
theorem run_while {c : TT} {ρs : S → Ro} {s0 : S} {fuel : Nat} {mc : S → Res Bool} {body : S → Res (Fl S S)} (w0 : Wk ρ (ρs s0)) (w : ∀ s, Wk (ρs s) ρx) (hc : ∀ s, Tst K cl W c (ρs s) (mc s))
    (hb : ∀ s, Runs K cl W tb (ρs s) (body s) ρs ρs ρx) : Runs K cl W (tWhile c tb) ρ (whileF mc body fuel s0) ρs ρl ρx := fun O bs σ H D R hbs q => by
  refine ⟨fun mm σ' H' => ∃ s, Rel K cl O bs (ρs s) σ' H' ∧ Gr (adr ρ σ) H (adr (ρs s) σ') H' ∧ wp (whileF (L := L) mc body mm s) (FlOk K cl O bs ρs ρl D (adr ρ σ) H) (ExOk K cl W O bs ρx (adr ρ σ) H),
    ⟨fuel, s0, R.wk w0, Gr.wk w0, q⟩, ?_⟩
  rintro mm σ' H' ⟨s, R', g', qw⟩
  cases mm with
  | zero => exact qw.elim
  | succ mm =>
    refine hc s O bs σ' H' _ R' (wp_mono (wp_bind.mp qw) (fun b qb H2 s2 => ?_) fun _ z => (z.step g').xw R' (w s))
    have R2 := R'.same s2
    have g2 := g'.trans (Gr.of s2)
    cases b with
    | false => exact qb σ' H2 g2 R2
    | true =>
      refine ⟨fun σ2 H2 => ∃ s', Rel K cl O bs (ρs s') σ2 H2 ∧ Gr (adr ρ σ) H (adr (ρs s') σ2) H2 ∧ wp (whileF (L := L) mc body mm s') (FlOk K cl O bs ρs ρl D (adr ρ σ) H) (ExOk K cl W O bs ρx (adr ρ σ) H), fun σ2 H2 z => ⟨mm, Nat.lt_succ_self _, z⟩, ?_⟩
      refine hb s O bs σ' H2 _ R2 hbs (wp_mono (wp_bind.mp qb) (fun f qf => ?_) fun _ z => z.step g2)
      cases f with
      | nx s' => exact fun σ4 H4 g4 R4 => ⟨s', R4, g2.trans g4, qf⟩
      | ct s' => exact fun σ4 H4 g4 R4 => ⟨s', R4, g2.trans g4, qf⟩
      | bk s' => exact fun σ4 H4 g4 R4 => qf σ4 H4 (g2.trans g4) R4
      | rt v r => exact FlOk.step (f := Fl.rt v r) qf g2
      | ro mo => exact FlOk.step (f := Fl.ro mo) qf g2
/-! a list comprehension whose parts change nothing -/
def noX {α : Type} : Res α → Res α
  | .val a => .val a
  | _ => .stuck
theorem wp_noX {α : Type} {mm : Res α} {Q : α → Prop} {E E' : Str → Prop} (h : wp (noX mm) Q E) : wp mm Q E' := by
  cases mm with
  | val a => exact h
  | exc c => exact h.elim
  | stuck => exact h.elim
def lcF {α : Type} (d : PV → Res α) (c : α → Res Bool) (e : α → Res PV) : List PV → Res (List PV)
  | [] => .val []
  | x :: xs => noX (d x) >>= fun a => noX (c a) >>= fun b => if b = true then noX (e a) >>= fun y => lcF d c e xs >>= fun ys => .val (y :: ys) else lcF d c e xs
def nads (ρ : Ro) (vs : List Nat) : Bool := vs.all fun i => nad ρ i
theorem adr_setu : ∀ {ρ : Ro} {σ : St} {i : Nat} {x : Option V}, nad ρ i = true → adr ρ (σ.set i x) = adr ρ σ ∧ owa ρ (σ.set i x) = owa ρ σ
  | [], σ, i, x, h => by cases h
  | s :: ρ, [], i, x, h => ⟨rfl, rfl⟩
  | s :: ρ, y :: σ, 0, x, h => by cases s <;> first | exact ⟨rfl, rfl⟩ | cases h
  | s :: ρ, y :: σ, i + 1, x, h => by
    have ih := adr_setu (ρ := ρ) (σ := σ) (i := i) (x := x) (by cases s <;> exact h)
    show adr (s :: ρ) (y :: σ.set i x) = adr (s :: ρ) (y :: σ) ∧ owa (s :: ρ) (y :: σ.set i x) = owa (s :: ρ) (y :: σ)
    cases s with
    | un => exact ih
    | fz q => exact ih
    | ow m => cases y with
      | none => exact ih
      | some v => cases v <;> first | exact ih | exact ⟨congrArg (_ :: ·) ih.1, congrArg (_ :: ·) ih.2⟩
    | rf k m => cases y with
      | none => exact ih
      | some v => cases v <;> first | exact ih | exact ⟨congrArg (_ :: ·) ih.1, ih.2⟩
def wipeR (ρ : Ro) : List Nat → Ro
  | [] => ρ
  | v :: vs => (wipeR ρ vs).set v .un
theorem RelS.setun {F : Hp} (r : RelS K cl bs F H ρ σ) {i : Nat} {x : Option V} : RelS K cl bs F H (ρ.set i .un) (σ.set i x) := r.set trivial
theorem adr_wipe1 : ∀ {ρ : Ro} {σ : St} {i : Nat} {x : Option V}, nad ρ i = true → adr (ρ.set i .un) (σ.set i x) = adr ρ σ ∧ owa (ρ.set i .un) (σ.set i x) = owa ρ σ
  | [], σ, i, x, h => by cases h
  | s :: ρ, [], i, x, h => by
    cases i with
    | zero => cases s <;> exact ⟨rfl, rfl⟩
    | succ i => cases s <;> exact ⟨rfl, rfl⟩
  | s :: ρ, y :: σ, 0, x, h => by cases s <;> first | exact ⟨rfl, rfl⟩ | cases h
  | s :: ρ, y :: σ, i + 1, x, h => by
    have ih := adr_wipe1 (ρ := ρ) (σ := σ) (i := i) (x := x) (by cases s <;> exact h)
    show adr (s :: ρ.set i .un) (y :: σ.set i x) = adr (s :: ρ) (y :: σ) ∧ owa (s :: ρ.set i .un) (y :: σ.set i x) = owa (s :: ρ) (y :: σ)
    cases s with
    | un => exact ih
    | fz q => exact ih
    | ow m => cases y with
      | none => exact ih
      | some v => cases v <;> first | exact ih | exact ⟨congrArg (_ :: ·) ih.1, congrArg (_ :: ·) ih.2⟩
    | rf k m => cases y with
      | none => exact ih
      | some v => cases v <;> first | exact ih | exact ⟨congrArg (_ :: ·) ih.1, ih.2⟩
theorem nad_setu : ∀ {ρ : Ro} {i j : Nat}, nad ρ j = true → nad (ρ.set i .un) j = true
  | [], i, j, h => by cases h
  | s :: ρ, 0, 0, h => rfl
  | s :: ρ, 0, j + 1, h => by cases s <;> exact h
  | s :: ρ, i + 1, 0, h => by cases s <;> exact h
  | s :: ρ, i + 1, j + 1, h => by
    show nad (s :: ρ.set i .un) (j + 1) = true
    cases s <;> exact nad_setu (ρ := ρ) h
theorem nad_wipe {j : Nat} (h : nad ρ j = true) : ∀ vs : List Nat, nad (wipeR ρ vs) j = true
  | [] => h
  | _ :: vs => nad_setu (nad_wipe h vs)
theorem Rel.wipe (R : Rel K cl O bs ρ σ H) : ∀ {vs : List Nat}, nads ρ vs = true → Rel K cl O bs (wipeR ρ vs) (wipe σ vs) H ∧ adr (wipeR ρ vs) (wipe σ vs) = adr ρ σ
  | [], _ => ⟨R, rfl⟩
  | v :: vs, h => by
    have h' := Bool.and_eq_true_iff.mp (show (nad ρ v && nads ρ vs) = true from h)
    obtain ⟨R', e⟩ := R.wipe h'.2
    obtain ⟨e1, e2⟩ := adr_wipe1 (σ := L2.wipe σ vs) (x := none) (nad_wipe h'.1 vs)
    refine ⟨⟨?_, ?_, R'.al, ?_⟩, e1.trans e⟩
    · show RelS K cl bs (frz H (O ++ adr ((wipeR ρ vs).set v .un) ((L2.wipe σ vs).set v none))) H _ _
      rw [e1]
      exact R'.sl.setun
    · show (adr ((wipeR ρ vs).set v .un) ((L2.wipe σ vs).set v none)).Nodup
      rw [e1]; exact R'.nd
    · show ∀ a, a ∈ owa ((wipeR ρ vs).set v .un) ((L2.wipe σ vs).set v none) → a ∉ O
      rw [e2]; exact R'.ow
/-- O may grow by an object that is not owned -/
theorem Rel.wider (R : Rel K cl O bs ρ σ H) {a : Addr} {o : HO} (ha : H a = none) : Rel K cl (a :: O) bs ρ σ (upd H a o) := by
  have nA : ∀ b, b ∈ O ++ adr ρ σ → b ≠ a := fun b hb z => by
    obtain ⟨u, e⟩ := R.got hb
    rw [z, ha] at e; cases e
  refine ⟨R.sl.mono (fun x u e => ?_) fun b u hb e => by rw [upd_ne (nA b (List.mem_append_right _ hb))]; exact e, R.nd, fun b hb => ?_, fun b hb => ?_⟩
  · obtain ⟨n, e⟩ := frz_some.mp e
    have ne : x ≠ a := ne_of_none e ha
    refine frz_some.mpr ⟨fun z => ?_, by rw [upd_ne ne]; exact e⟩
    rcases List.mem_cons.mp (show x ∈ a :: (O ++ adr ρ σ) from z) with c | c
    · exact ne c
    · exact n c
  · rcases List.mem_cons.mp hb with c | c
    · rw [c]; exact ⟨o, upd_same⟩
    · obtain ⟨u, e⟩ := R.al b c
      exact ⟨u, by rw [upd_ne (nA b (List.mem_append_left _ c))]; exact e⟩
  · intro z
    rcases List.mem_cons.mp z with c | c
    · exact nA b (List.mem_append_right _ (owa_sub hb)) c
    · exact R.ow b hb c
/-- an object of O changes -/
theorem Rel.putO (R : Rel K cl O bs ρ σ H) {a : Addr} {o : HO} (ha : a ∈ O) (hn : a ∉ adr ρ σ) : Rel K cl O bs ρ σ (upd H a o) := by
  refine ⟨R.sl.mono (fun x u e => ?_) fun b u hb e => by rw [upd_ne fun z => hn (by rw [← z]; exact hb)]; exact e, R.nd, fun b hb => ?_, R.ow⟩
  · obtain ⟨n, e⟩ := frz_some.mp e
    exact frz_some.mpr ⟨n, by rw [upd_ne fun z => n (by rw [z]; exact List.mem_append_left _ ha)]; exact e⟩
  · by_cases c : b = a
    · rw [c]; exact ⟨o, upd_same⟩
    · obtain ⟨u, e⟩ := R.al b hb
      exact ⟨u, by rw [upd_ne c]; exact e⟩
theorem nw_lc {wi : TI} {g : TG} {tt : TT} {vs : List Nat} {mi : Res (List PV)} {α : Type} {d : PV → Res α} {ρe : α → Ro} {mc : α → Res Bool} {me : α → Res PV} (hi : IterV K cl W wi ρ mi) (hv : nads ρ vs = true) (hne : vs ≠ []) (hg : TgtE K cl g vs (wipeR ρ vs) d ρe)
    (ht : ∀ a, Tst K cl (fun _ _ _ _ => False) tt (ρe a) (mc a)) (he : ∀ a, Pur K cl (fun _ _ _ _ => False) te (ρe a) (me a)) : New K cl W (tLc wi g tt te vs) ρ (mi >>= fun ps => sized ps.length >>= fun _ => lcF d mc me ps) := fun O bs σ H Q R q => by
  refine hi O bs σ H _ R (wp_mono (wp_bind.mp q) (fun ps qp J H1 s1 hJ => ?_) fun _ z => z)
  obtain ⟨hz, qp⟩ := wp_sized (wp_bind.mp qp)
  intro Da hD
  have R1 := R.same s1
  have hD0 : H Da = none := none_back s1 hD
  obtain ⟨Rw, ew⟩ := R1.wipe hv
  have Rw0 := Rw.wider (o := .lst []) hD
  have nDA : Da ∉ O ++ adr ρ σ := fun z => by
    obtain ⟨u, e⟩ := R1.got z
    rw [hD] at e; cases e
  refine ⟨fun i mm H2 => mm = ps.length - i ∧ i ≤ ps.length ∧ Sub H1 H2 ∧ Rel K cl (Da :: O) bs (wipeR ρ vs) (wipe σ vs) H2 ∧ ∃ acc qs, H2 Da = some (.lst acc) ∧ acc.length ≤ i ∧ IsL K cl (frz H2 (Da :: (O ++ adr ρ σ))) acc qs ∧
      wp (lcF d mc me (ps.drop i)) (fun ys => ∀ p ws H', Sub H H' → H p = none → H' p = some (.lst ws) → IsL K cl (frz H' (p :: (O ++ adr ρ σ))) ws (qs ++ ys) → Q (.ref p) H') (XW cl W σ H),
    ⟨_, rfl, Nat.zero_le _, sub_new hD _, Rw0, [], [], upd_same, Nat.le_refl _, .nil, by rw [List.drop_zero]; exact qp⟩, ?_⟩
  rintro i mm H2 ⟨rfl, hle, s2, R2, acc, qs, ha, hal, hl, qw⟩
  have sF : Sub (frz H1 (O ++ adr ρ σ)) (frz H2 (Da :: (O ++ adr ρ σ))) := fun x u e => by
    obtain ⟨n, e⟩ := frz_some.mp e
    refine frz_some.mpr ⟨fun z => ?_, s2 _ _ e⟩
    rcases List.mem_cons.mp z with c | c
    · rw [c, hD] at e; cases e
    · exact n c
  have gotB : ∀ a, a ∈ Da :: (O ++ adr ρ σ) → ∃ o, H2 a = some o := fun a z => R2.got (by rw [ew]; exact z)
  obtain ⟨hs, hgo⟩ := hJ H2 _ s2 sF gotB
  by_cases c : i = ps.length
  · subst c
    rw [List.drop_length] at qw
    have := qw Da acc H2 (s1.trans s2) hD0 ha (by rw [List.append_nil]; exact hl)
    exact .inl ⟨hs, this⟩
  · have hlt : i < ps.length := by omega
    obtain ⟨hgi, hy⟩ := hgo i _ (List.getElem?_eq_getElem hlt)
    rw [List.drop_eq_getElem_cons hlt] at qw
    refine .inr ⟨hgi, fun H3 => Sub H1 H3 ∧ Rel K cl (Da :: O) bs (wipeR ρ vs) (wipe σ vs) H3 ∧ ∃ acc qs, H3 Da = some (.lst acc) ∧ acc.length ≤ i + 1 ∧ IsL K cl (frz H3 (Da :: (O ++ adr ρ σ))) acc qs ∧
      wp (lcF d mc me (ps.drop (i + 1))) (fun ys => ∀ p ws H', Sub H H' → H p = none → H' p = some (.lst ws) → IsL K cl (frz H' (p :: (O ++ adr ρ σ))) ws (qs ++ ys) → Q (.ref p) H') (XW cl W σ H),
      fun H3 z => ⟨_, by omega, rfl, by omega, z⟩, fun x H3 hyx => ?_⟩
    obtain ⟨s3, ix⟩ := hy x H3 hyx
    have R3 := R2.same s3
    have qw := wp_bind.mp qw
    refine hg ps[i] (Da :: O) bs σ H3 x _ _ R3 (by rw [ew]; exact ix) (wp_mono (wp_noX (E' := fun _ => False) qw) (fun a qa σ4 R4 e4 w4 => ?_) fun _ z => z)
    refine ⟨w4 hne, ht a (Da :: O) bs σ4 H3 _ R4 (wp_mono (wp_noX (E' := fun _ => False) (wp_bind.mp qa)) (fun b qb H5 s5 => ?_) fun _ z => z.elim)⟩
    have R5 := R3.same s5
    have ha5 := s5 _ _ (s3 _ _ ha)
    have s25 := s3.trans s5
    cases b with
    | false => exact ⟨s2.trans s25, R5, acc, qs, ha5, by omega, hl.mono (frz_same s25), qb⟩
    | true =>
      refine he a (Da :: O) bs σ4 H5 _ (R4.same s5) (wp_mono (wp_noX (E' := fun _ => False) (wp_bind.mp qb)) (fun y qy vy H6 s6 iy => ?_) fun _ z => z.elim)
      rw [e4, ew] at iy
      have ha6 := s6 _ _ ha5
      have keepD : ∀ x u, x ≠ Da → H6 x = some u → upd H6 Da (.lst (acc ++ [vy])) x = some u := fun x u n e => by rw [upd_ne n]; exact e
      have sD : Sub (frz H6 (Da :: (O ++ adr ρ σ))) (frz (upd H6 Da (.lst (acc ++ [vy]))) (Da :: (O ++ adr ρ σ))) := fun x u e => by
        obtain ⟨n, e⟩ := frz_some.mp e
        exact frz_some.mpr ⟨n, keepD x u (fun z => n (z ▸ List.mem_cons_self)) e⟩
      refine ⟨acc, ha6, by omega, fun x u e => keepD x u (ne_of_none e hD) (s6 _ _ (s25 _ _ (s2 _ _ e))), (R5.same s6).putO List.mem_cons_self (by rw [ew]; exact fun z => nDA (List.mem_append_right _ z)), acc ++ [vy], qs ++ [y], upd_same, by rw [List.length_append, List.length_singleton]; omega, ?_, ?_⟩
      · exact ((hl.mono (frz_same (s25.trans s6))).append (.one iy)).mono sD
      · refine wp_mono (wp_bind.mp qy) (fun ys qys p ws H' h1 h2 h3 h4 => ?_) fun _ z => z
        exact qys p ws H' h1 h2 h3 (by rw [List.append_assoc] at h4; exact h4)
theorem ts_yes : Tst K cl W tYes ρ (.val true) := fun O bs σ H Q R q => q H .refl
end
/-! ### enumerate(tuple), walked -/
section
open PySem.Spec PyProof.Rows
abbrev enO (p : Addr) : Obj := { cls := .type "enumerate", data := .fields #[.none, .bool false, .ref p, rawInt 0, .none, .none] }
set_option maxHeartbeats 1000000 in
theorem meets_enT {v : Value} {ob : Obj} {Hh : Heap → Prop} (B : Begins v ob Hh) :
    Meets (Builtin.«enumerate.__new__» ⟨[.type "enumerate", v], []⟩) (fun _ R st => Hh st.heap ∧ R (.ok (.ret (.ref (st.heap.push ob).objs.size))) { st with heap := (st.heap.push ob).push (enO st.heap.objs.size) }) :=
  .of_wp fun prog w A R st z => by
    obtain ⟨h0, gs, dr, tk, o5⟩ := st
    obtain ⟨z1, z2⟩ := z
    have sub := sub_enumerate
    have q1 : ∀ {A2 : Around} {E2 : Value → Shared → Prop} {Q2 : Value → Shared → Prop}, Q2 (.ref h0.objs.size) ⟨h0.push ob, gs, dr, tk, o5⟩ → wpAny (model prog w) A2 (pyIter v) Q2 E2 ⟨h0, gs, dr, tk, o5⟩ :=
      fun y => B.iter prog w _ _ ⟨h0, gs, dr, tk, o5⟩ _ z1 y
    wp_walk using q1
    refine wpAny_stack_any fun below => wpAny_pure ?_
    split
    · rename_i c _ _ _ _ _
      cases (c == Value.type "enumerate") <;> (wp_walk using q1; exact ⟨_, rfl, z2⟩)
    · wp_walk using q1
      exact ⟨_, rfl, z2⟩
section
variable {prog : Program} {w : World} {A : Around} {E : Value → Shared → Prop} {st : Shared}
theorem call_enT {v : Value} {ob : Obj} {Hh : Heap → Prop} {Q : Value → Shared → Prop} (B : Begins v ob Hh) (z : Hh st.heap)
    (q : ∀ g, IsEnum g (st.heap.objs.size + 1) st.heap.objs.size 0 .none → g.get? st.heap.objs.size = some ob → (∀ b o, st.heap.get? b = some o → g.get? b = some o) → Q (.ref (st.heap.objs.size + 1)) { st with heap := g }) :
    wpAny (model prog w) A (call (.type "enumerate") [v]) Q E st := by
  refine callType_new F.called_enumerate (by decide) (F.typeCall_enumerate_1 _) (F.newCall_enumerate_1 _) (fun ob2 => F.args_object_init_2 ob2 _) F.entry_enumerate_new (meets_enT B) ⟨z, ?_⟩
  have sz : (st.heap.push ob).objs.size = st.heap.objs.size + 1 := Heap.size_push ..
  show _ ∧ _
  rw [sz]
  have en : IsEnum ((st.heap.push ob).push (enO st.heap.objs.size)) (st.heap.objs.size + 1) st.heap.objs.size 0 .none := by
    have y := Heap.get?_push_size (st.heap.push ob) (o := enO st.heap.objs.size) rfl
    rw [sz] at y
    exact y
  exact ⟨⟨_, en, rfl⟩, q _ en (Heap.get?_push_of_some _ (Heap.get?_push_size _ B.free)) fun b o y => Heap.get?_push_of_some _ (Heap.get?_push_of_some _ y)⟩
end
/-- the tuple at a as it stands, each item in a new pair -/
def IteT (K : PySem.W.Frag) (a : Addr) : It :=
  ⟨fun i H => ∃ (ys : List V) (y : V), SqT K H a ys ∧ ys[i]? = some y, fun i H v H2 => ∃ T y, v = .ref T ∧ H T = none ∧ H2 = upd H T (.tup [.int (i : Nat), y]) ∧ ∀ ys, SqT K H a ys → ys[i]? = some y, fun i H => ∃ ys : List V, SqT K H a ys ∧ ys.length = i⟩
theorem turn_enT {P : Program} {w : World} {K : PySem.W.Frag} {elts : List Expr} {kk : Nat} {tpos : Pos} (a e it : Addr) :
    Turn P w K (.Tuple elts kk tpos) (IteT K a) [e, it] e (fun i g => (∃ old, IsEnum g e it ((i : Nat) : Int) old) ∧ g.IsTupleIter it a i ∧ e ≠ it ∧ a ≠ it ∧ a ≠ e) where
  mem := by simp
  obj := fun i g z b hb => by
    obtain ⟨⟨old, en⟩, ⟨o, o1, o2, o3⟩, _⟩ := z
    rcases (show b = e ∨ b = it by simpa using hb) with y | y
    · subst y
      exact ⟨_, en, fun v q => nomatch q⟩
    · subst y
      exact ⟨o, o1, fun v q => by rw [o3] at q; cases q⟩
  keep := fun i g g2 z k => let ⟨⟨old, en⟩, ti, n1, n2, n3⟩ := z; ⟨⟨old, k e (by simp) _ en⟩, ti.at fun o q => k it (by simp) o q, n1, n2, n3⟩
  item := by
    intro X eP ew eK hc i pins s σ H E I hf z hg
    subst eP ew eK
    obtain ⟨⟨old, en⟩, ti, n1, n2, n3⟩ := z
    obtain ⟨ys, y, hq, hy⟩ := hg
    obtain ⟨its, rv, p, _⟩ := I.tuple hq
    obtain ⟨u, hu, ru⟩ := rv.get hy
    have le : e < s.heap.objs.size := Heap.lt_size en
    have li : it < s.heap.objs.size := by
      obtain ⟨_, q, _⟩ := ti
      exact Heap.lt_size q
    have D := Draws.tuple (prog := X.prog) (w := X.w) (A := X.A.in1) (show X.A.in1.handled = none from I.ok.hd hc) it a n2 its.toArray
    refine wpAny_pyNext_enum_itemD D en ⟨ti, show s.heap.IsTuple a its.toArray from p⟩ (by rw [List.size_toArray]; exact (List.getElem?_eq_some_iff.mp hu).1) n1 (by simp [n1, n3.symm]) fun x g tk hx eo dt hT _ hk => ?_
    have ex : x = u := by
      have q1 : its[i]? = some x := by simpa using hx
      rw [hu] at q1
      exact (Option.some.inj q1).symm
    subst ex
    refine ⟨_, rfl, wpAny_letOwnedTupleGo_enum (s := { s with heap := g, toks := tk + 1 }) eo fun g2 en2 sb => ?_⟩
    have hT2 : g2.get? s.heap.objs.size = some { cls := .type "tuple", data := .seq #[.int i tk, x] } := (sb.2 _ (Nat.ne_of_gt le)).trans hT
    have new : ObjOk X.prog X.w (upd H s.heap.objs.size (.tup [.int (i : Nat), y])) g2 s.heap.objs.size (.tup [.int (i : Nat), y]) :=
      ⟨by show 2 ≤ sizeLine; decide, [.int i tk, x], .cons ⟨_, rfl⟩ (.cons ru .nil), ⟨_, hT2, rfl, _, rfl⟩⟩
    have I1 : Inv X pins σ (upd H s.heap.objs.size (.tup [.int (i : Nat), y])) { s with heap := g2, toks := tk + 1 } :=
      I.turnedNew (ch := [e, it]) (fun b ob nb q => (sb.2 b fun z => nb (by simp [z])).trans (hk b ob (fun z => nb (by simp [z])) (fun z => nb (by simp [z])) q)) hf (Nat.le_refl _) new
    refine ⟨.ref s.heap.objs.size, _, I1, rfl, ⟨_, y, rfl, I.hok.fresh (Nat.le_refl _), rfl, fun zs hz => by rw [I.tuple_inj hz hq]; exact hy⟩, ⟨⟨x, ?_⟩, dt.1.at fun o q => (sb.2 it (Ne.symm n1)).trans q, n1, n2, n3⟩, fun b hb => ?_⟩
    · rw [show ((i + 1 : Nat) : Int) = (i : Int) + 1 by omega]
      exact en2
    · have lb : b < s.heap.objs.size := by
        rcases (show b = e ∨ b = it by simpa using hb) with y | y
        · rw [y]; exact le
        · rw [y]; exact li
      rw [upd_ne (Nat.ne_of_lt lb)]
      exact (hf b hb).1
  done := by
    intro X eP ew eK hc i pins s σ H E I hf z hg
    subst eP ew eK
    obtain ⟨⟨old, en⟩, ti, n1, n2, n3⟩ := z
    obtain ⟨ys, hq, hy⟩ := hg
    obtain ⟨its, rv, p, _⟩ := I.tuple hq
    obtain ⟨f0, f1, f2, f3, f4, f5⟩ := hf it (by simp)
    have D := Draws.tuple (prog := X.prog) (w := X.w) (A := X.A.in1) (show X.A.in1.handled = none from I.ok.hd hc) it a n2 its.toArray
    have hn : its.toArray.size = i := by
      rw [List.size_toArray, ← rv.length]
      exact hy
    exact wpAny_pyNext_enum_endD D en ⟨by rw [hn]; exact ti, show s.heap.IsTuple a its.toArray from p⟩ fun g eb => ⟨rfl, I.turned (t' := s.toks) (fun b o nb q => eb b o nb q) f0 f1 f3 f4 f5⟩
  self := fun A i s Q E z h => let ⟨⟨_, en⟩, _⟩ := z; wpAny_pyIter_enum en h
def iEnT (K : PySem.W.Frag) (ta : TA) : TI := fun σ H R => ta σ H fun vs H1 => ∃ a ys, vs = [.ref a] ∧ SqT K H1 a ys ∧ R (IteT K a) H1
theorem pi_enT {X : Cx} {e : Expr} {ta : TA} {p pos tpos : Pos} {elts : List Expr} {kk : Nat} (hg : Gl X "enumerate") (hm : X.mg "enumerate" = none) (ha : PA X [e] ta) (hs : starEach [e] X.env = [(false, eval e X.env)] := by rfl) :
    PI X (.Tuple elts kk tpos) (.Call (.Name "enumerate" p) [e] [] pos) (iEnT X.K ta) := by
  refine ⟨fun pins s σ H R I h => ?_⟩
  refine Call_ (ld_blt I hg hm boot_enumerate (PyProof.Rows.callWith_type1 (thn (ha.run pos pins s σ H _ I h) fun us s1 ⟨vs, H1, I1, r1, a, ys, ex, hq, q⟩ => ?_) hs rfl))
  subst ex
  obtain ⟨u, eu, ru⟩ := vals1 r1
  subst eu
  cases ru
  obtain ⟨its, rv, p2, _⟩ := I1.tuple hq
  have lt : a < s1.heap.objs.size := by
    obtain ⟨o, o1, _⟩ := (show s1.heap.IsTuple a its.toArray from p2)
    exact Heap.lt_size o1
  refine call_enT (begins_tuple a its.toArray) (show s1.heap.IsTuple a its.toArray from p2) fun g en hi hk => wpAny_pyIter_enum en ?_
  have I2 : Inv X pins σ H1 { s1 with heap := g } := I1.kept (t' := s1.toks) hk
  refine ⟨s1.heap.objs.size + 1, [s1.heap.objs.size + 1, s1.heap.objs.size], _, _, H1, rfl, I2, turn_enT a (s1.heap.objs.size + 1) s1.heap.objs.size, ⟨⟨.none, en⟩, ⟨_, hi, rfl, rfl⟩, Nat.succ_ne_self _, Nat.ne_of_lt lt, Nat.ne_of_lt (Nat.lt_succ_of_lt lt)⟩, fun b hb => ?_, q⟩
  have le : s1.heap.objs.size ≤ b := by
    rcases (show b = s1.heap.objs.size + 1 ∨ b = s1.heap.objs.size by simpa using hb) with z | z
    · rw [z]
      exact Nat.le_succ _
    · rw [z]
      exact Nat.le_refl _
  exact I1.fpOk le (I1.hok.fresh le)
theorem walk_enT {K : PySem.W.Frag} {a : Addr} {ys : List V} : Walk (IteT K a) ys.length (fun H => SqT K H a ys) (YPair (fun i => some (.int (i : Nat))) (fun i => ys[i]?)) := by
  refine ⟨fun i _ hi q => ⟨ys, ys[i], q, by simp [hi]⟩, fun _ q => ⟨ys, q, rfl⟩, fun i H v H2 _ q z => ?_⟩
  obtain ⟨T, y, h1, h2, h3, h4⟩ := z
  exact ⟨T, .int (i : Nat), y, h1, h2, h3, rfl, h4 ys q⟩
end
/-! ### iterators -/
def iSeqV (K : PySem.W.Frag) (tl : TE) : TI := fun σ H R => iList K tl σ H R ∨ iTup K tl σ H R
theorem pi_or {X : Cx} {tg e : Expr} {w1 w2 : TI} (h1 : PI X tg e w1) (h2 : PI X tg e w2) : PI X tg e (fun σ H R => w1 σ H R ∨ w2 σ H R) := ⟨fun pins s σ H R I h => h.elim (h1.run pins s σ H R I) (h2.run pins s σ H R I)⟩
theorem pi_seqV (K : PySem.W.Frag) {X : Cx} {tg l : Expr} {tl : TE} (e : X.K = K) (hl : PE X l tl) : PI X tg l (iSeqV K tl) := by
  subst e
  exact pi_or (pi_list hl) (pi_tup hl)
section
variable {K : PySem.W.Frag} {cl : Str → Option Addr} {W : WX} {bs O A A1 B : List Addr} {F H H' H1 : Hp} {ρ ρ' ρx : Ro} {σ : St} {S S1 L : Type} {ρn : S → Ro} {ρj : S1 → Ro} {ρl : L → Ro} {D : Ends} {t u v tb : TS} {te ta tc : TE} {m ma mb : Res PV} {tr : TA} {ml : Res (List PV)} {md : Res (List (Key × PV))} {P : Hp → Prop}
theorem sqL_det {a : Addr} {xs ys : List V} (h : F a = some (.lst xs)) (q : SqL K F a ys) (s : ∀ o, K.lookup a = some o → False) : xs = ys := by
  rcases q with (q | ⟨o, q⟩) | ⟨o, _, _, q, _⟩
  · rw [h] at q; cases q; rfl
  · rw [h] at q; cases q
  · exact (s o q).elim
theorem Iter.view {wi : TI} {mi : Res (List PV)} (h : Iter K cl W wi ρ mi) : IterV K cl W wi ρ mi := fun O bs σ H R r q => h O bs σ H R r (wp_mono q (fun ps k J H' s i => k J H' s fun H2 B _ sF hB => i H2 B trivial sF hB) fun _ z => z)
theorem itOk_list {a : Addr} {vs : List V} {ps : List PV} (hP : ∀ H, P H → Sub F H → SqL K H a vs) (hl : IsL K cl F vs ps) : ItOk K cl (fun H => P H ∧ Sub F H) F (Itl K a) ps := fun H B hp sF hB => by
  have hs := hP H hp.1 hp.2
  refine ⟨⟨vs, hs, by rw [hl.len]; exact Nat.le_refl _⟩, fun i p hi => ?_⟩
  obtain ⟨v, hv, iv⟩ := hl.get hi
  refine ⟨⟨vs, v, hs, hv⟩, fun x H' hy => ?_⟩
  obtain ⟨rfl, hx⟩ := hy
  have := hx vs hs
  rw [hv] at this
  cases this
  exact ⟨.refl, iv.mono sF⟩
theorem itOk_tup {a : Addr} {vs : List V} {ps : List PV} (hP : ∀ H, P H → Sub F H → SqT K H a vs) (hl : IsL K cl F vs ps) : ItOk K cl (fun H => P H ∧ Sub F H) F (Itt K a) ps := fun H B hp sF hB => by
  have hs := hP H hp.1 hp.2
  refine ⟨⟨vs, hs, by rw [hl.len]; exact Nat.le_refl _⟩, fun i p hi => ?_⟩
  obtain ⟨v, hv, iv⟩ := hl.get hi
  refine ⟨⟨vs, v, hs, hv⟩, fun x H' hy => ?_⟩
  obtain ⟨rfl, hx⟩ := hy
  have := hx vs hs
  rw [hv] at this
  cases this
  exact ⟨.refl, iv.mono sF⟩
theorem ItOk.of {P' : Hp → Prop} {J : It} {ps : List PV} (h : ItOk K cl P F J ps) (g : ∀ H B, P' H → Sub F (frz H B) → P H) : ItOk K cl P' F J ps := fun H B hp sF hB => h H B (g H B hp sF) sF hB
theorem it_seq (he : Pur K cl W te ρ m) : Iter K cl W (iSeqV K te) ρ (m >>= asSq) := fun O bs σ H R r q => by
  have key : ∀ (v : V) (H' : Hp) (x : PV), Sub H H' → Is K cl (frz H' (O ++ adr ρ σ)) v x → wp (asSq x) (fun ps => ∀ J H', Sub H H' → ItOk K cl (fun _ => True) (frz H' (O ++ adr ρ σ)) J ps → R J H') (XW cl W σ H) →
      (∃ a vs, v = .ref a ∧ SqL K H' a vs ∧ R (Itl K a) H') ∨ (∃ a vs, v = .ref a ∧ SqT K H' a vs ∧ R (Itt K a) H') := fun v H' x s i w => by
    cases i with
    | tup h l => exact .inr ⟨_, _, rfl, frz_sub.sqT h, w _ H' s ((itOk_tup (P := fun _ => True) (fun H _ sF => sF.sqT h) l).of fun H B _ sF => ⟨trivial, sF.trans frz_sub⟩)⟩
    | lst h l => exact .inl ⟨_, _, rfl, .inl (.inl (frz_sub _ _ h)), w _ H' s ((itOk_list (P := fun _ => True) (fun H _ sF => .inl (.inl (sF _ _ h))) l).of fun H B _ sF => ⟨trivial, sF.trans frz_sub⟩)⟩
    | fls h l => exact .inl ⟨_, _, rfl, frz_sub.sqL h, w _ H' s ((itOk_list (P := fun _ => True) (fun H _ sF => sF.sqL h) l).of fun H B _ sF => ⟨trivial, sF.trans frz_sub⟩)⟩
    | _ => exact w.elim
  have w := wp_bind.mp q
  cases m with
  | stuck => exact w.elim
  | exc c => exact .inl (he O bs σ H _ r w)
  | val x =>
    cases x with
    | tup ps =>
      refine .inr (he O bs σ H _ r (wp_val.mpr fun v H' s i => ?_))
      rcases key v H' _ s i w with ⟨a, vs, rfl, hs, z⟩ | ⟨a, vs, rfl, hs, z⟩
      · cases i with
        | tup h l => exact ⟨a, rfl, ⟨_, frz_sub.sqT h⟩, w _ H' s ((itOk_tup (P := fun _ => True) (fun H _ sF => sF.sqT h) l).of fun H B _ sF => ⟨trivial, sF.trans frz_sub⟩)⟩
      · exact ⟨a, rfl, ⟨_, hs⟩, z⟩
    | lst ps =>
      refine .inl (he O bs σ H _ r (wp_val.mpr fun v H' s i => ?_))
      cases i with
      | lst h l => exact ⟨_, rfl, ⟨_, .inl (.inl (frz_sub _ _ h))⟩, w _ H' s ((itOk_list (P := fun _ => True) (fun H _ sF => .inl (.inl (sF _ _ h))) l).of fun H B _ sF => ⟨trivial, sF.trans frz_sub⟩)⟩
    | fls ps =>
      refine .inl (he O bs σ H _ r (wp_val.mpr fun v H' s i => ?_))
      cases i with
      | fls h l => exact ⟨_, rfl, ⟨_, frz_sub.sqL h⟩, w _ H' s ((itOk_list (P := fun _ => True) (fun H _ sF => sF.sqL h) l).of fun H B _ sF => ⟨trivial, sF.trans frz_sub⟩)⟩
    | _ => exact w.elim
/-- over an owned list, in a comprehension -/
theorem itv_seq (he : Vw K cl W te ρ m) : IterV K cl W (iList K te) ρ (m >>= asLi) := fun O bs σ H R r q => by
  refine he O bs σ H _ r (wp_mono (wp_bind.mp q) (fun x w v H' s i => ?_) fun _ z => z)
  cases x with
  | lst ps =>
    obtain ⟨a, vs, rfl, h, l⟩ := i
    exact ⟨a, rfl, ⟨_, .inl (.inl h)⟩, w _ H' s ((itOk_list (P := Sub H') (fun H2 s2 _ => .inl (.inl (s2 _ _ h))) l).of fun H2 B s2 sF => ⟨s2, sF.trans frz_sub⟩)⟩
  | fls ps => cases i with
    | fls h l => exact ⟨_, rfl, ⟨_, frz_sub.sqL h⟩, w _ H' s ((itOk_list (P := Sub H') (fun H2 s2 sF => sF.sqL h) l).of fun H2 B s2 sF => ⟨s2, sF.trans frz_sub⟩)⟩
  | _ => exact w.elim
def rngP (lo hi : Int) : List PV := (List.range (hi - lo).toNat).map fun i => .int (lo + (i : Nat))
theorem rng_get {lo hi : Int} {i : Nat} {p : PV} (h : (rngP lo hi)[i]? = some p) : i < (hi - lo).toNat ∧ p = .int (lo + (i : Nat)) := by
  unfold rngP at h
  rw [List.getElem?_map] at h
  obtain ⟨j, e, rfl⟩ := Option.map_eq_some_iff.mp h
  obtain ⟨h1, h2⟩ := List.getElem?_eq_some_iff.mp e
  rw [List.length_range] at h1
  rw [List.getElem_range] at h2
  subst h2
  exact ⟨h1, rfl⟩
theorem rng_len {lo hi : Int} : (rngP lo hi).length = (hi - lo).toNat := by
  unfold rngP
  rw [List.length_map, List.length_range]
theorem itOk_rng {lo : Int} {n : Nat} {ps : List PV} (hl : ps.length = n) (h : ∀ i p, ps[i]? = some p → i < n ∧ p = .int (lo + (i : Nat))) : ItOk K cl P F (Itr lo n) ps := fun H B _ _ hB => by
  refine ⟨by rw [hl]; exact Nat.le_refl _, fun i p hi => ?_⟩
  obtain ⟨h1, rfl⟩ := h i p hi
  refine ⟨h1, fun x H' hy => ?_⟩
  obtain ⟨rfl, rfl⟩ := hy
  exact ⟨.refl, .int _⟩
def rng1 : PV → Res (List PV)
  | .int j => if -(2 ^ 62) ≤ j ∧ j < 2 ^ 62 then .val (rngP 0 j) else .stuck
  | _ => .stuck
def rng2 : PV → PV → Res (List PV)
  | .int i, .int j => if -(2 ^ 62) ≤ i ∧ i < 2 ^ 62 ∧ -(2 ^ 62) ≤ j ∧ j < 2 ^ 62 then .val (rngP i j) else .stuck
  | _, _ => .stuck
theorem it_rng1 (he : Vw K cl W te ρ m) : Iter K cl W (iRng1 (tCons te tNil)) ρ (m >>= rng1) := fun O bs σ H R r q => by
  refine he O bs σ H _ r (wp_mono (wp_bind.mp q) (fun x w v H' s i => ?_) fun _ z => z)
  unfold rng1 at w
  split at w
  · next j =>
    cases isV_int i
    split at w
    · next c => exact ⟨j, rfl, c.1, c.2, w _ H' s (itOk_rng (by rw [rng_len, Int.sub_zero]) fun i p h => by have := rng_get h; rwa [Int.sub_zero] at this)⟩
    · exact w.elim
  · exact w.elim
theorem it_rng2 (ha : Vw K cl W ta ρ ma) (hb : Vw K cl W te ρ m) : Iter K cl W (iRng2 (tCons ta (tCons te tNil))) ρ (ma >>= fun x => m >>= fun y => rng2 x y) := fun O bs σ H R r q => by
  refine ha O bs σ H _ r (wp_mono (wp_bind.mp q) (fun x qx v1 H1 s1 i1 => ?_) fun _ z => z)
  refine hb O bs σ H1 _ (r.same s1) (wp_mono (wp_bind.mp qx) (fun y w v2 H2 s2 i2 => ?_) fun _ z => z.mono s1)
  unfold rng2 at w
  split at w
  · next i j =>
    cases isV_int i1
    cases isV_int i2
    split at w
    · next c => exact ⟨i, j, rfl, c, w _ H2 (s1.trans s2) (itOk_rng rng_len fun i p h => rng_get h)⟩
    · exact w.elim
  · exact w.elim
/-! zip and enumerate: lists or tuples -/
def zipP (ps qs : List PV) : List PV := List.zipWith (fun a b => .tup [a, b]) ps qs
theorem zip_get {ps qs : List PV} {i : Nat} {p : PV} (h : (zipP ps qs)[i]? = some p) : ∃ a b, ps[i]? = some a ∧ qs[i]? = some b ∧ p = .tup [a, b] := by
  unfold zipP at h
  rw [List.getElem?_zipWith] at h
  split at h
  · next a b h1 h2 => exact ⟨a, b, h1, h2, (Option.some.inj h).symm⟩
  · cases h
theorem two_new {H : Hp} {T : Addr} {x y : V} {p q : PV} (hT : H T = none) (hB : ∀ a, a ∈ B → ∃ o, H a = some o) (h1 : Is K cl (frz H B) x p) (h2 : Is K cl (frz H B) y q) : Is K cl (frz (upd H T (.tup [x, y])) B) (.ref T) (.tup [p, q]) :=
  new_tup hB hT (.cons h1 (.one h2))
theorem itOk_zip {J : It} {R1 R2 : Hp → List V → Prop} {vs ws : List V} {ps qs : List PV} (h1 : ∀ H, P H → Sub F H → R1 H vs) (h2 : ∀ H, P H → Sub F H → R2 H ws) (hl : IsL K cl F vs ps) (hr : IsL K cl F ws qs)
    (hgo : ∀ i H, (∃ (xs ys : List V) (x y : V), R1 H xs ∧ R2 H ys ∧ xs[i]? = some x ∧ ys[i]? = some y) → J.go i H)
    (hy : ∀ i H v H', J.yld i H v H' → ∃ T x y, v = .ref T ∧ H T = none ∧ H' = upd H T (.tup [x, y]) ∧ (∀ xs, R1 H xs → xs[i]? = some x) ∧ ∀ ys, R2 H ys → ys[i]? = some y)
    (hs : ∀ i H, (∃ xs ys : List V, R1 H xs ∧ R2 H ys ∧ i = min xs.length ys.length) → J.stop i H) : ItOk K cl (fun H => P H ∧ Sub F H) F J (zipP ps qs) := fun H B hp sF hB => by
  have a1 := h1 H hp.1 hp.2
  have a2 := h2 H hp.1 hp.2
  refine ⟨hs _ H ⟨vs, ws, a1, a2, ?_⟩, fun i p hi => ?_⟩
  · unfold zipP
    rw [List.length_zipWith, hl.len, hr.len]
  · obtain ⟨a, b, e1, e2, rfl⟩ := zip_get hi
    obtain ⟨v, e3, i3⟩ := hl.get e1
    obtain ⟨w, e4, i4⟩ := hr.get e2
    refine ⟨hgo i H ⟨vs, ws, v, w, a1, a2, e3, e4⟩, fun x H' hyx => ?_⟩
    obtain ⟨T, x1, y1, rfl, hT, rfl, q1, q2⟩ := hy i H x H' hyx
    have b1 := q1 vs a1
    have b2 := q2 ws a2
    rw [e3] at b1
    rw [e4] at b2
    cases b1
    cases b2
    exact ⟨sub_new hT _, two_new hT hB (i3.mono sF) (i4.mono sF)⟩
end
section
variable {K : PySem.W.Frag} {cl : Str → Option Addr} {W : WX} {bs O A A1 B : List Addr} {F H H' H1 : Hp} {ρ ρ' ρx : Ro} {σ : St} {S S1 L : Type} {ρn : S → Ro} {ρj : S1 → Ro} {ρl : L → Ro} {D : Ends} {t u v tb : TS} {te ta tc : TE} {m ma mb : Res PV} {tr : TA} {ml : Res (List PV)} {md : Res (List (Key × PV))} {P : Hp → Prop}
def zipV : PV → PV → Res (List PV)
  | .tup ps, .tup qs => .val (zipP ps qs)
  | .lst ps, .lst qs => .val (zipP ps qs)
  | _, _ => .stuck
theorem itOk_zL {a b : Addr} {vs ws : List V} {ps qs : List PV} (h1 : ∀ H, P H → Sub F H → SqL K H a vs) (h2 : ∀ H, P H → Sub F H → SqL K H b ws) (hl : IsL K cl F vs ps) (hr : IsL K cl F ws qs) : ItOk K cl (fun H => P H ∧ Sub F H) F (Itz K a b) (zipP ps qs) :=
  itOk_zip (R1 := fun H xs => SqL K H a xs) (R2 := fun H xs => SqL K H b xs) h1 h2 hl hr (fun _ _ h => h) (fun _ _ _ _ h => h) (fun i H ⟨xs, ys, h1, h2, e⟩ => ⟨xs, ys, h1, h2, by omega⟩)
theorem itOk_zT {a b : Addr} {vs ws : List V} {ps qs : List PV} (h1 : ∀ H, P H → Sub F H → SqT K H a vs) (h2 : ∀ H, P H → Sub F H → SqT K H b ws) (hl : IsL K cl F vs ps) (hr : IsL K cl F ws qs) : ItOk K cl (fun H => P H ∧ Sub F H) F (RZ.ItzT K a b) (zipP ps qs) :=
  itOk_zip (R1 := fun H xs => SqT K H a xs) (R2 := fun H xs => SqT K H b xs) h1 h2 hl hr (fun _ _ h => h) (fun _ _ _ _ h => h) (fun i H ⟨xs, ys, h1, h2, e⟩ => ⟨xs, ys, h1, h2, by omega⟩)
theorem it_zip (ha : Pur K cl W ta ρ ma) (hb : Pur K cl W te ρ m) : Iter K cl W (RZ.iZipA K (tCons ta (tCons te tNil))) ρ (ma >>= fun x => m >>= fun y => zipV x y) := fun O bs σ H R r q => by
  refine ha O bs σ H _ r (wp_mono (wp_bind.mp q) (fun x qx v1 H1 s1 i1 => ?_) fun _ z => z)
  refine hb O bs σ H1 _ (r.same s1) (wp_mono (wp_bind.mp qx) (fun y w v2 H2 s2 i2 => ?_) fun _ z => z.mono s1)
  have i1' := i1.mono (frz_same (A := O ++ adr ρ σ) s2)
  unfold zipV at w
  split at w
  · cases i1' with
    | tup h1 l1 =>
    cases i2 with
    | tup h2 l2 =>
    exact ⟨_, _, _, _, rfl, .inr ⟨frz_sub.sqT h1, frz_sub.sqT h2, w _ H2 (s1.trans s2) ((itOk_zT (P := fun _ => True) (fun H _ sF => sF.sqT h1) (fun H _ sF => sF.sqT h2) l1 l2).of fun H B _ sF => ⟨trivial, sF.trans frz_sub⟩)⟩⟩
  · cases i1' with
    | lst h1 l1 =>
    cases i2 with
    | lst h2 l2 =>
    exact ⟨_, _, _, _, rfl, .inl ⟨.inl (.inl (frz_sub _ _ h1)), .inl (.inl (frz_sub _ _ h2)), w _ H2 (s1.trans s2) ((itOk_zL (P := fun _ => True) (fun H _ sF => .inl (.inl (sF _ _ h1))) (fun H _ sF => .inl (.inl (sF _ _ h2))) l1 l2).of fun H B _ sF => ⟨trivial, sF.trans frz_sub⟩)⟩⟩
  · exact w.elim
theorem itv_zip (ha : Vw K cl W ta ρ ma) (hb : Vw K cl W te ρ m) : IterV K cl W (RZ.iZipA K (tCons ta (tCons te tNil))) ρ (ma >>= fun x => m >>= fun y => zipV x y) := fun O bs σ H R r q => by
  refine ha O bs σ H _ r (wp_mono (wp_bind.mp q) (fun x qx v1 H1 s1 i1 => ?_) fun _ z => z)
  refine hb O bs σ H1 _ (r.same s1) (wp_mono (wp_bind.mp qx) (fun y w v2 H2 s2 i2 => ?_) fun _ z => z.mono s1)
  have i1' := i1.mono (frz_same (A := O ++ adr ρ σ) s2) s2
  unfold zipV at w
  split at w
  · cases i1' with
    | tup h1 l1 =>
    cases i2 with
    | tup h2 l2 =>
    exact ⟨_, _, _, _, rfl, .inr ⟨frz_sub.sqT h1, frz_sub.sqT h2, w _ H2 (s1.trans s2) ((itOk_zT (P := fun _ => True) (fun H _ sF => sF.sqT h1) (fun H _ sF => sF.sqT h2) l1 l2).of fun H B _ sF => ⟨trivial, sF.trans frz_sub⟩)⟩⟩
  · obtain ⟨a, vs, rfl, h1, l1⟩ := i1'
    obtain ⟨b, ws, rfl, h2, l2⟩ := i2
    exact ⟨_, _, _, _, rfl, .inl ⟨.inl (.inl h1), .inl (.inl h2), w _ H2 (s1.trans s2) ((itOk_zL (P := Sub H2) (fun H s _ => .inl (.inl (s _ _ h1))) (fun H s _ => .inl (.inl (s _ _ h2))) l1 l2).of fun H B s sF => ⟨s, sF.trans frz_sub⟩)⟩⟩
  · exact w.elim
def enumP (ps : List PV) : List PV := (List.range ps.length).zipWith (fun (i : Nat) p => .tup [.int i, p]) ps
theorem enum_get {ps : List PV} {i : Nat} {p : PV} (h : (enumP ps)[i]? = some p) : ∃ a, ps[i]? = some a ∧ p = .tup [.int (i : Nat), a] := by
  unfold enumP at h
  rw [List.getElem?_zipWith] at h
  split at h
  · next a b h1 h2 =>
    obtain ⟨e1, e2⟩ := List.getElem?_eq_some_iff.mp h1
    rw [List.getElem_range] at e2
    subst e2
    exact ⟨b, h2, (Option.some.inj h).symm⟩
  · cases h
theorem itOk_enum {J : It} {R1 : Hp → List V → Prop} {vs : List V} {ps : List PV} (h1 : ∀ H, P H → Sub F H → R1 H vs) (hl : IsL K cl F vs ps) (hgo : ∀ i H, (∃ (xs : List V) (x : V), R1 H xs ∧ xs[i]? = some x) → J.go i H)
    (hy : ∀ i H v H', J.yld i H v H' → ∃ T x, v = .ref T ∧ H T = none ∧ H' = upd H T (.tup [.int (i : Nat), x]) ∧ (∀ xs, R1 H xs → xs[i]? = some x)) (hs : ∀ i H, (∃ xs : List V, R1 H xs ∧ i = xs.length) → J.stop i H) : ItOk K cl (fun H => P H ∧ Sub F H) F J (enumP ps) := fun H B hp sF hB => by
  have a1 := h1 H hp.1 hp.2
  refine ⟨hs _ H ⟨vs, a1, ?_⟩, fun i p hi => ?_⟩
  · unfold enumP
    rw [List.length_zipWith, List.length_range, hl.len, Nat.min_self]
  · obtain ⟨a, e1, rfl⟩ := enum_get hi
    obtain ⟨v, e3, i3⟩ := hl.get e1
    refine ⟨hgo i H ⟨vs, v, a1, e3⟩, fun x H' hyx => ?_⟩
    obtain ⟨T, x1, rfl, hT, rfl, q1⟩ := hy i H x H' hyx
    have b1 := q1 vs a1
    rw [e3] at b1
    cases b1
    exact ⟨sub_new hT _, two_new hT hB (.int _) (i3.mono sF)⟩
def asTu : PV → Res (List PV)
  | .tup ps => .val ps
  | _ => .stuck
theorem itv_enum (he : Vw K cl W te ρ m) : IterV K cl W (iEnum K (tCons te tNil)) ρ (m >>= asLi >>= fun ps => .val (enumP ps)) := fun O bs σ H R r q => by
  rw [wp_bind, wp_bind] at q
  refine he O bs σ H _ r (wp_mono q (fun x w v H' s i => ?_) fun _ z => z)
  cases x with
  | lst ps =>
    obtain ⟨a, vs, rfl, h, l⟩ := i
    exact ⟨a, vs, rfl, .inl (.inl h), w _ H' s ((itOk_enum (J := Ite K _) (P := Sub H') (R1 := fun H xs => SqL K H a xs) (fun H2 s2 _ => .inl (.inl (s2 _ _ h))) l (fun _ _ h => h) (fun _ _ _ _ h => h) (fun i H ⟨xs, h, e⟩ => ⟨xs, h, by omega⟩)).of fun H2 B s2 sF => ⟨s2, sF.trans frz_sub⟩)⟩
  | fls ps => cases i with
    | fls h l => exact ⟨_, _, rfl, frz_sub.sqL h, w _ H' s ((itOk_enum (J := Ite K _) (P := Sub H') (R1 := fun H xs => SqL K H _ xs) (fun H2 s2 sF => sF.sqL h) l (fun _ _ h => h) (fun _ _ _ _ h => h) (fun i H ⟨xs, h, e⟩ => ⟨xs, h, by omega⟩)).of fun H2 B s2 sF => ⟨s2, sF.trans frz_sub⟩)⟩
  | _ => exact w.elim
theorem it_enum (he : Pur K cl W te ρ m) : Iter K cl W (iEnum K (tCons te tNil)) ρ (m >>= asLi >>= fun ps => .val (enumP ps)) := fun O bs σ H R r q => by
  rw [wp_bind, wp_bind] at q
  refine he O bs σ H _ r (wp_mono q (fun x w v H' s i => ?_) fun _ z => z)
  cases i with
  | lst h l => exact ⟨_, _, rfl, .inl (.inl (frz_sub _ _ h)), w _ H' s ((itOk_enum (J := Ite K _) (P := fun _ => True) (R1 := fun H xs => SqL K H _ xs) (fun H2 _ sF => .inl (.inl (sF _ _ h))) l (fun _ _ h => h) (fun _ _ _ _ h => h) (fun i H ⟨xs, h, e⟩ => ⟨xs, h, by omega⟩)).of fun H2 B _ sF => ⟨trivial, sF.trans frz_sub⟩)⟩
  | fls h l => exact ⟨_, _, rfl, frz_sub.sqL h, w _ H' s ((itOk_enum (J := Ite K _) (P := fun _ => True) (R1 := fun H xs => SqL K H _ xs) (fun H2 _ sF => sF.sqL h) l (fun _ _ h => h) (fun _ _ _ _ h => h) (fun i H ⟨xs, h, e⟩ => ⟨xs, h, by omega⟩)).of fun H2 B _ sF => ⟨trivial, sF.trans frz_sub⟩)⟩
  | _ => exact w.elim
theorem it_enT (he : Pur K cl W te ρ m) : Iter K cl W (iEnT K (tCons te tNil)) ρ (m >>= asTu >>= fun ps => .val (enumP ps)) := fun O bs σ H R r q => by
  rw [wp_bind, wp_bind] at q
  refine he O bs σ H _ r (wp_mono q (fun x w v H' s i => ?_) fun _ z => z)
  cases i with
  | tup h l => exact ⟨_, _, rfl, frz_sub.sqT h, w _ H' s ((itOk_enum (J := IteT K _) (P := fun _ => True) (R1 := fun H xs => SqT K H _ xs) (fun H2 _ sF => sF.sqT h) l (fun _ _ h => h) (fun _ _ _ _ h => h) (fun i H ⟨xs, h, e⟩ => ⟨xs, h, e.symm⟩)).of fun H2 B _ sF => ⟨trivial, sF.trans frz_sub⟩)⟩
  | _ => exact w.elim
/-! lists and dicts, changed by statements -/
theorem run_append {i : Nat} {s : Slot} {ps : List PV} {n : PV → Res (Fl S L)} (hi : ρ[i]? = some s) (hs : s = .ow (.lst ps) ∨ ∃ k, s = .rf k (.lst ps)) (he : Pur K cl W te ρ m) (w : Wk ρ ρx) (h : ∀ x, Runs K cl W u (ρ.set i (reSl s (.lst (ps ++ [x])))) (n x) ρn ρl ρx) :
    Runs K cl W (tSeq (tDrop (tBM K "list" rAppend (tVar i) (tCons te tNil))) u) ρ (m >>= fun x => sized (ps.length + 1) >>= fun _ => n x) ρn ρl ρx := fun O bs σ H D R hb q => by
  have got : ∃ a vs, σ[i]? = some (some (.ref a)) ∧ H a = some (.lst vs) ∧ IsL K cl (frz H (O ++ adr ρ σ)) vs ps := by
    obtain ⟨x, e, q⟩ := R.sl.get hi
    rcases hs with rfl | ⟨k, rfl⟩
    · obtain ⟨a, rfl, vs, h1, h2⟩ := q; exact ⟨a, vs, e, h1, h2⟩
    · obtain ⟨a, rfl, _, vs, h1, h2⟩ := q; exact ⟨a, vs, e, h1, h2⟩
  obtain ⟨a, vs, ha, hv, hl⟩ := got
  refine ⟨_, ha, .inl ⟨rfl, _, .inl (.inl hv)⟩, he O bs σ H _ R (wp_mono (wp_bind.mp q) (fun x qx v H' s' ix => ?_) fun _ z => z.xw R w)⟩
  obtain ⟨hz, qx⟩ := wp_sized (wp_bind.mp qx)
  have R' := R.same s'
  have hl' := hl.mono (frz_same (A := O ++ adr ρ σ) s')
  obtain ⟨R2, g2⟩ := R'.put (m' := .lst (ps ++ [x])) (o := .lst (vs ++ [v])) hi (by rcases hs with e | ⟨k, e⟩; exact .inl e; exact .inr ⟨k, e⟩) ha ⟨_, upd_same, hl'.append (.one ix)⟩
  have g := (Gr.of (A := adr ρ σ) s').trans g2
  refine ⟨a, vs, v, rfl, rfl, s' _ _ hv, by rw [hl.len]; omega, ?_⟩
  exact h x O bs σ _ D R2 hb (wp_mono qx (fun _ z => z.step g) fun _ z => z.step g)
def setL (ps : List PV) (k x : PV) : Res (List PV) := match k with
  | .int k => match ixN ps.length k with
    | some j => .val (ps.set j x)
    | none => .stuck
  | _ => .stuck
theorem run_setitem {i : Nat} {s : Slot} {ps : List PV} {n : List PV → Res (Fl S L)} (hi : ρ[i]? = some s) (hs : s = .ow (.lst ps) ∨ ∃ k, s = .rf k (.lst ps)) (he : Pur K cl W te ρ m) (hk : Vw K cl W ta ρ ma) (w : Wk ρ ρx) (h : ∀ qs, Runs K cl W u (ρ.set i (reSl s (.lst qs))) (n qs) ρn ρl ρx) :
    Runs K cl W (tSeq (tAsg te (gSub (tVar i) ta rSetL)) u) ρ (m >>= fun x => ma >>= fun k => setL ps k x >>= n) ρn ρl ρx := fun O bs σ H D R hb q => by
  have got : ∃ a vs, σ[i]? = some (some (.ref a)) ∧ H a = some (.lst vs) ∧ IsL K cl (frz H (O ++ adr ρ σ)) vs ps := by
    obtain ⟨x, e, q⟩ := R.sl.get hi
    rcases hs with rfl | ⟨k, rfl⟩
    · obtain ⟨a, rfl, vs, h1, h2⟩ := q; exact ⟨a, vs, e, h1, h2⟩
    · obtain ⟨a, rfl, _, vs, h1, h2⟩ := q; exact ⟨a, vs, e, h1, h2⟩
  obtain ⟨a, vs, ha, hv, hl⟩ := got
  refine he O bs σ H _ R (wp_mono (wp_bind.mp q) (fun x qx v H1 s1 ix => ?_) fun _ z => z.xw R w)
  have R1 := R.same s1
  refine ⟨_, ha, hk O bs σ H1 _ R1 (wp_mono (wp_bind.mp qx) (fun k qk v2 H2 s2 ik => ?_) fun _ z => (z.step (Gr.of s1)).xw R1 w)⟩
  have R2 := R1.same s2
  have s12 := s1.trans s2
  have hl' := hl.mono (frz_same (A := O ++ adr ρ σ) s12)
  unfold setL at qk
  split at qk
  · next k =>
    cases isV_int ik
    split at qk
    · next j hj =>
      obtain ⟨R3, g3⟩ := R2.put (m' := .lst (ps.set j x)) (o := .lst (vs.set j v)) hi (by rcases hs with e | ⟨k, e⟩; exact .inl e; exact .inr ⟨k, e⟩) ha ⟨_, upd_same, IsL.set (ix.mono (frz_same s2)) j hl'⟩
      have g := (Gr.of (A := adr ρ σ) s12).trans g3
      exact ⟨a, vs, k, j, rfl, rfl, s12 _ _ hv, by rw [hl.len]; exact hj, h _ O bs σ _ D R3 hb (wp_mono qk (fun _ z => z.step g) fun _ z => z.step g)⟩
    · exact qk.elim
  · exact qk.elim
def keyP : PV → Res Key
  | .int i => .val (.inl i)
  | .str x => .val (.inr x)
  | _ => .stuck
theorem wp_key {p : PV} {v : V} {Q : Key → Prop} {E : Str → Prop} (h : wp (keyP p) Q E) (i : IsV K cl F H v p) : ∃ k, v = kV k ∧ Q k := by
  cases p with
  | int j => exact ⟨.inl j, isV_int i, h⟩
  | str x => exact ⟨.inr x, isV_str i, h⟩
  | _ => exact h.elim
theorem run_dput {i : Nat} {s : Slot} {ps : List (Key × PV)} {n : List (Key × PV) → Res (Fl S L)} (hi : ρ[i]? = some s) (hs : s = .ow (.dct ps) ∨ ∃ k, s = .rf k (.dct ps)) (he : Pur K cl W te ρ m) (hk : Vw K cl W ta ρ ma) (w : Wk ρ ρx) (h : ∀ qs, Runs K cl W u (ρ.set i (reSl s (.dct qs))) (n qs) ρn ρl ρx) :
    Runs K cl W (tSeq (sDPut (tVar i) ta te) u) ρ (m >>= fun x => ma >>= fun k => keyP k >>= fun k => sized (ps.length + 1) >>= fun _ => n (putP ps k x)) ρn ρl ρx := fun O bs σ H D R hb q => by
  have got : ∃ a vs, σ[i]? = some (some (.ref a)) ∧ H a = some (.dK vs) ∧ IsK K cl (frz H (O ++ adr ρ σ)) vs ps := by
    obtain ⟨x, e, q⟩ := R.sl.get hi
    rcases hs with rfl | ⟨k, rfl⟩
    · obtain ⟨a, rfl, vs, h1, h2⟩ := q; exact ⟨a, vs, e, h1, h2⟩
    · obtain ⟨a, rfl, _, vs, h1, h2⟩ := q; exact ⟨a, vs, e, h1, h2⟩
  obtain ⟨a, vs, ha, hv, hl⟩ := got
  refine he O bs σ H _ R (wp_mono (wp_bind.mp q) (fun x qx v H1 s1 ix => ?_) fun _ z => z.xw R w)
  have R1 := R.same s1
  refine ⟨_, ha, hk O bs σ H1 _ R1 (wp_mono (wp_bind.mp qx) (fun k qk v2 H2 s2 ik => ?_) fun _ z => (z.step (Gr.of s1)).xw R1 w)⟩
  have R2 := R1.same s2
  have s12 := s1.trans s2
  have hl' := hl.mono (frz_same (A := O ++ adr ρ σ) s12)
  obtain ⟨k, rfl, qk⟩ := wp_key (wp_bind.mp qk) ik
  obtain ⟨hz, qk⟩ := wp_sized (wp_bind.mp qk)
  obtain ⟨R3, g3⟩ := R2.put (m' := .dct (putP ps k x)) (o := .dK (putK vs k v)) hi (by rcases hs with e | ⟨k, e⟩; exact .inl e; exact .inr ⟨k, e⟩) ha ⟨_, upd_same, IsK.put (ix.mono (frz_same s2)) hl'⟩
  have g := (Gr.of (A := adr ρ σ) s12).trans g3
  exact ⟨a, _, rfl, .inl ⟨vs, k, s12 _ _ hv, rfl, by rw [hl.len]; omega, rfl⟩, h _ O bs σ _ D R3 hb (wp_mono qk (fun _ z => z.step g) fun _ z => z.step g)⟩
/-! reading a dict -/
def dgetP (d k : PV) : Res PV := match d with
  | .dct ps => keyP k >>= fun k => match valP ps k with
    | some p => .val p
    | none => .stuck
  | _ => .stuck
theorem pu_dget (hd : Vw K cl W ta ρ ma) (hk : Vw K cl W te ρ m) : Pur K cl W (tDGet ta te) ρ (ma >>= fun d => m >>= fun k => dgetP d k) := fun O bs σ H Q R q => by
  refine hd O bs σ H _ R (wp_mono (wp_bind.mp q) (fun x qx v1 H1 s1 i1 => ?_) fun _ z => z)
  refine hk O bs σ H1 _ (R.same s1) (wp_mono (wp_bind.mp qx) (fun y qy v2 H2 s2 i2 => ?_) fun _ z => z.mono s1)
  have i1' := i1.mono (frz_same (A := O ++ adr ρ σ) s2) s2
  unfold dgetP at qy
  split at qy
  · obtain ⟨a, vs, rfl, h, l⟩ := i1'
    obtain ⟨k, rfl, qy⟩ := wp_key (wp_bind.mp qy) i2
    split at qy
    · next p e =>
      obtain ⟨v, e2, iv⟩ := l.val e
      exact ⟨a, v, rfl, .inl ⟨vs, k, .inl h, rfl, e2.symm⟩, qy v H2 (s1.trans s2) iv⟩
    · exact qy.elim
  · exact qy.elim
def dinP (neg : Bool) (k d : PV) : Res PV := match d with
  | .dct ps => keyP k >>= fun k => .val (.bl (if neg then !(valP ps k).isSome else (valP ps k).isSome))
  | _ => .stuck
theorem IsK.isSome {vs : List (Key × V)} {ps : List (Key × PV)} (h : IsK K cl F vs ps) (k : Key) : (valV vs k).isSome = (valP ps k).isSome := by
  cases e : valP ps k with
  | none => rw [h.noval e]; rfl
  | some p => obtain ⟨v, e2, _⟩ := h.val e; rw [e2]; rfl
theorem pu_din (hk : Vw K cl W te ρ m) (hd : Vw K cl W ta ρ ma) : Pur K cl W (tDIn te ta) ρ (m >>= fun k => ma >>= fun d => dinP false k d) := fun O bs σ H Q R q => by
  refine hk O bs σ H _ R (wp_mono (wp_bind.mp q) (fun y qx v1 H1 s1 i1 => ?_) fun _ z => z)
  refine hd O bs σ H1 _ (R.same s1) (wp_mono (wp_bind.mp qx) (fun x qy v2 H2 s2 i2 => ?_) fun _ z => z.mono s1)
  have i1' := i1.mono (frz_same (A := O ++ adr ρ σ) s2) s2
  unfold dinP at qy
  split at qy
  · obtain ⟨a, vs, rfl, h, l⟩ := i2
    obtain ⟨k, rfl, qy⟩ := wp_key (wp_bind.mp qy) i1'
    exact ⟨a, valV vs k, rfl, .inl ⟨vs, k, .inl h, rfl, rfl⟩, by rw [l.isSome]; exact qy _ H2 (s1.trans s2) (.bl _)⟩
  · exact qy.elim
theorem pu_dnin (hk : Vw K cl W te ρ m) (hd : Vw K cl W ta ρ ma) : Pur K cl W (tDNotIn te ta) ρ (m >>= fun k => ma >>= fun d => dinP true k d) := fun O bs σ H Q R q => by
  refine hk O bs σ H _ R (wp_mono (wp_bind.mp q) (fun y qx v1 H1 s1 i1 => ?_) fun _ z => z)
  refine hd O bs σ H1 _ (R.same s1) (wp_mono (wp_bind.mp qx) (fun x qy v2 H2 s2 i2 => ?_) fun _ z => z.mono s1)
  have i1' := i1.mono (frz_same (A := O ++ adr ρ σ) s2) s2
  unfold dinP at qy
  split at qy
  · obtain ⟨a, vs, rfl, h, l⟩ := i2
    obtain ⟨k, rfl, qy⟩ := wp_key (wp_bind.mp qy) i1'
    exact ⟨a, valV vs k, rfl, .inl ⟨vs, k, .inl h, rfl, rfl⟩, by rw [l.isSome]; exact qy _ H2 (s1.trans s2) (.bl _)⟩
  · exact qy.elim
/-! x += e; a, b = e, f -/
def addI : PV → PV → Res PV := ints2 fun i j => .val (.int (i + j))
theorem wp_ints2 {g : Int → Int → Res PV} {p q : PV} {Q : PV → Prop} {E : Str → Prop} (h : wp (ints2 g p q) Q E) : ∃ i j, p = .int i ∧ q = .int j ∧ wp (g i j) Q E := by
  unfold ints2 at h
  split at h
  · exact ⟨_, _, rfl, rfl, h⟩
  · exact h.elim
theorem run_aug {i : Nat} {p : PV} {n : PV → Res (Fl S L)} {f : Int → Int → Int} (hi : ρ[i]? = some (.fz p)) (he : Vw K cl W te ρ m) (hn : nad ρ i = true) (w : Wk ρ ρx) (h : ∀ x, Runs K cl W u (ρ.set i (.fz x)) (n x) ρn ρl ρx) :
    Runs K cl W (tSeq (tAug i te (ipI f)) u) ρ (m >>= fun y => ints2 (fun i j => .val (.int (f i j))) p y >>= n) ρn ρl ρx := fun O bs σ H D R hb q => by
  obtain ⟨x, e, v, rfl, hv⟩ := R.sl.get hi
  refine ⟨v, e, he O bs σ H _ R (wp_mono (wp_bind.mp q) (fun y qy v2 H' s iy => ?_) fun _ z => z.xw R w)⟩
  obtain ⟨i1, j1, rfl, rfl, qy⟩ := wp_ints2 (wp_bind.mp qy)
  cases hv
  cases isV_int iy
  have g : Gr (adr ρ σ) H (adr (ρ.set i (.fz (.int (f i1 j1)))) (σ.set i (some (.int (f i1 j1))))) H' := by rw [adr_setn hn]; exact Gr.of s
  exact ⟨i1, j1, rfl, rfl, h _ O bs _ H' D ((R.same s).setfz hn (.int _)) hb (wp_mono qy (fun _ z => z.step g) fun _ z => z.step g)⟩
theorem run_par {i j : Nat} {n : PV → PV → Res (Fl S L)} (ha : Pur K cl W ta ρ ma) (hb' : Pur K cl W te ρ m) (hi : nad ρ i = true) (hj : nad ρ j = true) (w : Wk ρ ρx) (h : ∀ x y, Runs K cl W u ((ρ.set i (.fz x)).set j (.fz y)) (n x y) ρn ρl ρx) :
    Runs K cl W (tSeq (tPar i j (tCons ta (tCons te tNil))) u) ρ (ma >>= fun x => m >>= fun y => n x y) ρn ρl ρx := fun O bs σ H D R hb q => by
  refine ha O bs σ H _ R (wp_mono (wp_bind.mp q) (fun x qx v1 H1 s1 i1 => ?_) fun _ z => z.xw R w)
  refine hb' O bs σ H1 _ (R.same s1) (wp_mono (wp_bind.mp qx) (fun y qy v2 H2 s2 i2 => ?_) fun _ z => (z.step (Gr.of s1)).xw (R.same s1) w)
  have s12 := s1.trans s2
  have g : Gr (adr ρ σ) H (adr ((ρ.set i (.fz x)).set j (.fz y)) ((σ.set i (some v1)).set j (some v2))) H2 := by rw [adr_setn (nad_set hj), adr_setn hi]; exact Gr.of s12
  refine ⟨v1, v2, rfl, h x y O bs _ H2 D (Rel.setfz ((R.same s12).setfz hi (i1.mono (frz_same s2))) (nad_set hj) (by rw [adr_setn hi]; exact i2)) hb (wp_mono qy (fun _ z => z.step g) fun _ z => z.step g)⟩
end
/-! ### defs, calls, errors, fields -/
section
variable (K : PySem.W.Frag) (cl : Str → Option Addr)
def spP (mf : List PV → Res PV) : Sp := fun vs H Q E => ∃ O ps, (∀ a, a ∈ O → ∃ o, H a = some o) ∧ IsL K cl (frz H O) vs ps ∧
  wp (mf ps) (fun r => ∀ v H', Sub H H' → Is K cl (frz H' O) v r → Q v H') (fun c => ∀ C H', cl c = some C → Sub H H' → E (.ref C) none H')
end
def retF (M : Res (Fl Unit Empty)) : Res PV := M >>= fun f => match f with
  | .nx _ => .val .non
  | .rt v _ => .val v
  | .ro _ => .stuck
def ap0 (f : Res PV) : List PV → Res PV
  | [] => f
  | _ => .stuck
def ap1 (f : PV → Res PV) : List PV → Res PV
  | [a] => f a
  | _ => .stuck
def ap2 (f : PV → PV → Res PV) : List PV → Res PV
  | [a, b] => f a b
  | _ => .stuck
def ap3 (f : PV → PV → PV → Res PV) : List PV → Res PV
  | [a, b, c] => f a b c
  | _ => .stuck
def ap4 (f : PV → PV → PV → PV → Res PV) : List PV → Res PV
  | [a, b, c, d] => f a b c d
  | _ => .stuck
def ap5 (f : PV → PV → PV → PV → PV → Res PV) : List PV → Res PV
  | [a, b, c, d, e] => f a b c d e
  | _ => .stuck
def ap6 (f : PV → PV → PV → PV → PV → PV → Res PV) : List PV → Res PV
  | [a, b, c, d, e, g] => f a b c d e g
  | _ => .stuck
def ap7 (f : PV → PV → PV → PV → PV → PV → PV → Res PV) : List PV → Res PV
  | [a, b, c, d, e, g, h] => f a b c d e g h
  | _ => .stuck
/-- mf answers lists of n values alone -/
def Takn (n : Nat) (mf : List PV → Res PV) : Prop := ∀ ps, ps.length ≠ n → mf ps = .stuck
theorem takn0 {f : Res PV} : Takn 0 (ap0 f) := fun ps h => by
  unfold ap0; split
  · exact absurd rfl h
  · rfl
theorem takn1 {f : PV → Res PV} : Takn 1 (ap1 f) := fun ps h => by
  unfold ap1; split
  · exact absurd rfl h
  · rfl
theorem takn2 {f : PV → PV → Res PV} : Takn 2 (ap2 f) := fun ps h => by
  unfold ap2; split
  · exact absurd rfl h
  · rfl
theorem takn3 {f : PV → PV → PV → Res PV} : Takn 3 (ap3 f) := fun ps h => by
  unfold ap3; split
  · exact absurd rfl h
  · rfl
theorem takn4 {f : PV → PV → PV → PV → Res PV} : Takn 4 (ap4 f) := fun ps h => by
  unfold ap4; split
  · exact absurd rfl h
  · rfl
theorem takn5 {f : PV → PV → PV → PV → PV → Res PV} : Takn 5 (ap5 f) := fun ps h => by
  unfold ap5; split
  · exact absurd rfl h
  · rfl
theorem takn6 {f : PV → PV → PV → PV → PV → PV → Res PV} : Takn 6 (ap6 f) := fun ps h => by
  unfold ap6; split
  · exact absurd rfl h
  · rfl
theorem takn7 {f : PV → PV → PV → PV → PV → PV → PV → Res PV} : Takn 7 (ap7 f) := fun ps h => by
  unfold ap7; split
  · exact absurd rfl h
  · rfl
section
variable {P : Program} {w : World} {K : PySem.W.Frag} {mg : Str → Option Value} {base : Heap} {cl : Str → Option Addr}
theorem fz_adr : ∀ (qs : List PV) (n : Nat) (σ : St), adr (qs.map Slot.fz ++ uns n) σ = []
  | [], 0, [] => rfl
  | [], 0, _ :: _ => rfl
  | [], n + 1, [] => rfl
  | [], n + 1, _ :: σ => fz_adr [] n σ
  | _ :: qs, n, [] => rfl
  | _ :: qs, n, _ :: σ => fz_adr qs n σ
theorem fz_owa : ∀ (qs : List PV) (n : Nat) (σ : St), owa (qs.map Slot.fz ++ uns n) σ = []
  | [], 0, [] => rfl
  | [], 0, _ :: _ => rfl
  | [], n + 1, [] => rfl
  | [], n + 1, _ :: σ => fz_owa [] n σ
  | _ :: qs, n, [] => rfl
  | _ :: qs, n, _ :: σ => fz_owa qs n σ
theorem uns_adr (n : Nat) (σ : St) : adr (uns n) σ = [] := fz_adr [] n σ
theorem fz_rel {F H : Hp} : ∀ {vs : List V} {qs : List PV} (n : Nat), IsL K cl F vs qs → RelS K cl [] F H (qs.map Slot.fz ++ uns n) (vs.map some ++ List.replicate n none)
  | _, _, 0, .nil => .nil
  | _, _, n + 1, .nil => .cons trivial (fz_rel n .nil)
  | _, _, n, .cons a r => .cons ⟨_, rfl, a⟩ (fz_rel n r)
open PySem.Spec PyProof.Rows in
theorem fnP {x qual : Str} {st : Stmt} {f : Addr} {fd : FuncData} {N ps : List Str} {k n : Nat} {mf : List PV → Res PV} (F : Fun K x qual st f fd) (S : FnScope N ps (defScope st)) (hn : ps.length = n) (tk : Takn n mf)
    (h : ∀ (cdv : Value) (A : Around) (outer : List Env) (s : Shared) (H : Hp) (E : XK), Room k (A.deeper (envOfC qual (defScope st) s.heap.objs.size f cdv)) → ∀ qs : List PV, qs.length = n →
      ∃ t, PSs (cxOf (L2.CX P w) P w K mg base N qual (defScope st) f cdv A outer s H E) (defBody st) t ∧ ∃ M, Runs K cl (fun c d _ H' => E c d H') t (qs.map Slot.fz ++ uns (N.length - n)) M (fun _ : Unit => uns N.length) (fun l : Empty => nomatch l) (uns N.length) ∧ mf qs = retF M) :
    FnOk P w K mg base (L2.CX P w) (k + 1) f fd ps (spP K cl mf) := by
  have len : ∀ vs H Q E, spP K cl mf vs H Q E → vs.length = n := fun vs H Q E ⟨O, qs, hO, hl, hw⟩ => by
    rw [hl.len]
    refine Classical.byContradiction fun c => ?_
    rw [tk qs c] at hw
    exact hw
  refine F.okX S (fun vs H Q E h => (len vs H Q E h).trans hn.symm) (fun cdv A outer s H vs Q E hr hsp => ?_)
  have hvn := len vs H Q E hsp
  obtain ⟨O, qs, hO, hl, hw⟩ := hsp
  have hqn : qs.length = n := by rw [← hl.len]; exact hvn
  obtain ⟨t, ht, M, hM, e⟩ := h cdv A outer s H E hr qs hqn
  refine ⟨t, ht, ?_⟩
  rw [e] at hw
  have st0 : L2.start N vs = vs.map some ++ List.replicate (N.length - n) none := by unfold L2.start; rw [hvn]
  rw [st0]
  have R : Rel K cl O [] (qs.map Slot.fz ++ uns (N.length - n)) (vs.map some ++ List.replicate (N.length - n) none) H :=
    ⟨by rw [fz_adr, List.append_nil]; exact fz_rel _ hl, by rw [fz_adr]; exact List.nodup_nil, hO, by rw [fz_owa]; exact fun _ z => nomatch z⟩
  have sub : ∀ {A' : List Addr} {H' : Hp}, Gr (adr (qs.map Slot.fz ++ uns (N.length - n)) (vs.map some ++ List.replicate (N.length - n) none)) H A' H' → Sub H H' := fun {A' H'} g x o e => g.1 x o (by rw [fz_adr]; exact fun z => nomatch z) e
  refine hM O [] _ H _ R (fun _ z => nomatch z) (wp_mono (wp_bind.mp hw) (fun fl q => ?_) fun c q C σ' H' e g _ => q C H' e (sub g))
  cases fl with
  | nx s => exact fun σ' H' g R' => q .non H' (sub g) .non
  | rt v r => exact fun w' H' g i _ => q w' H' (sub g) i
  | ro mo => exact q.elim
  | bk l => exact nomatch l
  | ct l => exact nomatch l
end
section
variable {K : PySem.W.Frag} {cl : Str → Option Addr} {W Wo : WX} {bs O A A1 B : List Addr} {F H H' H1 : Hp} {ρ ρ' ρx ρh : Ro} {σ : St} {S S1 L : Type} {ρn : S → Ro} {ρj : S1 → Ro} {ρl : L → Ro} {D : Ends} {t u v tb : TS} {te ta tc td : TE} {m ma mb mc md : Res PV} {tr : TA} {ml : Res (List PV)} {mf : List PV → Res PV}
theorem pu_call (hl : PurL K cl W tr ρ ml) : Pur K cl W (tCallS (spP K cl mf) (WE W) tr) ρ (ml >>= mf) := fun O bs σ H Q R q => by
  refine hl O bs σ H _ R (wp_mono (wp_bind.mp q) (fun ps qs vs H1 s1 i1 => ?_) fun _ z => z)
  exact ⟨O ++ adr ρ σ, ps, fun a h => (R.same s1).got h, i1, wp_mono qs (fun r qr v H' s i => qr v H' (s1.trans s) i) fun c qc C H' e s => qc C H' e (s1.trans s)⟩
theorem pu_call1 {f : PV → Res PV} (ha : Pur K cl W ta ρ ma) : Pur K cl W (tCallS (spP K cl (ap1 f)) (WE W) (tCons ta tNil)) ρ (ma >>= f) := fun O bs σ H Q R q =>
  pu_call (mf := ap1 f) (pl_cons ha pl_nil) O bs σ H Q R (by cases ma <;> exact q)
theorem pu_call2 {f : PV → PV → Res PV} (ha : Pur K cl W ta ρ ma) (hb : Pur K cl W te ρ m) : Pur K cl W (tCallS (spP K cl (ap2 f)) (WE W) (tCons ta (tCons te tNil))) ρ (ma >>= fun x => m >>= fun y => f x y) := fun O bs σ H Q R q =>
  pu_call (mf := ap2 f) (pl_cons ha (pl_cons hb pl_nil)) O bs σ H Q R (by cases ma <;> cases m <;> exact q)
theorem pu_call3 {f : PV → PV → PV → Res PV} (ha : Pur K cl W ta ρ ma) (hb : Pur K cl W te ρ m) (hc : Pur K cl W tc ρ mc) : Pur K cl W (tCallS (spP K cl (ap3 f)) (WE W) (tCons ta (tCons te (tCons tc tNil)))) ρ (ma >>= fun x => m >>= fun y => mc >>= fun z => f x y z) := fun O bs σ H Q R q =>
  pu_call (mf := ap3 f) (pl_cons ha (pl_cons hb (pl_cons hc pl_nil))) O bs σ H Q R (by cases ma <;> cases m <;> cases mc <;> exact q)
theorem pu_call4 {f : PV → PV → PV → PV → Res PV} (ha : Pur K cl W ta ρ ma) (hb : Pur K cl W te ρ m) (hc : Pur K cl W tc ρ mc) (hd : Pur K cl W td ρ md) : Pur K cl W (tCallS (spP K cl (ap4 f)) (WE W) (tCons ta (tCons te (tCons tc (tCons td tNil))))) ρ (ma >>= fun x => m >>= fun y => mc >>= fun z => md >>= fun z' => f x y z z') := fun O bs σ H Q R q =>
  pu_call (mf := ap4 f) (pl_cons ha (pl_cons hb (pl_cons hc (pl_cons hd pl_nil)))) O bs σ H Q R (by cases ma <;> cases m <;> cases mc <;> cases md <;> exact q)
theorem pu_call5 {f : PV → PV → PV → PV → PV → Res PV} {t5 : TE} {m5 : Res PV} (ha : Pur K cl W ta ρ ma) (hb : Pur K cl W te ρ m) (hc : Pur K cl W tc ρ mc) (hd : Pur K cl W td ρ md) (h5 : Pur K cl W t5 ρ m5) : Pur K cl W (tCallS (spP K cl (ap5 f)) (WE W) (tCons ta (tCons te (tCons tc (tCons td (tCons t5 tNil)))))) ρ (ma >>= fun x => m >>= fun y => mc >>= fun z => md >>= fun z' => m5 >>= fun z5 => f x y z z' z5) := fun O bs σ H Q R q =>
  pu_call (mf := ap5 f) (pl_cons ha (pl_cons hb (pl_cons hc (pl_cons hd (pl_cons h5 pl_nil))))) O bs σ H Q R (by cases ma <;> cases m <;> cases mc <;> cases md <;> cases m5 <;> exact q)
/-- calls by keywords: the wish doesn't hang on the slots -/
theorem pu_callK {E : XK} {tk : TA} {mk : Res (List PV)} {gV : List V → List V → List V} {gP : List PV → List PV → List PV} (hg : ∀ {F : Hp} {vs : List V} {ps : List PV} {ws : List V} {qs : List PV}, IsL K cl F vs ps → IsL K cl F ws qs → IsL K cl F (gV vs ws) (gP ps qs))
    (hl : PurL K cl (fun c d _ H => E c d H) tr ρ ml) (hk : PurL K cl (fun c d _ H => E c d H) tk ρ mk) : Pur K cl (fun c d _ H => E c d H) (tCallK (spP K cl mf) gV E tr tk) ρ (ml >>= fun ps => mk >>= fun qs => mf (gP ps qs)) := fun O bs σ H Q R q => by
  refine hl O bs σ H _ R (wp_mono (wp_bind.mp q) (fun ps q1 vs H1 s1 i1 => ?_) fun _ z => z)
  refine hk O bs σ H1 _ (R.same s1) (wp_mono (wp_bind.mp q1) (fun qs q2 ws H2 s2 i2 => ?_) fun _ z => z.mono s1)
  have s12 := s1.trans s2
  exact ⟨O ++ adr ρ σ, gP ps qs, fun a h => (R.same s12).got h, hg (i1.mono (frz_same s2)) i2, wp_mono q2 (fun r qr v H' s i => qr v H' (s12.trans s) i) fun c qc C H' e s => qc C H' e (s12.trans s)⟩
/-! errors -/
theorem run_raise {c : Str} {C : Addr} (hc : cl c = some C) (w : Wk ρ ρx) : Runs (S := S) (L := L) K cl W (tSeq (fun _ σ H => (fun (_ : St) (H : Hp) (Q : XK) => Q (.ref C) none H) σ H fun cls d H' => W cls d σ H') u) ρ (.exc c) ρn ρl ρx := fun O bs σ H D R hb q =>
  q C σ H hc (Gr.wk w) (R.wk w)
def tryF {α : Type} (M : Res α) (hit : Str → Option Bool) (h : Res α) : Res α := match M with
  | .exc c => match hit c with
    | some true => noX h
    | some false => .exc c
    | none => .stuck
  | x => x
theorem run_try {c : Value} {ts : Addr → Value → Option Addr → TS} {tb : WX → TS} {M Mh : Res (Fl S L)} {hit : Str → Option Bool} (hm : ∀ c' C b, cl c' = some C → hit c' = some b → PySem.W.exmOne K (.ref C) c = some b) (w : Wk ρh ρx) (hb : ∀ W', Runs K cl W' (tb W') ρ M ρn ρl ρh)
    (hh : ∀ a cls d, Runs K cl (fun _ _ _ _ => False) (ts a cls d) ρh Mh ρn ρl ρx) : Runs K cl W (fun D σ H => tb (wOnly K c ts W D) D σ H) ρ (tryF M hit Mh) ρn ρl ρx := fun O bs σ H D R hbs q => by
  refine hb _ O bs σ H D R hbs ?_
  cases M with
  | val f => exact q
  | stuck => exact q
  | exc c' =>
    intro C σ' H' e g R'
    replace q : wp (match hit c' with | some true => noX Mh | some false => Res.exc c' | none => .stuck) (FlOk K cl O bs ρn ρl D (adr ρ σ) H) (ExOk K cl W O bs ρx (adr ρ σ) H) := q
    cases hc : hit c' with
    | none => rw [hc] at q; exact q.elim
    | some b =>
      rw [hc] at q
      refine ⟨b, hm c' C b e hc, fun hy a _ => ?_, fun hn => ?_⟩
      · subst hy
        exact hh a _ _ O bs σ' H' D R' hbs (wp_mono (wp_noX (E' := fun _ => False) q) (fun f z => z.step g) fun _ z => z.elim)
      · subst hn
        have q' : ExOk K cl W O bs ρx (adr ρ σ) H c' := q
        exact q' C σ' H' e (g.trans (Gr.wk w)) (R'.wk w)
/-! fields -/
def fldP (cs : List Str) (f : Str) : PV → Res PV
  | .ins C fs => if C ∈ cs then match fs.lookup f with
    | some p => .val p
    | none => .stuck
    else .stuck
  | _ => .stuck
theorem pu_fld {cs : List Str} {f : Str} (hF : ∀ C, C ∈ cs → ∀ c, cl C = some c → Cls K c ∧ NoAttr K c f) (ha : Vw K cl W ta ρ ma) : Pur K cl W (tFld K ta f) ρ (ma >>= fldP cs f) := fun O bs σ H Q R q => by
  refine ha O bs σ H _ R (wp_mono (wp_bind.mp q) (fun x qx v1 H1 s1 i1 => ?_) fun _ z => z)
  unfold fldP at qx
  split at qx
  · next C fs =>
    split at qx
    · next hC =>
      split at qx
      · next p e =>
        cases i1 with
        | ins hc h l =>
          obtain ⟨v, e2, iv⟩ := l.look e
          obtain ⟨c1, c2⟩ := hF C hC _ hc
          exact ⟨_, _, _, _, v, rfl, frz_sub _ _ h, c1, c2, e2, qx v H1 s1 iv⟩
      · exact qx.elim
    · exact qx.elim
  · exact qx.elim
/-! slices -/
def partP : PV → Res Int
  | .int i => .val i
  | _ => .stuck
def PrtO (K : PySem.W.Frag) (cl : Str → Option Addr) (W : WX) (t : TO) (ρ : Ro) (m : Res (Option Int)) : Prop := ∀ (O bs : List Addr) (σ : St) (H : Hp) (Q : Option Int → Hp → Prop), Rel K cl O bs ρ σ H →
  wp m (fun r => ∀ H', Sub H H' → Q r H') (XW cl W σ H) → t σ H Q
theorem pr_none : PrtO K cl W tNoPart ρ (.val none) := fun O bs σ H Q R q => q H .refl
theorem pr_some (ha : Vw K cl W ta ρ ma) : PrtO K cl W (tPart ta) ρ (ma >>= partP >>= fun i => .val (some i)) := fun O bs σ H Q R q => by
  rw [wp_bind, wp_bind] at q
  refine ha O bs σ H _ R (wp_mono q (fun x qx v1 H1 s1 i1 => ?_) fun _ z => z)
  unfold partP at qx
  split at qx
  · cases isV_int i1; exact ⟨_, rfl, qx H1 s1⟩
  · exact qx.elim
def cutP (xs : List PV) (lo hi : Option Int) : List PV := (xs.drop (HT.sIx xs.length 0 lo)).take (HT.sIx xs.length xs.length hi - HT.sIx xs.length 0 lo)
theorem IsL.cut {vs : List V} {ps : List PV} (h : IsL K cl F vs ps) (lo hi : Option Int) : IsL K cl F (cutV vs lo hi) (cutP ps lo hi) := by
  unfold cutV cutP
  rw [h.len]
  exact (h.drop _).take _
def slP (p : PV) (lo hi : Option Int) : Res PV := match p with
  | .tup ps => .val (.tup (cutP ps lo hi))
  | .lst ps => .val (.lst (cutP ps lo hi))
  | .fls ps => .val (.lst (cutP ps lo hi))
  | _ => .stuck
def rSlV (K : PySem.W.Frag) : V → Option Int → Option Int → Hp → VK → Prop := sOr (rSlL K) (rSlA K)
theorem sl_V (K : PySem.W.Frag) {X : Cx} (e : X.K = K) : SlR X (rSlV K) := by subst e; exact sl_list.or sl_tupA
theorem cut_all {vs : List V} {lo hi : Option Int} (h : HT.sIx vs.length 0 lo = 0 ∧ HT.sIx vs.length vs.length hi = vs.length) : cutV vs lo hi = vs := by
  unfold cutV
  rw [h.1, h.2, Nat.sub_zero, List.drop_zero, List.take_length]
theorem pu_sl {tl th : TO} {mlo mhi : Res (Option Int)} (ha : Vw K cl W ta ρ ma) (hl : PrtO K cl W tl ρ mlo) (hh : PrtO K cl W th ρ mhi) : Pur K cl W (tSl (rSlV K) ta tl th) ρ (ma >>= fun x => mlo >>= fun l => mhi >>= fun h => slP x l h) := fun O bs σ H Q R q => by
  refine ha O bs σ H _ R (wp_mono (wp_bind.mp q) (fun x qx v1 H1 s1 i1 => ?_) fun _ z => z)
  refine hl O bs σ H1 _ (R.same s1) (wp_mono (wp_bind.mp qx) (fun l ql H2 s2 => ?_) fun _ z => z.mono s1)
  have s12 := s1.trans s2
  refine hh O bs σ H2 _ (R.same s12) (wp_mono (wp_bind.mp ql) (fun h qh H3 s3 => ?_) fun _ z => z.mono s12)
  have s13 := s12.trans s3
  have R3 := R.same s13
  have i3 := i1.mono (frz_same (A := O ++ adr ρ σ) (s2.trans s3)) (s2.trans s3)
  unfold slP at qh
  split at qh
  · cases i3 with
    | tup hs hl =>
    refine .inr ⟨_, _, rfl, frz_sub.sqT hs, fun e => ?_, fun _ p hp => qh _ _ (s13.trans (sub_new hp _)) (new_tup (fun a h => R3.got h) hp (hl.cut _ _))⟩
    refine qh _ H3 s13 (.tup hs ?_)
    have := hl.cut l h
    rwa [cut_all e] at this
  · obtain ⟨a, vs, rfl, hs, hl⟩ := i3
    exact .inl ⟨a, vs, rfl, .inl (.inl hs), fun p hp => qh _ _ (s13.trans (sub_new hp _)) (new_lst (fun a h => R3.got h) hp (hl.cut _ _))⟩
  · cases i3 with
    | fls hs hl => exact .inl ⟨_, _, rfl, frz_sub.sqL hs, fun p hp => qh _ _ (s13.trans (sub_new hp _)) (new_lst (fun a h => R3.got h) hp (hl.cut _ _))⟩
  · exact qh.elim
end
/-! ### errors of one's own, made without arguments -/
section
open PySem.Spec PyProof.Rows
variable {X : Cx}
theorem pmk_own0 {C : Addr} {bmB : List Value} {B newId initId : String} {x : Str} {p pos : Pos} (F : ExcBaseFacts B newId initId bmB) (q : PySem.W.excIn X.K C bmB newId = true) (gC : X.mg x = some (.ref C))
    (kC : PySem.W.keepIn X.K (.ref C) = true) (r : Raises X (.ref C)) (hg : Gl X x) (hdb : (x == ("__debug__" : Str)) = false := by decide) :
    PMk X (.Call (.Name x p) [] [] pos) (fun _ H Q => Q (.ref C) none H) := by
  intro pins s σ H Q I h
  refine wpAny_Call_Name_kw (ld_glob I hg gC ?_ hdb)
  refine PySem.W.callWith_K0 (first := []) I.kIn kC ?_
  show wpAny _ _ (call (.ref C) []) _ _ _
  have X0 := I.kIn
  obtain ⟨bm, N, nm, qn, bs, hdct, sn, sub, ab, col, dd, k0, k1, k2, k3, k5, mN, hC, hN, hni, T⟩ := exc_obj X0 q
  refine wpAny_call_exc_subT F T hC hN hni (fun h' e hm => ?_) (Nat.zero_le _)
  exact mk_of I hm r h (I.hok.gone hm.new)
theorem pss_given {st : List Stmt} {t : TS} {φ : Prop} (h : φ → PSs X st t) : PSs X st (fun D σ H => φ ∧ t D σ H) := ⟨fun pins s σ H D I q => (h q.1).run pins s σ H D I q.2⟩
end
theorem kit_own {K : PySem.W.Frag} {D C : Addr} {b : Bool} (i : PySem.W.isClsIn K C = true) (t : PySem.W.typeIn K (.ref C) = some (.type "type")) (s : PySem.W.subIn K (.ref D) (.ref C) = some b) (h : D = C → b = true) : PySem.W.kitOne K (.ref D) (.ref C) = some b := by
  unfold PySem.W.kitOne
  by_cases e : D = C
  · rw [if_pos (by rw [e]; exact beq_self_eq_true _), h e]
  · have ne : (Value.ref D == Value.ref C) = false := beq_eq_false_iff_ne.mpr (fun z => e (Value.ref.inj z))
    rw [if_neg (by rw [ne]; exact Bool.false_ne_true)]
    show (if ((PySem.W.clsIn K C).isSome && PySem.W.typeIn K (.ref C) == some (.type "type")) = true then PySem.W.subIn K (.ref D) (.ref C) else none) = some b
    have i' : (PySem.W.clsIn K C).isSome = true := i
    rw [i', t, if_pos (by rfl)]
    exact s
theorem kit_val {K : PySem.W.Frag} {D : Addr} {b : Bool} (s : PySem.W.subIn K (.ref D) (.type "ValueError") = some b) : PySem.W.kitOne K (.ref D) (.type "ValueError") = some b := by
  unfold PySem.W.kitOne
  have ne : (Value.ref D == Value.type "ValueError") = false := beq_eq_false_iff_ne.mpr (fun z => nomatch z)
  rw [if_neg (by rw [ne]; exact Bool.false_ne_true)]
  show (if PySem.W.kitMeta "ValueError" = true then PySem.W.subIn K (.ref D) (.type "ValueError") else none) = some b
  rw [if_pos (by decide +kernel)]
  exact s
/-! ### calls by keywords alone -/
section
open PySem.Spec PyProof.Rows
variable {X : Cx} {CX : CXT} {k : Nat} {f : Addr} {fd : FuncData} {ps ks : List Str} {sp : Sp} {E : XK} {x : Str} {p pos : Pos} {kws : List Keyword} {tk : TA} {g : List Value → List Value → List Value} {gV : List V → List V → List V}
theorem pe_callK0 (F : FnOk X.prog X.w X.K X.mg X.base CX k f fd ps sp) (hr : Room k X.A) (hg : Gl X x) (hm : X.mg x = some (.ref f)) (hk : PySem.W.keepIn X.K (.ref f) = true) (hb : KBinds X.K fd ps ks g gV) (hx : Passes CX X E)
    (hkw : PK X kws tk) (hall : (backToKw pos (keywordEach kws X.env)).all (·.1.isSome) = true := by rfl) (hks : (backToKw pos (keywordEach kws X.env)).filterMap (·.1) = ks := by rfl)
    (hdb : (x == ("__debug__" : Str)) = false := by decide)
    (hpl : ((backTo pos (starEach [] X.env)).any (·.1) || (backToKw pos (keywordEach kws X.env)).any (·.1.isNone)) = false := by rfl) :
    PE X (.Call (.Name x p) [] kws pos) (tCallK sp gV E tNil tk) := by
  refine ⟨fun pins s σ H Q I h => ?_⟩
  refine wpAny_Call_Name_kw (ld_glob I hg hm ?_ hdb)
  refine PySem.W.callWith_KW0 (h₀ := X.base) I.ok.mod.kin hk hall ?_ hpl
  refine thn (hkw.run pos pins s σ H _ I h) fun ws s2 ⟨zs, H2, I2, rz, q2⟩ => ⟨I2.kIn, ?_⟩
  rw [hks]
  exact run_fnk (us := []) (vs := []) F hr hb hx I2 .nil rz q2
end
theorem fun_kbinds {K : PySem.W.Frag} {x qual : Str} {st : Stmt} {f : Addr} {fd : FuncData} {ps ks : List Str} {g : List Value → List Value → List Value} {gV : List V → List V → List V} (F : Fun K x qual st f fd)
    (hrel : ∀ {vs : List V} {us : List Value} {zs : List V} {ws : List Value}, Vals vs us → Vals zs ws → Vals (gV vs zs) (g us ws))
    (h : ∀ (kV doc pm : Value) (an : Option Addr) (cdv ct : Value) (us ws : List Value), (g us ws).length = ps.length → bindArgs (PySem.W.fnOf x qual (defArgs st) (defBody st) (defScope st) .none kV doc pm an cdv ct) ⟨us, ks.zip ws⟩ = pure (ps.zip (g us ws))) : KBinds K fd ps ks g gV := by
  obtain ⟨oc, od, kV, doc, pm, an, cdv, ct, osl, rfl, lk, hcd⟩ := F.ex
  exact ⟨fun s us ws _ hl => .of_eq (h kV doc pm an cdv ct us ws hl), hrel⟩
/-! ### rules that name the fragment -/
section
variable {X : Cx}
theorem op_eqV (K : PySem.W.Frag) (e : X.K = K) (hu : X.A.units + 64 < cLine) : OpR X (compareOp .Eq) (rEqD K) := by subst e; exact op_eqD hu
theorem op_neV (K : PySem.W.Frag) (e : X.K = K) (hu : X.A.units + 64 < cLine) : OpR X (compareOp .NotEq) (rNeD K) := by subst e; exact op_neD hu
theorem op_inV (K : PySem.W.Frag) (e : X.K = K) : OpR X (compareOp .In) (rIn K false) := by subst e; exact op_in_seq
theorem op_notInV (K : PySem.W.Frag) (e : X.K = K) : OpR X (compareOp .NotIn) (rIn K true) := by subst e; exact op_notIn_seq
theorem call_isiV (K : PySem.W.Frag) (e : X.K = K) : CallR X (.builtin "isinstance") (rIsi K) := by subst e; exact call_isi
theorem cr_sumV (K : PySem.W.Frag) (e : X.K = K) (hc : X.calm = true) : CallR X (.builtin "sum") (rSum K) := by subst e; exact cr_sum hc
theorem cr_allV (K : PySem.W.Frag) (e : X.K = K) (hc : X.calm = true) : CallR X (.builtin "all") (rAll K) := by subst e; exact cr_all hc
theorem cr_anyV (K : PySem.W.Frag) (e : X.K = K) (hc : X.calm = true) : CallR X (.builtin "any") (rAny K) := by subst e; exact cr_any hc
theorem call_intV : CallR X (.type "int") rIntV := call_int1
theorem call_boolV : CallR X (.type "bool") rBoolV := call_bool1
theorem pi_listV (K : PySem.W.Frag) {tg l : Expr} {tl : TE} (e : X.K = K) (hl : PE X l tl) : PI X tg l (iList K tl) := by subst e; exact pi_list hl
theorem pi_zipV (K : PySem.W.Frag) (ek : X.K = K) {e e2 : Expr} {ta : TA} {p pos tpos : Pos} {elts : List Expr} {kk : Nat} (hg : Gl X "zip") (hm : X.mg "zip" = none) (ha : PA X [e, e2] ta)
    (hs : starEach [e, e2] X.env = (false, eval e X.env) :: starEach [e2] X.env := by rfl) (hpl : (backTo pos (starEach [e2] X.env)).any (·.1) = false := by rfl) :
    PI X (.Tuple elts kk tpos) (.Call (.Name "zip" p) [e, e2] [] pos) (RZ.iZipA K ta) := by subst ek; exact RZ.pi_zipA hg hm ha hs hpl
theorem pi_enumV (K : PySem.W.Frag) (ek : X.K = K) {e : Expr} {ta : TA} {p pos tpos : Pos} {elts : List Expr} {kk : Nat} (hg : Gl X "enumerate") (hm : X.mg "enumerate" = none) (ha : PA X [e] ta) (hs : starEach [e] X.env = [(false, eval e X.env)] := by rfl) :
    PI X (.Tuple elts kk tpos) (.Call (.Name "enumerate" p) [e] [] pos) (iEnum K ta) := by subst ek; exact pi_enum hg hm ha hs
theorem pe_fldV (K : PySem.W.Frag) (ek : X.K = K) {e : Expr} {ta : TE} {f : Str} {pos : Pos} (he : PE X e ta) (hb : attributeBase e f X.env (eval e X.env) = eval e X.env) : PE X (.Attribute e f pos) (tFld K ta f) := by subst ek; exact pe_fld he hb
theorem pe_gint {x : Str} {n : Int} {pos : Pos} (hg : Gl X x) (h : ∃ t, X.mg x = some (.int n t)) (hd : (x == ("__debug__" : Str)) = false := by decide) : PE X (.Name x pos) (tC (.int n)) := by
  obtain ⟨t, h⟩ := h
  exact pe_glob hg h ⟨t, rfl⟩ hd
end
/-- as many turns as a while may take -/
def FUEL : Nat := 1000000
open PySem.Spec PyProof.Rows in
theorem fn_stuck {P : Program} {w : World} {K : PySem.W.Frag} {mg : Str → Option Value} {base : Heap} {CX : CXT} {cl : Str → Option Addr} {k : Nat} {f : Addr} {fd : FuncData} {ps : List Str} {mf : List PV → Res PV} (h : ∀ qs, mf qs = .stuck) : FnOk P w K mg base CX k f fd ps (spP K cl mf) := by
  refine ⟨fun vs H Q E ⟨O, qs, _, _, hw⟩ => ?_, fun A outer s H args us vs Q E _ _ _ _ ⟨O, qs, _, _, hw⟩ => ?_⟩
  · rw [h] at hw; exact hw.elim
  · rw [h] at hw; exact hw.elim
theorem stuck1 : ∀ qs, ap1 (fun _ => (.stuck : Res PV)) qs = .stuck := fun qs => by unfold ap1; split <;> rfl
theorem stuck2 : ∀ qs, ap2 (fun _ _ => (.stuck : Res PV)) qs = .stuck := fun qs => by unfold ap2; split <;> rfl
theorem stuck3 : ∀ qs, ap3 (fun _ _ _ => (.stuck : Res PV)) qs = .stuck := fun qs => by unfold ap3; split <;> rfl
theorem stuck4 : ∀ qs, ap4 (fun _ _ _ _ => (.stuck : Res PV)) qs = .stuck := fun qs => by unfold ap4; split <;> rfl
theorem stuck5 : ∀ qs, ap5 (fun _ _ _ _ _ => (.stuck : Res PV)) qs = .stuck := fun qs => by unfold ap5; split <;> rfl
theorem stuck6 : ∀ qs, ap6 (fun _ _ _ _ _ _ => (.stuck : Res PV)) qs = .stuck := fun qs => by unfold ap6; split <;> rfl
theorem stuck7 : ∀ qs, ap7 (fun _ _ _ _ _ _ _ => (.stuck : Res PV)) qs = .stuck := fun qs => by unfold ap7; split <;> rfl
/-! ### expressions that change what is owned or lent: a state of contents is threaded -/
section
variable (K : PySem.W.Frag) (cl : Str → Option Addr)
def Eff {S : Type} (t : TE) (ρs : S → Ro) (m : S → Res (PV × S)) : Prop := ∀ (s : S) (O bs : List Addr) (σ : St) (H : Hp) (Q : VK), Rel K cl O bs (ρs s) σ H → (∀ b, b ∈ bs → b ∈ O) →
  wp (m s) (fun r => ∀ v H', Gr (adr (ρs s) σ) H (adr (ρs s) σ) H' → Rel K cl O bs (ρs r.2) σ H' → adr (ρs r.2) σ = adr (ρs s) σ → Is K cl (frz H' (O ++ adr (ρs s) σ)) v r.1 → Q v H') (fun _ => False) → t σ H Q
def EffL {S : Type} (t : TA) (ρs : S → Ro) (m : S → Res (List PV × S)) : Prop := ∀ (s : S) (O bs : List Addr) (σ : St) (H : Hp) (Q : List V → Hp → Prop), Rel K cl O bs (ρs s) σ H → (∀ b, b ∈ bs → b ∈ O) →
  wp (m s) (fun r => ∀ vs H', Gr (adr (ρs s) σ) H (adr (ρs s) σ) H' → Rel K cl O bs (ρs r.2) σ H' → adr (ρs r.2) σ = adr (ρs s) σ → IsL K cl (frz H' (O ++ adr (ρs s) σ)) vs r.1 → Q vs H') (fun _ => False) → t σ H Q
def EffT {S : Type} (t : TT) (ρs : S → Ro) (m : S → Res (Bool × S)) : Prop := ∀ (s : S) (O bs : List Addr) (σ : St) (H : Hp) (Q : Bool → Hp → Prop), Rel K cl O bs (ρs s) σ H → (∀ b, b ∈ bs → b ∈ O) →
  wp (m s) (fun r => ∀ H', Gr (adr (ρs s) σ) H (adr (ρs s) σ) H' → Rel K cl O bs (ρs r.2) σ H' → adr (ρs r.2) σ = adr (ρs s) σ → Q r.1 H') (fun _ => False) → t σ H Q
def EffI {S : Type} (wi : TI) (ρs : S → Ro) (m : S → Res (List PV × S)) : Prop := ∀ (s : S) (O bs : List Addr) (σ : St) (H : Hp) (R : It → Hp → Prop), Rel K cl O bs (ρs s) σ H → (∀ b, b ∈ bs → b ∈ O) →
  wp (m s) (fun r => ∀ J H', Gr (adr (ρs s) σ) H (adr (ρs s) σ) H' → Rel K cl O bs (ρs r.2) σ H' → adr (ρs r.2) σ = adr (ρs s) σ → ItOk K cl (fun _ => True) (frz H' (O ++ adr (ρs s) σ)) J r.1 → R J H') (fun _ => False) → wi σ H R
/-- a def that is lent one list or dict, its first argument -/
def spR (mf : MO → List PV → Res (PV × MO)) : Sp := fun vs H Q _ => ∃ O b mo us ps, vs = .ref b :: us ∧ b ∈ O ∧ (∀ a, a ∈ O → ∃ o, H a = some o) ∧ MoIs K cl (frz H O) H b mo ∧ IsL K cl (frz H O) us ps ∧
  wp (mf mo ps) (fun r => ∀ v H', (∀ x o, x ≠ b → H x = some o → H' x = some o) → MoIs K cl (frz H' O) H' b r.2 → Is K cl (frz H' O) v r.1 → Q v H') (fun _ => False)
/-- a def that gives a new list or dict -/
def spN (mf : List PV → Res MO) : Sp := fun vs H Q _ => ∃ O ps, (∀ a, a ∈ O → ∃ o, H a = some o) ∧ IsL K cl (frz H O) vs ps ∧
  wp (mf ps) (fun mo => ∀ p H', Sub H H' → H p = none → MoIs K cl (frz H' (p :: O)) H' p mo → Q (.ref p) H') (fun _ => False)
end
section
variable {K : PySem.W.Frag} {cl : Str → Option Addr} {W : WX} {bs O A A1 B : List Addr} {F H H' H1 : Hp} {ρ ρ' ρx ρh : Ro} {σ : St} {S S1 S2 L : Type} {ρs : S → Ro} {ρn : S1 → Ro} {ρj : S2 → Ro} {ρl : L → Ro} {D : Ends} {t u v tb : TS} {te ta tc td : TE} {m : S → Res PV} {ma mb mc md : S → Res (PV × S)} {tr : TA} {ml mk : S → Res (List PV × S)}
theorem Gr.eq {A A' : List Addr} (g : Gr A H A H1) (e : A' = A) : Gr A H A' H1 := by rw [e]; exact g
theorem ef_pure (h : ∀ s, Pur K cl W te (ρs s) (m s)) : Eff K cl te ρs (fun s => noX (m s) >>= fun v => .val (v, s)) := fun s O bs σ H Q R hb q => by
  refine h s O bs σ H Q R (wp_mono (wp_noX (E' := fun _ => False) (wp_bind.mp q)) (fun r qr v H' s' i => ?_) fun _ z => z.elim)
  exact qr v H' (Gr.of s') (R.same s') rfl i
theorem ef_op {r : R2} {f : PV → PV → Res PV} (ho : Op2 K cl r f) (ha : Eff K cl ta ρs ma) (hb' : Eff K cl tc ρs mb) : Eff K cl (tOp r ta tc) ρs (fun s => ma s >>= fun x => mb x.2 >>= fun y => noX (f x.1 y.1) >>= fun z => .val (z, y.2)) := fun s O bs σ H Q R hb q => by
  refine ha s O bs σ H _ R hb (wp_mono (wp_bind.mp q) (fun x qx v1 H1 g1 R1 e1 i1 => ?_) fun _ z => z)
  refine hb' x.2 O bs σ H1 _ R1 hb (wp_mono (wp_bind.mp qx) (fun y qy v2 H2 g2 R2 e2 i2 => ?_) fun _ z => z)
  rw [e1] at g2 i2
  have i1' := i1.mono (g2.sub R1.al)
  have hA : ∀ a, a ∈ O ++ adr (ρs s) σ → ∃ o, H2 a = some o := fun a h => R2.got (by rw [e2, e1]; exact h)
  refine ho _ H2 v1 v2 x.1 y.1 _ (fun _ => False) hA (i1'.view frz_sub) (i2.view frz_sub) (wp_mono (wp_noX (E' := fun _ => False) (wp_bind.mp qy)) (fun z qz v H' s iz => ?_) fun _ z => z)
  exact qz v H' ((g1.trans g2).trans (Gr.of s)) (R2.same s) (e2.trans e1) iz
theorem ef_un {r : V → Hp → VK → Prop} {f : PV → Res PV} (ho : Op1 K cl r f) (ha : Eff K cl ta ρs ma) : Eff K cl (tUn r ta) ρs (fun s => ma s >>= fun x => noX (f x.1) >>= fun z => .val (z, x.2)) := fun s O bs σ H Q R hb q => by
  refine ha s O bs σ H _ R hb (wp_mono (wp_bind.mp q) (fun x qx v1 H1 g1 R1 e1 i1 => ?_) fun _ z => z)
  have hA : ∀ a, a ∈ O ++ adr (ρs s) σ → ∃ o, H1 a = some o := fun a h => R1.got (by rw [e1]; exact h)
  exact ho _ H1 v1 x.1 _ (fun _ => False) hA (i1.view frz_sub) (wp_mono (wp_noX (E' := fun _ => False) (wp_bind.mp qx)) (fun z qz v H' s iz => qz v H' (g1.trans (Gr.of s)) (R1.same s) e1 iz) fun _ z => z)
theorem ef_cb1 {r : List V → Hp → VK → Prop} {f : PV → Res PV} (ho : Bi1 K cl r f) (ha : Eff K cl ta ρs ma) : Eff K cl (tCB r (tCons ta tNil)) ρs (fun s => ma s >>= fun x => noX (f x.1) >>= fun z => .val (z, x.2)) := ef_un (r := fun x H Q => r [x] H Q) ho ha
theorem ef_cb2 {r : List V → Hp → VK → Prop} {f : PV → PV → Res PV} (ho : Bi2 K cl r f) (ha : Eff K cl ta ρs ma) (hb' : Eff K cl tc ρs mb) : Eff K cl (tCB r (tCons ta (tCons tc tNil))) ρs (fun s => ma s >>= fun x => mb x.2 >>= fun y => noX (f x.1 y.1) >>= fun z => .val (z, y.2)) :=
  ef_op (r := fun x y H Q => r [x, y] H Q) ho ha hb'
theorem el_nil : EffL K cl tNil ρs (fun s => .val ([], s)) := fun s O bs σ H Q R hb q => q [] H .refl R rfl .nil
theorem el_cons (ha : Eff K cl ta ρs ma) (hl : EffL K cl tr ρs ml) : EffL K cl (tCons ta tr) ρs (fun s => ma s >>= fun x => ml x.2 >>= fun xs => .val (x.1 :: xs.1, xs.2)) := fun s O bs σ H Q R hb q => by
  refine ha s O bs σ H _ R hb (wp_mono (wp_bind.mp q) (fun x qx v1 H1 g1 R1 e1 i1 => ?_) fun _ z => z)
  refine hl x.2 O bs σ H1 _ R1 hb (wp_mono (wp_bind.mp qx) (fun xs qs vs H2 g2 R2 e2 i2 => ?_) fun _ z => z)
  rw [e1] at g2 i2
  exact qs _ H2 (g1.trans g2) R2 (e2.trans e1) (.cons (i1.mono (g2.sub R1.al)) i2)
theorem ef_tup (hl : EffL K cl tr ρs ml) : Eff K cl (tTup tr) ρs (fun s => ml s >>= fun xs => mkT xs.1 >>= fun z => .val (z, xs.2)) := fun s O bs σ H Q R hb q => by
  refine hl s O bs σ H _ R hb (wp_mono (wp_bind.mp q) (fun ps qs vs H1 g1 R1 e1 i1 => ?_) fun _ z => z)
  obtain ⟨z, qs⟩ := wp_sized (wp_bind.mp (wp_bind.mp qs))
  have hA : ∀ a, a ∈ O ++ adr (ρs s) σ → ∃ o, H1 a = some o := fun a h => R1.got (by rw [e1]; exact h)
  refine ⟨by rw [i1.len]; exact z, fun p hp => qs _ _ (g1.trans (Gr.of (sub_new hp _))) (R1.same (sub_new hp _)) e1 (new_tup hA hp i1)⟩
theorem ef_lst (hl : EffL K cl tr ρs ml) : Eff K cl (tLst tr) ρs (fun s => ml s >>= fun xs => mkL xs.1 >>= fun z => .val (z, xs.2)) := fun s O bs σ H Q R hb q => by
  refine hl s O bs σ H _ R hb (wp_mono (wp_bind.mp q) (fun ps qs vs H1 g1 R1 e1 i1 => ?_) fun _ z => z)
  obtain ⟨z, qs⟩ := wp_sized (wp_bind.mp (wp_bind.mp qs))
  have hA : ∀ a, a ∈ O ++ adr (ρs s) σ → ∃ o, H1 a = some o := fun a h => R1.got (by rw [e1]; exact h)
  refine ⟨by rw [i1.len]; exact z, fun p hp => qs _ _ (g1.trans (Gr.of (sub_new hp _))) (R1.same (sub_new hp _)) e1 (new_lst hA hp i1)⟩
theorem et_pure {mt : S → Res Bool} {c : TT} (h : ∀ s, Tst K cl W c (ρs s) (mt s)) : EffT K cl c ρs (fun s => noX (mt s) >>= fun b => .val (b, s)) := fun s O bs σ H Q R hb q =>
  h s O bs σ H Q R (wp_mono (wp_noX (E' := fun _ => False) (wp_bind.mp q)) (fun r qr H' s' => qr H' (Gr.of s') (R.same s') rfl) fun _ z => z.elim)
theorem et_val (ha : Eff K cl ta ρs ma) : EffT K cl (tB ta) ρs (fun s => ma s >>= fun x => asB x.1 >>= fun b => .val (b, x.2)) := fun s O bs σ H Q R hb q => by
  refine ha s O bs σ H _ R hb (wp_mono (wp_bind.mp q) (fun x qx v1 H1 g1 R1 e1 i1 => ?_) fun _ z => z)
  obtain ⟨b, e, qb⟩ := wp_asB (wp_bind.mp qx)
  rw [e] at i1
  cases i1
  exact ⟨b, rfl, qb H1 g1 R1 e1⟩
theorem et_cmp (ha : Eff K cl ta ρs ma) : EffT K cl (tTest ta) ρs (fun s => ma s >>= fun x => asB x.1 >>= fun b => .val (b, x.2)) := fun s O bs σ H Q R hb q => by
  refine ha s O bs σ H _ R hb (wp_mono (wp_bind.mp q) (fun x qx v1 H1 g1 R1 e1 i1 => ?_) fun _ z => z)
  obtain ⟨b, e, qb⟩ := wp_asB (wp_bind.mp qx)
  rw [e] at i1
  cases i1
  exact ⟨b, rfl, qb H1 g1 R1 e1⟩
variable {c1 c2 : TT} {n1 n2 : S → Res (Bool × S)}
theorem et_and (h1 : EffT K cl c1 ρs n1) (h2 : EffT K cl c2 ρs n2) : EffT K cl (tAnd c1 c2) ρs (fun s => n1 s >>= fun b => if b.1 = true then n2 b.2 else .val (false, b.2)) := fun s O bs σ H Q R hb q => by
  refine h1 s O bs σ H _ R hb (wp_mono (wp_bind.mp q) (fun b qb H1 g1 R1 e1 => ?_) fun _ z => z)
  obtain ⟨b, s1⟩ := b
  cases b with
  | true => exact h2 s1 O bs σ H1 _ R1 hb (wp_mono qb (fun c qc H2 g2 R2 e2 => qc H2 (g1.trans (by rw [e1] at g2; exact g2)) R2 (e2.trans e1)) fun _ z => z)
  | false => exact qb H1 g1 R1 e1
theorem et_or (h1 : EffT K cl c1 ρs n1) (h2 : EffT K cl c2 ρs n2) : EffT K cl (tOr c1 c2) ρs (fun s => n1 s >>= fun b => if b.1 = true then .val (true, b.2) else n2 b.2) := fun s O bs σ H Q R hb q => by
  refine h1 s O bs σ H _ R hb (wp_mono (wp_bind.mp q) (fun b qb H1 g1 R1 e1 => ?_) fun _ z => z)
  obtain ⟨b, s1⟩ := b
  cases b with
  | false => exact h2 s1 O bs σ H1 _ R1 hb (wp_mono qb (fun c qc H2 g2 R2 e2 => qc H2 (g1.trans (by rw [e1] at g2; exact g2)) R2 (e2.trans e1)) fun _ z => z)
  | true => exact qb H1 g1 R1 e1
theorem et_not (h1 : EffT K cl c1 ρs n1) : EffT K cl (tNot c1) ρs (fun s => n1 s >>= fun b => .val (!b.1, b.2)) := fun s O bs σ H Q R hb q =>
  h1 s O bs σ H _ R hb (wp_mono (wp_bind.mp q) (fun _ qb H1 g1 R1 e1 => qb H1 g1 R1 e1) fun _ z => z)
theorem ef_if (h1 : EffT K cl c1 ρs n1) (ha : Eff K cl ta ρs ma) (hb' : Eff K cl tc ρs mb) : Eff K cl (tIf c1 ta tc) ρs (fun s => n1 s >>= fun b => if b.1 = true then ma b.2 else mb b.2) := fun s O bs σ H Q R hb q => by
  refine h1 s O bs σ H _ R hb (wp_mono (wp_bind.mp q) (fun b qb H1 g1 R1 e1 => ?_) fun _ z => z)
  obtain ⟨b, s1⟩ := b
  cases b with
  | true => exact ha s1 O bs σ H1 _ R1 hb (wp_mono qb (fun c qc v H2 g2 R2 e2 i => qc v H2 (g1.trans (by rw [e1] at g2; exact g2)) R2 (e2.trans e1) (by rw [e1] at i; exact i)) fun _ z => z)
  | false => exact hb' s1 O bs σ H1 _ R1 hb (wp_mono qb (fun c qc v H2 g2 R2 e2 i => qc v H2 (g1.trans (by rw [e1] at g2; exact g2)) R2 (e2.trans e1) (by rw [e1] at i; exact i)) fun _ z => z)
/-- a pure def, its arguments with effects -/
theorem ef_call {mf : List PV → Res PV} (hl : EffL K cl tr ρs ml) : Eff K cl (tCallS (spP K cl mf) (WE W) tr) ρs (fun s => ml s >>= fun xs => noX (mf xs.1) >>= fun z => .val (z, xs.2)) := fun s O bs σ H Q R hb q => by
  refine hl s O bs σ H _ R hb (wp_mono (wp_bind.mp q) (fun ps qs vs H1 g1 R1 e1 i1 => ?_) fun _ z => z)
  have hA : ∀ a, a ∈ O ++ adr (ρs s) σ → ∃ o, H1 a = some o := fun a h => R1.got (by rw [e1]; exact h)
  refine ⟨O ++ adr (ρs s) σ, ps.1, hA, i1, wp_mono (wp_noX (E' := fun _ => False) (wp_bind.mp qs)) (fun r qr v H' s i => qr v H' (g1.trans (Gr.of s)) (R1.same s) e1 i) fun _ z => z.elim⟩
/-- a def that is lent the list or dict at slot i -/
theorem ef_callR {mf : MO → List PV → Res (PV × MO)} {i : Nat} {sl : S → Slot} {get : S → MO} {put : S → MO → Res S} (hi : ∀ s, (ρs s)[i]? = some (sl s)) (hs : ∀ s, sl s = .ow (get s) ∨ ∃ k, sl s = .rf k (get s)) (hp : ∀ s mo s', put s mo = .val s' → (ρs s).set i (reSl (sl s) mo) = ρs s') (hl : EffL K cl tr ρs ml) :
    Eff K cl (tCallS (spR K cl mf) (WE W) (tCons (tVar i) tr)) ρs (fun s => ml s >>= fun xs => mf (get xs.2) xs.1 >>= fun r => put xs.2 r.2 >>= fun s' => .val (r.1, s')) := fun s O bs σ H Q R hb q => by
  have ha : ∃ a, σ[i]? = some (some (.ref a)) := by
    obtain ⟨x, e, q⟩ := R.sl.get (hi s)
    rcases hs s with h | ⟨k, h⟩
    · rw [h] at q; obtain ⟨a, rfl, _⟩ := q; exact ⟨a, e⟩
    · rw [h] at q; obtain ⟨a, rfl, _⟩ := q; exact ⟨a, e⟩
  obtain ⟨a, ha⟩ := ha
  refine ⟨_, ha, hl s O bs σ H _ R hb (wp_mono (wp_bind.mp q) (fun ps qs vs H1 g1 R1 e1 i1 => ?_) fun _ z => z)⟩
  have hm : MoIs K cl (frz H1 (O ++ adr (ρs ps.2) σ)) H1 a (get ps.2) := by
    obtain ⟨x, e, q⟩ := R1.sl.get (hi ps.2)
    rw [ha] at e
    cases e
    rcases hs ps.2 with h | ⟨k, h⟩
    · rw [h] at q; obtain ⟨b, e, q⟩ := q; cases e; exact q
    · rw [h] at q; obtain ⟨b, e, _, q⟩ := q; cases e; exact q
  have ma : a ∈ adr (ρs ps.2) σ := adr_at (hi ps.2) ha ((hs ps.2).imp (fun h => ⟨_, h⟩) fun ⟨k, h⟩ => ⟨k, _, h⟩)
  rw [e1] at hm ma
  have hA : ∀ a, a ∈ O ++ adr (ρs s) σ → ∃ o, H1 a = some o := fun a h => R1.got (by rw [e1]; exact h)
  refine ⟨O ++ adr (ρs s) σ, a, get ps.2, vs, ps.1, rfl, List.mem_append_right _ ma, hA, hm, i1, wp_mono (wp_bind.mp qs) (fun r qr v H' hk hmo iv => ?_) fun _ z => z⟩
  obtain ⟨R2, g2⟩ := R1.putH (H2 := H') (m' := r.2) hk (MoIs.got hmo) (hi ps.2) (hs ps.2) ha (by rw [e1]; exact hmo)
  have e2 : adr ((ρs ps.2).set i (reSl (sl ps.2) r.2)) σ = adr (ρs ps.2) σ := (adr_re (hi ps.2)).1
  rw [e2, e1] at g2
  cases hpu : put ps.2 r.2 with
  | val s' =>
    rw [hp _ _ _ hpu] at R2 e2
    have qr := wp_bind.mp qr
    rw [hpu] at qr
    have qr' : ∀ v H', Gr (adr (ρs s) σ) H (adr (ρs s) σ) H' → Rel K cl O bs (ρs s') σ H' → adr (ρs s') σ = adr (ρs s) σ → Is K cl (frz H' (O ++ adr (ρs s) σ)) v r.1 → Q v H' := qr
    exact qr' v H' (g1.trans g2) R2 (e2.trans e1) iv
  | exc c =>
    have qr := wp_bind.mp qr
    rw [hpu] at qr
    exact qr.elim
  | stuck =>
    have qr := wp_bind.mp qr
    rw [hpu] at qr
    exact qr.elim
/-! iterators with effects -/
theorem ei_rng1 (ha : Eff K cl ta ρs ma) : EffI K cl (iRng1 (tCons ta tNil)) ρs (fun s => ma s >>= fun x => rng1 x.1 >>= fun z => .val (z, x.2)) := fun s O bs σ H Rr R hb q => by
  refine ha s O bs σ H _ R hb (wp_mono (wp_bind.mp q) (fun x w v H' g1 R1 e1 i => ?_) fun _ z => z)
  have w := wp_bind.mp w
  unfold rng1 at w
  split at w
  · next j e =>
    rw [e] at i
    cases i
    split at w
    · next c => exact ⟨j, rfl, c.1, c.2, w _ H' g1 R1 e1 (itOk_rng (by rw [rng_len, Int.sub_zero]) fun i p h => by have := rng_get h; rwa [Int.sub_zero] at this)⟩
    · exact w.elim
  · exact w.elim
theorem ei_pure {wi : TI} {mi : S → Res (List PV)} (h : ∀ s, Iter K cl W wi (ρs s) (mi s)) : EffI K cl wi ρs (fun s => noX (mi s) >>= fun z => .val (z, s)) := fun s O bs σ H Rr R hb q =>
  h s O bs σ H Rr R (wp_mono (wp_noX (E' := fun _ => False) (wp_bind.mp q)) (fun r qr J H' s' i => qr J H' (Gr.of s') (R.same s') rfl i) fun _ z => z.elim)
theorem ei_seq (ha : Eff K cl te ρs ma) : EffI K cl (iSeqV K te) ρs (fun s => ma s >>= fun x => asSq x.1 >>= fun z => .val (z, x.2)) := fun s O bs σ H Rr R hb q => by
  have w := wp_bind.mp q
  cases hm : ma s with
  | stuck => rw [hm] at w; exact w.elim
  | exc c => rw [hm] at w; exact w.elim
  | val x =>
    rw [hm] at w
    have w := wp_bind.mp (show wp (asSq x.1 >>= fun z => .val (z, x.2)) _ _ from w)
    obtain ⟨p, s1⟩ := x
    cases p with
    | tup ps =>
      refine .inr (ha s O bs σ H _ R hb ?_)
      rw [hm]
      refine wp_val.mpr fun v H' g1 R1 e1 i => ?_
      cases (show Is K cl (frz H' (O ++ adr (ρs s) σ)) v (.tup ps) from i) with
      | tup h l => exact ⟨_, rfl, ⟨_, frz_sub.sqT h⟩, w _ H' g1 R1 e1 ((itOk_tup (P := fun _ => True) (fun H _ sF => sF.sqT h) l).of fun H B _ sF => ⟨trivial, sF.trans frz_sub⟩)⟩
    | lst ps =>
      refine .inl (ha s O bs σ H _ R hb ?_)
      rw [hm]
      refine wp_val.mpr fun v H' g1 R1 e1 i => ?_
      cases (show Is K cl (frz H' (O ++ adr (ρs s) σ)) v (.lst ps) from i) with
      | lst h l => exact ⟨_, rfl, ⟨_, .inl (.inl (frz_sub _ _ h))⟩, w _ H' g1 R1 e1 ((itOk_list (P := fun _ => True) (fun H _ sF => .inl (.inl (sF _ _ h))) l).of fun H B _ sF => ⟨trivial, sF.trans frz_sub⟩)⟩
    | fls ps =>
      refine .inl (ha s O bs σ H _ R hb ?_)
      rw [hm]
      refine wp_val.mpr fun v H' g1 R1 e1 i => ?_
      cases (show Is K cl (frz H' (O ++ adr (ρs s) σ)) v (.fls ps) from i) with
      | fls h l => exact ⟨_, rfl, ⟨_, frz_sub.sqL h⟩, w _ H' g1 R1 e1 ((itOk_list (P := fun _ => True) (fun H _ sF => sF.sqL h) l).of fun H B _ sF => ⟨trivial, sF.trans frz_sub⟩)⟩
    | _ => exact w.elim
/-! statements with effects -/
variable {s0 : S}
theorem Wk.of_eq {ρ ρ' : Ro} (e : ρ = ρ') : Wk ρ ρ' := by rw [e]; exact Wk.refl _
theorem run_setE {i : Nat} {n : PV → S → Res (Fl S1 L)} (he : Eff K cl te ρs ma) (e0 : ρs s0 = ρ) (hn : ∀ s, nad (ρs s) i = true) (h : ∀ x s, Runs K cl W u ((ρs s).set i (.fz x)) (n x s) ρn ρl ρx) :
    Runs K cl W (tSeq (tAsg te (gName i)) u) ρ (noX (ma s0) >>= fun r => n r.1 r.2) ρn ρl ρx := fun O bs σ H D R hb q => by
  subst e0
  refine he s0 O bs σ H _ R hb (wp_mono (wp_noX (E' := fun _ => False) (wp_bind.mp q)) (fun x qx v H' g1 R1 e1 i1 => ?_) fun _ z => z)
  have g : Gr (adr (ρs s0) σ) H (adr ((ρs x.2).set i (.fz x.1)) (σ.set i (some v))) H' := by rw [adr_setn (hn _), e1]; exact g1
  exact h x.1 x.2 O bs _ H' D (R1.setfz (hn _) (by rw [e1]; exact i1)) hb (wp_mono qx (fun _ z => z.step g) fun _ z => z.step g)
theorem run_asgE {g : TG} {α : Type} {d : PV → Res α} {ρe : S → α → Ro} {n : α → S → Res (Fl S1 L)} (he : Eff K cl te ρs ma) (e0 : ρs s0 = ρ) (hg : ∀ s, TgtE K cl g [] (ρs s) d (ρe s)) (h : ∀ a s, Runs K cl W u (ρe s a) (n a s) ρn ρl ρx) :
    Runs K cl W (tSeq (tAsg te g) u) ρ (noX (ma s0) >>= fun r => d r.1 >>= fun a => n a r.2) ρn ρl ρx := fun O bs σ H D R hb q => by
  subst e0
  refine he s0 O bs σ H _ R hb (wp_mono (wp_noX (E' := fun _ => False) (wp_bind.mp q)) (fun x qx v H' g1 R1 e1 i1 => ?_) fun _ z => z)
  have g1' : Gr (adr (ρs s0) σ) H (adr (ρs x.2) σ) H' := by rw [e1]; exact g1
  refine hg x.2 x.1 O bs σ H' v _ (fun c => ExOk K cl W O bs ρx (adr (ρs s0) σ) H c) R1 (by show Is K cl (frz H' (O ++ adr (ρs x.2) σ)) v x.1; rw [e1]; exact i1) (wp_mono (wp_bind.mp qx) (fun a qa σ2 R2 e2 _ => ?_) fun _ z => z)
  have gr : Gr (adr (ρs s0) σ) H (adr (ρe x.2 a) σ2) H' := by
    have e2' : adr (ρe x.2 a) σ2 = adr (ρs x.2) σ := e2
    rw [e2']; exact g1'
  exact h a x.2 O bs σ2 H' D R2 hb (wp_mono qa (fun _ z => z.step gr) fun _ z => z.step gr)
theorem run_retE {r : S → List MO} (he : Eff K cl te ρs ma) (e0 : ρs s0 = ρ) (hr : ∀ s, rfB 0 (ρs s) = true) (e : ∀ s, brs (ρs s) = r s) : Runs (S := S1) K cl W (tSeq (tRet te) u) ρ (noX (ma s0) >>= fun x => .val (.rt x.1 (r x.2))) ρn ρl ρx := fun O bs σ H D R hb q => by
  subst e0
  refine he s0 O bs σ H _ R hb (wp_mono (wp_noX (E' := fun _ => False) (wp_bind.mp q)) (fun x qx v H' g1 R1 e1 i1 => ?_) fun _ z => z)
  exact qx v H' ⟨g1.1, fun _ z => by cases z⟩ (i1.mono (frz_less fun a ha => List.mem_append_left _ ha)) fun k b mo h1 h2 => R1.byref (hr _) h1 (by rw [e]; exact h2)
theorem run_ifE {c : TT} {mt : S → Res (Bool × S)} {M1 M2 : S → Res (Fl S1 L)} (hc : EffT K cl c ρs mt) (e0 : ρs s0 = ρ) (h1 : ∀ s, Runs K cl W (tSeq t u) (ρs s) (M1 s) ρn ρl ρx) (h2 : ∀ s, Runs K cl W (tSeq v u) (ρs s) (M2 s) ρn ρl ρx) :
    Runs K cl W (tSeq (tIfS c t v) u) ρ (noX (mt s0) >>= fun b => if b.1 = true then M1 b.2 else M2 b.2) ρn ρl ρx := fun O bs σ H D R hb q => by
  subst e0
  refine hc s0 O bs σ H _ R hb (wp_mono (wp_noX (E' := fun _ => False) (wp_bind.mp q)) (fun x qx H' g1 R1 e1 => ?_) fun _ z => z)
  have g : Gr (adr (ρs s0) σ) H (adr (ρs x.2) σ) H' := by rw [e1]; exact g1
  obtain ⟨b, s1⟩ := x
  cases b with
  | true => exact h1 s1 O bs σ H' D R1 hb (wp_mono qx (fun _ z => z.step g) fun _ z => z.step g)
  | false => exact h2 s1 O bs σ H' D R1 hb (wp_mono qx (fun _ z => z.step g) fun _ z => z.step g)
/-- a call as a statement -/
theorem run_exprE {n : S → Res (Fl S1 L)} (he : Eff K cl te ρs ma) (e0 : ρs s0 = ρ) (h : ∀ s, Runs K cl W u (ρs s) (n s) ρn ρl ρx) : Runs K cl W (tSeq (tDrop te) u) ρ (noX (ma s0) >>= fun r => n r.2) ρn ρl ρx := fun O bs σ H D R hb q => by
  subst e0
  refine he s0 O bs σ H _ R hb (wp_mono (wp_noX (E' := fun _ => False) (wp_bind.mp q)) (fun x qx v H' g1 R1 e1 i1 => ?_) fun _ z => z)
  have g : Gr (adr (ρs s0) σ) H (adr (ρs x.2) σ) H' := by rw [e1]; exact g1
  exact h x.2 O bs σ H' D R1 hb (wp_mono qx (fun _ z => z.step g) fun _ z => z.step g)
theorem run_expr {m0 : Res PV} {n : Res (Fl S1 L)} (he : Pur K cl W te ρ m0) (w : Wk ρ ρx) (h : Runs K cl W u ρ n ρn ρl ρx) : Runs K cl W (tSeq (tDrop te) u) ρ (m0 >>= fun _ => n) ρn ρl ρx := fun O bs σ H D R hb q => by
  refine he O bs σ H _ R (wp_mono (wp_bind.mp q) (fun x qx v H' s ix => ?_) fun _ z => z.xw R w)
  exact h O bs σ H' D (R.same s) hb (wp_mono qx (fun _ z => z.step (Gr.of s)) fun _ z => z.step (Gr.of s))
theorem run_appendE {i : Nat} {sl : S → Slot} {get : S → List PV} {n : S → PV → Res (Fl S1 L)} (hi : ∀ s, (ρs s)[i]? = some (sl s)) (hs : ∀ s, sl s = .ow (.lst (get s)) ∨ ∃ k, sl s = .rf k (.lst (get s))) (he : Eff K cl te ρs ma) (e0 : ρs s0 = ρ) (h : ∀ s x, Runs K cl W u ((ρs s).set i (reSl (sl s) (.lst (get s ++ [x])))) (n s x) ρn ρl ρx) :
    Runs K cl W (tSeq (tDrop (tBM K "list" rAppend (tVar i) (tCons te tNil))) u) ρ (noX (ma s0) >>= fun r => sized ((get r.2).length + 1) >>= fun _ => n r.2 r.1) ρn ρl ρx := fun O bs σ H D R hb q => by
  subst e0
  have got : ∀ s' H', Rel K cl O bs (ρs s') σ H' → ∃ a vs, σ[i]? = some (some (.ref a)) ∧ H' a = some (.lst vs) ∧ IsL K cl (frz H' (O ++ adr (ρs s') σ)) vs (get s') := fun s' H' R => by
    obtain ⟨x, e, q⟩ := R.sl.get (hi s')
    rcases hs s' with h | ⟨k, h⟩
    · rw [h] at q; obtain ⟨a, rfl, vs, h1, h2⟩ := q; exact ⟨a, vs, e, h1, h2⟩
    · rw [h] at q; obtain ⟨a, rfl, _, vs, h1, h2⟩ := q; exact ⟨a, vs, e, h1, h2⟩
  obtain ⟨a, vs, ha, hv, hl⟩ := got _ _ R
  refine ⟨_, ha, .inl ⟨rfl, _, .inl (.inl hv)⟩, he s0 O bs σ H _ R hb (wp_mono (wp_noX (E' := fun _ => False) (wp_bind.mp q)) (fun x qx v H' g1 R1 e1 i1 => ?_) fun _ z => z)⟩
  obtain ⟨hz, qx⟩ := wp_sized (wp_bind.mp qx)
  obtain ⟨a', vs', ha', hv', hl'⟩ := got _ _ R1
  rw [ha] at ha'
  cases ha'
  obtain ⟨R2, g2⟩ := R1.put (m' := .lst (get x.2 ++ [x.1])) (o := .lst (vs' ++ [v])) (hi x.2) (hs x.2) ha ⟨_, upd_same, hl'.append (.one (by rw [e1]; exact i1))⟩
  have g : Gr (adr (ρs s0) σ) H _ _ := (show Gr (adr (ρs s0) σ) H (adr (ρs x.2) σ) H' by rw [e1]; exact g1).trans g2
  refine ⟨a, vs', v, rfl, rfl, hv', by rw [hl'.len]; omega, ?_⟩
  exact h x.2 x.1 O bs σ _ D R2 hb (wp_mono qx (fun _ z => z.step g) fun _ z => z.step g)
theorem run_setitemE {i : Nat} {sl : S → Slot} {get : S → List PV} {n : S → List PV → Res (Fl S1 L)} (hi : ∀ s, (ρs s)[i]? = some (sl s)) (hs : ∀ s, sl s = .ow (.lst (get s)) ∨ ∃ k, sl s = .rf k (.lst (get s))) (he : Eff K cl te ρs ma) (hk : Eff K cl ta ρs mb) (e0 : ρs s0 = ρ) (h : ∀ s qs, Runs K cl W u ((ρs s).set i (reSl (sl s) (.lst qs))) (n s qs) ρn ρl ρx) :
    Runs K cl W (tSeq (tAsg te (gSub (tVar i) ta rSetL)) u) ρ (noX (ma s0) >>= fun r => noX (mb r.2) >>= fun k => setL (get k.2) k.1 r.1 >>= n k.2) ρn ρl ρx := fun O bs σ H D R hb q => by
  subst e0
  have got : ∀ s' H', Rel K cl O bs (ρs s') σ H' → ∃ a vs, σ[i]? = some (some (.ref a)) ∧ H' a = some (.lst vs) ∧ IsL K cl (frz H' (O ++ adr (ρs s') σ)) vs (get s') := fun s' H' R => by
    obtain ⟨x, e, q⟩ := R.sl.get (hi s')
    rcases hs s' with h | ⟨k, h⟩
    · rw [h] at q; obtain ⟨a, rfl, vs, h1, h2⟩ := q; exact ⟨a, vs, e, h1, h2⟩
    · rw [h] at q; obtain ⟨a, rfl, _, vs, h1, h2⟩ := q; exact ⟨a, vs, e, h1, h2⟩
  obtain ⟨a, _, ha, _⟩ := got _ _ R
  refine he s0 O bs σ H _ R hb (wp_mono (wp_noX (E' := fun _ => False) (wp_bind.mp q)) (fun x qx v H1 g1 R1 e1 i1 => ?_) fun _ z => z)
  refine ⟨_, ha, hk x.2 O bs σ H1 _ R1 hb (wp_mono (wp_noX (E' := fun _ => False) (wp_bind.mp qx)) (fun k qk v2 H2 g2 R2 e2 i2 => ?_) fun _ z => z)⟩
  obtain ⟨a', vs, ha', hv, hl⟩ := got _ _ R2
  rw [ha] at ha'
  cases ha'
  have g1' : Gr (adr (ρs s0) σ) H (adr (ρs x.2) σ) H1 := by rw [e1]; exact g1
  have g2' : Gr (adr (ρs x.2) σ) H1 (adr (ρs k.2) σ) H2 := by rw [e2]; exact g2
  have ix : Is K cl (frz H2 (O ++ adr (ρs k.2) σ)) v x.1 := by
    rw [e2, e1]
    rw [e1] at g2
    exact i1.mono (g2.sub R1.al)
  have qk := wp_bind.mp qk
  unfold setL at qk
  split at qk
  · next k0 hk0 =>
    rw [hk0] at i2
    cases i2
    split at qk
    · next j hj =>
      obtain ⟨R3, g3⟩ := R2.put (m' := .lst ((get k.2).set j x.1)) (o := .lst (vs.set j v)) (hi k.2) (hs k.2) ha ⟨_, upd_same, IsL.set ix j hl⟩
      have g := (g1'.trans g2').trans g3
      exact ⟨a, vs, _, j, rfl, rfl, hv, by rw [hl.len]; exact hj, h k.2 _ O bs σ _ D R3 hb (wp_mono qk (fun _ z => z.step g) fun _ z => z.step g)⟩
    · exact qk.elim
  · exact qk.elim
theorem run_forE {wi : TI} {g : TG} {mi : S → Res (List PV × S)} {α : Type} {d : PV → Res α} {ρs' : S1 → Ro} {ρe : S1 → α → Ro} {st : S → S1} {body : α → S1 → Res (Fl S1 S1)} (hi : EffI K cl wi ρs mi) (e0 : ρs s0 = ρ) (w0 : ∀ s, Wk (ρs s) (ρs' (st s))) (hg : ∀ s, TgtE K cl g [] (ρs' s) d (ρe s))
    (hb : ∀ a s, Runs K cl W tb (ρe s a) (body a s) ρs' ρs' ρx) : Runs K cl W (tFor wi g tb) ρ (noX (mi s0) >>= fun r => forF (fun x s => d x >>= fun a => body a s) r.1 (st r.2)) ρs' ρl ρx := fun O bs σ H D R hbs q => by
  subst e0
  refine hi s0 O bs σ H _ R hbs (wp_mono (wp_noX (E' := fun _ => False) (wp_bind.mp q)) (fun r qp J H1 g0 R1 e1 hJ => ?_) fun _ z => z)
  obtain ⟨ps, s1⟩ := r
  have g1 : Gr (adr (ρs s0) σ) H (adr (ρs' (st s1)) σ) H1 := (show Gr (adr (ρs s0) σ) H (adr (ρs s1) σ) H1 by rw [e1]; exact g0).trans (Gr.wk (w0 s1))
  have hJ' : ItOk K cl (fun _ => True) (frz H1 (O ++ adr (ρs s1) σ)) J ps := by rw [e1]; exact hJ
  have sF0 : Sub (frz H1 (O ++ adr (ρs s1) σ)) (frz H1 (O ++ adr (ρs' (st s1)) σ)) := Gr.sub (Gr.wk (w0 s1)) R1.al
  refine ⟨fun i mm σ' H' => mm = ps.length - i ∧ i ≤ ps.length ∧ ∃ s, Rel K cl O bs (ρs' s) σ' H' ∧ Gr (adr (ρs s0) σ) H (adr (ρs' s) σ') H' ∧ Sub (frz H1 (O ++ adr (ρs s1) σ)) (frz H' (O ++ adr (ρs' s) σ')) ∧
      wp (forF (L := L) (fun x s => d x >>= fun a => body a s) (ps.drop i) s) (FlOk K cl O bs ρs' ρl D (adr (ρs s0) σ) H) (ExOk K cl W O bs ρx (adr (ρs s0) σ) H),
    ⟨_, rfl, Nat.zero_le _, st s1, R1.wk (w0 s1), g1, sF0, by rw [List.drop_zero]; exact qp⟩, ?_⟩
  rintro i mm σ' H' ⟨rfl, hle, s, R', g', sF, qw⟩
  obtain ⟨hs, hg'⟩ := hJ' H' _ trivial sF (fun a ha => R'.got ha)
  by_cases c : i = ps.length
  · subst c
    rw [List.drop_length] at qw
    exact .inl ⟨hs, qw σ' H' g' R'⟩
  · have hlt : i < ps.length := by omega
    obtain ⟨hgo, hy⟩ := hg' i _ (List.getElem?_eq_getElem hlt)
    rw [List.drop_eq_getElem_cons hlt] at qw
    refine .inr ⟨hgo, fun σ2 H2 => ∃ s', Rel K cl O bs (ρs' s') σ2 H2 ∧ Gr (adr (ρs s0) σ) H (adr (ρs' s') σ2) H2 ∧ Sub (frz H1 (O ++ adr (ρs s1) σ)) (frz H2 (O ++ adr (ρs' s') σ2)) ∧ wp (forF (L := L) (fun x s => d x >>= fun a => body a s) (ps.drop (i + 1)) s') (FlOk K cl O bs ρs' ρl D (adr (ρs s0) σ) H) (ExOk K cl W O bs ρx (adr (ρs s0) σ) H),
      fun σ2 H2 ⟨s', z⟩ => ⟨_, by omega, rfl, by omega, s', z⟩, fun x H2 hyx => ?_⟩
    obtain ⟨s2, ix⟩ := hy x H2 hyx
    have R2 := R'.same s2
    have qw := wp_bind.mp (wp_bind.mp qw)
    refine hg s ps[i] O bs σ' H2 x _ _ R2 ix (wp_mono qw (fun a qa σ3 R3 e3 _ => ?_) fun _ z => z)
    have g3 : Gr (adr (ρs s0) σ) H (adr (ρe s a) σ3) H2 := by rw [e3]; exact g'.trans (Gr.of s2)
    have sF3 : Sub (frz H1 (O ++ adr (ρs s1) σ)) (frz H2 (O ++ adr (ρe s a) σ3)) := by rw [e3]; exact sF.trans (frz_same s2)
    refine hb a s O bs σ3 H2 _ R3 hbs (wp_mono qa (fun f qf => ?_) fun _ z => z.step g3)
    cases f with
    | nx s' => exact fun σ4 H4 g4 R4 => ⟨s', R4, g3.trans g4, sF3.trans (g4.sub R3.al), qf⟩
    | ct s' => exact fun σ4 H4 g4 R4 => ⟨s', R4, g3.trans g4, sF3.trans (g4.sub R3.al), qf⟩
    | bk s' => exact fun σ4 H4 g4 R4 => qf σ4 H4 (g3.trans g4) R4
    | rt v r => exact FlOk.step (f := Fl.rt v r) qf g3
    | ro mo => exact FlOk.step (f := Fl.ro mo) qf g3
/-! a comprehension whose parts have effects -/
def lcE {S α : Type} (d : PV → Res α) (c : α → S → Res (Bool × S)) (e : α → S → Res (PV × S)) : List PV → S → Res (List PV × S)
  | [], s => .val ([], s)
  | x :: xs, s => noX (d x) >>= fun a => c a s >>= fun b => if b.1 = true then e a b.2 >>= fun y => lcE d c e xs y.2 >>= fun ys => .val (y.1 :: ys.1, ys.2) else lcE d c e xs b.2
theorem et_yes : EffT K cl tYes ρs (fun s => .val (true, s)) := fun s O bs σ H Q R hb q => q H .refl R rfl
def unB : Ro → Nat → Bool
  | [], _ => true
  | .un :: _, 0 => true
  | _ :: _, 0 => false
  | _ :: ρ, i + 1 => unB ρ i
def unsB (ρ : Ro) (vs : List Nat) : Bool := vs.all fun i => unB ρ i
theorem adr_un : ∀ {ρ : Ro} {σ : St} {i : Nat} {x : Option V}, unB ρ i = true → adr ρ (σ.set i x) = adr ρ σ ∧ owa ρ (σ.set i x) = owa ρ σ
  | [], σ, i, x, _ => by
    cases σ with
    | nil => exact ⟨rfl, rfl⟩
    | cons y σ => cases i <;> exact ⟨rfl, rfl⟩
  | s :: ρ, [], i, x, h => ⟨rfl, rfl⟩
  | s :: ρ, y :: σ, 0, x, h => by cases s <;> first | exact ⟨rfl, rfl⟩ | cases h
  | s :: ρ, y :: σ, i + 1, x, h => by
    have ih := adr_un (ρ := ρ) (σ := σ) (i := i) (x := x) (by cases s <;> exact h)
    show adr (s :: ρ) (y :: σ.set i x) = adr (s :: ρ) (y :: σ) ∧ owa (s :: ρ) (y :: σ.set i x) = owa (s :: ρ) (y :: σ)
    cases s with
    | un => exact ih
    | fz q => exact ih
    | ow m => cases y with
      | none => exact ih
      | some v => cases v <;> first | exact ih | exact ⟨congrArg (_ :: ·) ih.1, congrArg (_ :: ·) ih.2⟩
    | rf k m => cases y with
      | none => exact ih
      | some v => cases v <;> first | exact ih | exact ⟨congrArg (_ :: ·) ih.1, ih.2⟩
theorem rels_un : ∀ {ρ : Ro} {σ : St} {i : Nat} {x : Option V} {F H : Hp}, unB ρ i = true → (RelS K cl bs F H ρ (σ.set i x) ↔ RelS K cl bs F H ρ σ)
  | [], σ, i, x, F, H, _ => by
    cases σ with
    | nil => exact Iff.rfl
    | cons y σ => cases i <;> exact ⟨(fun h => nomatch h), (fun h => nomatch h)⟩
  | s :: ρ, [], i, x, F, H, h => Iff.rfl
  | s :: ρ, y :: σ, 0, x, F, H, h => by
    cases s with
    | un => exact ⟨fun q => by cases q with | cons a r => exact .cons trivial r, fun q => by cases q with | cons a r => exact .cons trivial r⟩
    | _ => cases h
  | s :: ρ, y :: σ, i + 1, x, F, H, h => by
    have ih := rels_un (ρ := ρ) (σ := σ) (i := i) (x := x) (F := F) (H := H) (by cases s <;> exact h)
    exact ⟨fun q => by cases q with | cons a r => exact .cons a (ih.mp r), fun q => by cases q with | cons a r => exact .cons a (ih.mpr r)⟩
theorem Rel.un1 {i : Nat} {x : Option V} (h : unB ρ i = true) : Rel K cl O bs ρ (σ.set i x) H ↔ Rel K cl O bs ρ σ H := by
  obtain ⟨e1, e2⟩ := adr_un (ρ := ρ) (σ := σ) (x := x) h
  constructor
  · rintro ⟨a, b, c, d⟩
    rw [e1] at a b
    rw [e2] at d
    exact ⟨(rels_un h).mp a, b, c, d⟩
  · rintro ⟨a, b, c, d⟩
    exact ⟨by rw [e1]; exact (rels_un h).mpr a, by rw [e1]; exact b, c, by rw [e2]; exact d⟩
theorem Rel.uns : ∀ {vs : List Nat}, unsB ρ vs = true → ((Rel K cl O bs ρ (L2.wipe σ vs) H ↔ Rel K cl O bs ρ σ H) ∧ adr ρ (L2.wipe σ vs) = adr ρ σ)
  | [], _ => ⟨Iff.rfl, rfl⟩
  | v :: vs, h => by
    have h' := Bool.and_eq_true_iff.mp (show (unB ρ v && unsB ρ vs) = true from h)
    obtain ⟨h1, h2⟩ := Rel.uns (vs := vs) h'.2
    exact ⟨(Rel.un1 (σ := L2.wipe σ vs) h'.1).trans h1, ((adr_un (σ := L2.wipe σ vs) h'.1).1).trans h2⟩
theorem Rel.narrow {a : Addr} (R : Rel K cl (a :: O) bs ρ σ H) : Rel K cl O bs ρ σ H :=
  ⟨R.sl.mono (frz_less fun b hb => List.mem_cons_of_mem _ hb) fun _ _ _ e => e, R.nd, fun b hb => R.al b (List.mem_cons_of_mem _ hb), fun b hb z => R.ow b hb (List.mem_cons_of_mem _ z)⟩
theorem ef_lc {wi : TI} {g : TG} {tt : TT} {vs : List Nat} {mi : S → Res (List PV × S)} {α : Type} {d : PV → Res α} {ρe : α → S → Ro} {mc : α → S → Res (Bool × S)} {me : α → S → Res (PV × S)} (hi : EffI K cl wi ρs mi) (hv : ∀ s, unsB (ρs s) vs = true) (hne : vs ≠ [])
    (hg : ∀ s, TgtE K cl g vs (ρs s) d (fun a => ρe a s)) (hw : ∀ a s, wipeR (ρe a s) vs = ρs s) (hv2 : ∀ a s, nads (ρe a s) vs = true) (ht : ∀ a, EffT K cl tt (ρe a) (mc a)) (he : ∀ a, Eff K cl te (ρe a) (me a)) :
    Eff K cl (tLc wi g tt te vs) ρs (fun s => mi s >>= fun ps => sized ps.1.length >>= fun _ => lcE d mc me ps.1 ps.2 >>= fun r => .val (.lst r.1, r.2)) := fun s O bs σ H Q R hb q => by
  refine hi s O bs σ H _ R hb (wp_mono (wp_bind.mp q) (fun r qp J H1 g1 R1 e1 hJ => ?_) fun _ z => z)
  obtain ⟨ps, s1⟩ := r
  obtain ⟨hz, qp⟩ := wp_sized (wp_bind.mp qp)
  replace hz : ps.length ≤ sizeLine := hz
  intro Da hD
  have qp := wp_bind.mp qp
  have Rw1 := (Rel.uns (σ := σ) (hv s1)).1.mpr R1
  have ew1 := (Rel.uns (K := K) (cl := cl) (O := O) (bs := bs) (H := H1) (σ := σ) (hv s1)).2
  have Rw0 := Rw1.wider (o := .lst []) hD
  have nDA : Da ∉ O ++ adr (ρs s) σ := fun z => by
    obtain ⟨u, e⟩ := R1.got (by rw [e1]; exact z)
    rw [hD] at e; cases e
  have hbD : ∀ b, b ∈ bs → b ∈ Da :: O := fun b h => List.mem_cons_of_mem _ (hb b h)
  refine ⟨fun i mm H2 => mm = ps.length - i ∧ i ≤ ps.length ∧ ∃ s2, (∀ x o, x ∉ adr (ρs s) σ → H1 x = some o → H2 x = some o) ∧ Rel K cl (Da :: O) bs (ρs s2) (wipe σ vs) H2 ∧ adr (ρs s2) (wipe σ vs) = adr (ρs s) σ ∧
      ∃ acc qs, H2 Da = some (.lst acc) ∧ acc.length ≤ i ∧ IsL K cl (frz H2 (Da :: (O ++ adr (ρs s) σ))) acc qs ∧
      wp (lcE d mc me (ps.drop i) s2) (fun r => ∀ v H', Gr (adr (ρs s) σ) H (adr (ρs s) σ) H' → Rel K cl O bs (ρs r.2) σ H' → adr (ρs r.2) σ = adr (ρs s) σ → Is K cl (frz H' (O ++ adr (ρs s) σ)) v (.lst (qs ++ r.1)) → Q v H') (fun _ => False),
    ⟨_, rfl, Nat.zero_le _, s1, fun x o _ e => sub_new hD _ x o e, Rw0, ew1.trans e1, [], [], upd_same, Nat.le_refl _, .nil, by rw [List.drop_zero]; exact wp_mono qp (fun r z => z) fun _ z => z⟩, ?_⟩
  rintro i mm H2 ⟨rfl, hle, s2, k2, R2, ew, acc, qs, ha, hal, hl, qw⟩
  have sF : Sub (frz H1 (O ++ adr (ρs s) σ)) (frz H2 (Da :: (O ++ adr (ρs s) σ))) := fun x u e => by
    obtain ⟨n, e⟩ := frz_some.mp e
    refine frz_some.mpr ⟨fun z => ?_, k2 _ _ (fun z => n (List.mem_append_right _ z)) e⟩
    rcases List.mem_cons.mp z with c | c
    · rw [c, hD] at e; cases e
    · exact n c
  have gotB : ∀ a, a ∈ Da :: (O ++ adr (ρs s) σ) → ∃ o, H2 a = some o := fun a z => R2.got (by rw [ew]; exact z)
  obtain ⟨hs, hgo⟩ := hJ H2 _ trivial sF gotB
  by_cases c : i = ps.length
  · subst c
    rw [List.drop_length] at qw
    obtain ⟨u1, u2⟩ := Rel.uns (K := K) (cl := cl) (O := O) (bs := bs) (H := H2) (σ := σ) (hv s2)
    refine .inl ⟨hs, qw (.ref Da) H2 ⟨fun x o n e => k2 x o n (g1.1 x o n e), fun x hx => .inl hx⟩ (u1.mp R2.narrow) (u2.symm.trans ew) ?_⟩
    rw [List.append_nil]
    exact .lst (frz_some.mpr ⟨nDA, ha⟩) (hl.mono (frz_less fun b hb => List.mem_cons_of_mem _ hb))
  · have hlt : i < ps.length := by omega
    obtain ⟨hgi, hy⟩ := hgo i _ (List.getElem?_eq_getElem hlt)
    rw [List.drop_eq_getElem_cons hlt] at qw
    refine .inr ⟨hgi, fun H3 => ∃ s2, (∀ x o, x ∉ adr (ρs s) σ → H1 x = some o → H3 x = some o) ∧ Rel K cl (Da :: O) bs (ρs s2) (wipe σ vs) H3 ∧ adr (ρs s2) (wipe σ vs) = adr (ρs s) σ ∧
      ∃ acc qs, H3 Da = some (.lst acc) ∧ acc.length ≤ i + 1 ∧ IsL K cl (frz H3 (Da :: (O ++ adr (ρs s) σ))) acc qs ∧
      wp (lcE d mc me (ps.drop (i + 1)) s2) (fun r => ∀ v H', Gr (adr (ρs s) σ) H (adr (ρs s) σ) H' → Rel K cl O bs (ρs r.2) σ H' → adr (ρs r.2) σ = adr (ρs s) σ → Is K cl (frz H' (O ++ adr (ρs s) σ)) v (.lst (qs ++ r.1)) → Q v H') (fun _ => False),
      fun H3 z => ⟨_, by omega, rfl, by omega, z⟩, fun x H3 hyx => ?_⟩
    obtain ⟨s3, ix⟩ := hy x H3 hyx
    have R3 := R2.same s3
    have qw := wp_bind.mp qw
    refine hg s2 ps[i] (Da :: O) bs σ H3 x _ _ R3 (by rw [ew]; exact ix) (wp_mono (wp_noX (E' := fun _ => False) qw) (fun a qa σ4 R4 e4 w4 => ?_) fun _ z => z)
    have e4s : adr (ρe a s2) σ4 = adr (ρs s) σ := e4.trans ew
    refine ⟨w4 hne, ht a s2 (Da :: O) bs σ4 H3 _ R4 hbD (wp_mono (wp_bind.mp qa) (fun b qb H5 g5 R5 e5 => ?_) fun _ z => z.elim)⟩
    obtain ⟨b, s5⟩ := b
    rw [e4s] at g5
    have e5s : adr (ρe a s5) σ4 = adr (ρs s) σ := e5.trans e4s
    have nD : Da ∉ adr (ρs s) σ := fun z => nDA (List.mem_append_right _ z)
    -- back to the comprehension's own frame
    have back : ∀ (s6 : S) (H6 : Hp), Rel K cl (Da :: O) bs (ρe a s6) σ4 H6 → adr (ρe a s6) σ4 = adr (ρs s) σ → Rel K cl (Da :: O) bs (ρs s6) (wipe σ vs) H6 ∧ adr (ρs s6) (wipe σ vs) = adr (ρs s) σ := fun s6 H6 R6 e6 => by
      obtain ⟨q1, q2⟩ := R6.wipe (hv2 a s6)
      rw [hw, w4 hne] at q1 q2
      exact ⟨q1, q2.trans e6⟩
    have k5 : ∀ x o, x ∉ adr (ρs s) σ → H1 x = some o → H5 x = some o := fun x o n e => g5.1 x o n (s3 _ _ (k2 x o n e))
    have ha5 : H5 Da = some (.lst acc) := g5.1 _ _ nD (s3 _ _ ha)
    have hA : ∀ a, a ∈ Da :: O → ∃ o, H3 a = some o := R3.al
    have fs5 : Sub (frz H2 (Da :: (O ++ adr (ρs s) σ))) (frz H5 (Da :: (O ++ adr (ρs s) σ))) := (frz_same s3).trans (Gr.sub (O := Da :: O) g5 hA)
    cases b with
    | false =>
      obtain ⟨b1, b2⟩ := back s5 H5 R5 e5s
      exact ⟨s5, k5, b1, b2, acc, qs, ha5, by omega, hl.mono fs5, qb⟩
    | true =>
      refine he a s5 (Da :: O) bs σ4 H5 _ R5 hbD (wp_mono (wp_bind.mp qb) (fun y qy vy H6 g6 R6 e6 iy => ?_) fun _ z => z.elim)
      rw [e5s] at g6 iy
      have e6s : adr (ρe a y.2) σ4 = adr (ρs s) σ := e6.trans e5s
      have ha6 : H6 Da = some (.lst acc) := g6.1 _ _ nD ha5
      have k6 : ∀ x o, x ∉ adr (ρs s) σ → H1 x = some o → H6 x = some o := fun x o n e => g6.1 x o n (k5 x o n e)
      have fs6 : Sub (frz H2 (Da :: (O ++ adr (ρs s) σ))) (frz H6 (Da :: (O ++ adr (ρs s) σ))) := fs5.trans (Gr.sub (O := Da :: O) g6 R5.al)
      obtain ⟨b1, b2⟩ := back y.2 H6 R6 e6s
      have keepD : ∀ x u, x ≠ Da → H6 x = some u → upd H6 Da (.lst (acc ++ [vy])) x = some u := fun x u n e => by rw [upd_ne n]; exact e
      have sD : Sub (frz H6 (Da :: (O ++ adr (ρs s) σ))) (frz (upd H6 Da (.lst (acc ++ [vy]))) (Da :: (O ++ adr (ρs s) σ))) := fun x u e => by
        obtain ⟨n, e⟩ := frz_some.mp e
        exact frz_some.mpr ⟨n, keepD x u (fun z => n (by rw [z]; exact List.mem_cons_self)) e⟩
      refine ⟨acc, ha6, by omega, y.2, fun x u n e => keepD x u (ne_of_none e hD) (k6 x u n e), b1.putO List.mem_cons_self (by rw [b2]; exact nD), b2, acc ++ [vy], qs ++ [y.1], upd_same, by rw [List.length_append, List.length_singleton]; omega, ((hl.mono fs6).append (.one iy)).mono sD, ?_⟩
      refine wp_mono (wp_bind.mp qy) (fun ys qys => ?_) fun _ z => z
      intro v H' h1 h2 h3 h4
      exact qys v H' h1 h2 h3 (by rw [List.append_assoc] at h4; exact h4)
end
/-! ### defs that are lent something, defs that give something new -/
def retR (M : Res (Fl MO Empty)) : Res (PV × MO) := M >>= fun f => match f with
  | .nx mo => .val (.non, mo)
  | .rt v [mo] => .val (v, mo)
  | .rt _ _ => .stuck
  | .ro _ => .stuck
def retN (M : Res (Fl Unit Empty)) : Res MO := M >>= fun f => match f with
  | .ro mo => .val mo
  | .nx _ => .stuck
  | .rt _ _ => .stuck
def apR0 (f : MO → Res (PV × MO)) : MO → List PV → Res (PV × MO)
  | mo, [] => f mo
  | _, _ => .stuck
def apR1 (f : MO → PV → Res (PV × MO)) : MO → List PV → Res (PV × MO)
  | mo, [a] => f mo a
  | _, _ => .stuck
def apR2 (f : MO → PV → PV → Res (PV × MO)) : MO → List PV → Res (PV × MO)
  | mo, [a, b] => f mo a b
  | _, _ => .stuck
def apR3 (f : MO → PV → PV → PV → Res (PV × MO)) : MO → List PV → Res (PV × MO)
  | mo, [a, b, c] => f mo a b c
  | _, _ => .stuck
def apR4 (f : MO → PV → PV → PV → PV → Res (PV × MO)) : MO → List PV → Res (PV × MO)
  | mo, [a, b, c, d] => f mo a b c d
  | _, _ => .stuck
def apR5 (f : MO → PV → PV → PV → PV → PV → Res (PV × MO)) : MO → List PV → Res (PV × MO)
  | mo, [a, b, c, d, e] => f mo a b c d e
  | _, _ => .stuck
def apN0 (f : Res MO) : List PV → Res MO
  | [] => f
  | _ => .stuck
def apN1 (f : PV → Res MO) : List PV → Res MO
  | [a] => f a
  | _ => .stuck
def apN2 (f : PV → PV → Res MO) : List PV → Res MO
  | [a, b] => f a b
  | _ => .stuck
def apN3 (f : PV → PV → PV → Res MO) : List PV → Res MO
  | [a, b, c] => f a b c
  | _ => .stuck
def TaknR (n : Nat) (mf : MO → List PV → Res (PV × MO)) : Prop := ∀ mo ps, ps.length ≠ n → mf mo ps = .stuck
def TaknN (n : Nat) (mf : List PV → Res MO) : Prop := ∀ ps, ps.length ≠ n → mf ps = .stuck
theorem taknR0 {f : MO → Res (PV × MO)} : TaknR 0 (apR0 f) := fun mo ps h => by
  unfold apR0; split
  · exact absurd rfl h
  · rfl
theorem taknR1 {f : MO → PV → Res (PV × MO)} : TaknR 1 (apR1 f) := fun mo ps h => by
  unfold apR1; split
  · exact absurd rfl h
  · rfl
theorem taknR2 {f : MO → PV → PV → Res (PV × MO)} : TaknR 2 (apR2 f) := fun mo ps h => by
  unfold apR2; split
  · exact absurd rfl h
  · rfl
theorem taknR3 {f : MO → PV → PV → PV → Res (PV × MO)} : TaknR 3 (apR3 f) := fun mo ps h => by
  unfold apR3; split
  · exact absurd rfl h
  · rfl
theorem taknR4 {f : MO → PV → PV → PV → PV → Res (PV × MO)} : TaknR 4 (apR4 f) := fun mo ps h => by
  unfold apR4; split
  · exact absurd rfl h
  · rfl
theorem taknR5 {f : MO → PV → PV → PV → PV → PV → Res (PV × MO)} : TaknR 5 (apR5 f) := fun mo ps h => by
  unfold apR5; split
  · exact absurd rfl h
  · rfl
theorem taknN1 {f : PV → Res MO} : TaknN 1 (apN1 f) := fun ps h => by
  unfold apN1; split
  · exact absurd rfl h
  · rfl
theorem taknN2 {f : PV → PV → Res MO} : TaknN 2 (apN2 f) := fun ps h => by
  unfold apN2; split
  · exact absurd rfl h
  · rfl
theorem taknN3 {f : PV → PV → PV → Res MO} : TaknN 3 (apN3 f) := fun ps h => by
  unfold apN3; split
  · exact absurd rfl h
  · rfl
section
variable {P : Program} {w : World} {K : PySem.W.Frag} {mg : Str → Option Value} {base : Heap} {cl : Str → Option Addr}
open PySem.Spec PyProof.Rows in
theorem fnR {x qual : Str} {st : Stmt} {f : Addr} {fd : FuncData} {N ps : List Str} {k n : Nat} {mf : MO → List PV → Res (PV × MO)} (F : Fun K x qual st f fd) (S : FnScope N ps (defScope st)) (hn : ps.length = n + 1) (tk : TaknR n mf)
    (h : ∀ (cdv : Value) (A : Around) (outer : List Env) (s : Shared) (H : Hp) (E : XK), Room k (A.deeper (envOfC qual (defScope st) s.heap.objs.size f cdv)) → ∀ (mo : MO) (qs : List PV), qs.length = n → mf mo qs = .stuck ∨
      ∃ t, PSs (cxOf (L2.CX P w) P w K mg base N qual (defScope st) f cdv A outer s H E) (defBody st) t ∧ ∃ M, Runs K cl (fun c d _ H' => E c d H') t (.rf 0 mo :: (qs.map Slot.fz ++ uns (N.length - (n + 1)))) M (fun mo : MO => .rf 0 mo :: uns (N.length - 1)) (fun l : Empty => nomatch l) (uns N.length) ∧ mf mo qs = retR M) :
    FnOk P w K mg base (L2.CX P w) (k + 1) f fd ps (spR K cl mf) := by
  have len : ∀ vs H Q E, spR K cl mf vs H Q E → vs.length = n + 1 := fun vs H Q E ⟨O, b, mo, us, qs, e, hb, hO, hm, hl, hw⟩ => by
    rw [e, List.length_cons, hl.len]
    refine Classical.byContradiction fun c => ?_
    rw [tk mo qs (by omega)] at hw
    exact hw
  refine F.okX S (fun vs H Q E h => (len vs H Q E h).trans hn.symm) (fun cdv A outer s H vs Q E hr hsp => ?_)
  have hvn := len vs H Q E hsp
  obtain ⟨O, b, mo, us, qs, rfl, hb, hO, hm, hl, hw⟩ := hsp
  have hun : us.length = n := by rw [List.length_cons] at hvn; omega
  have hqn : qs.length = n := by rw [← hl.len]; exact hun
  rcases h cdv A outer s H E hr mo qs hqn with e | ⟨t, ht, M, hM, e⟩
  · rw [e] at hw; exact hw.elim
  refine ⟨t, ht, ?_⟩
  rw [e] at hw
  have st0 : L2.start N (V.ref b :: us) = some (V.ref b) :: (us.map some ++ List.replicate (N.length - (n + 1)) none) := by
    unfold L2.start
    rw [List.length_cons, hun]
    rfl
  rw [st0]
  have ea : adr (.rf 0 mo :: (qs.map Slot.fz ++ uns (N.length - (n + 1)))) (some (V.ref b) :: (us.map some ++ List.replicate (N.length - (n + 1)) none)) = [b] := congrArg (b :: ·) (fz_adr _ _ _)
  have eo : owa (.rf 0 mo :: (qs.map Slot.fz ++ uns (N.length - (n + 1)))) (some (V.ref b) :: (us.map some ++ List.replicate (N.length - (n + 1)) none)) = [] := fz_owa _ _ _
  have sO : Sub (frz H O) (frz H (O ++ [b])) := frz_less fun a ha => by
    rcases List.mem_append.mp ha with c | c
    · exact c
    · have : a = b := by simpa using c
      rw [this]; exact hb
  have R : Rel K cl O [b] (.rf 0 mo :: (qs.map Slot.fz ++ uns (N.length - (n + 1)))) (some (V.ref b) :: (us.map some ++ List.replicate (N.length - (n + 1)) none)) H := by
    refine ⟨?_, by rw [ea]; simp, hO, by rw [eo]; exact fun _ z => nomatch z⟩
    rw [ea]
    refine .cons ⟨b, rfl, rfl, hm.mono sO fun _ e => e⟩ ?_
    have q := fz_rel (K := K) (cl := cl) (H := H) (N.length - (n + 1)) (hl.mono sO)
    have lift : ∀ {ρ : Ro} {σ : L2.St} {F H : Hp}, RelS K cl [] F H ρ σ → (∀ s ∈ ρ, (∃ p, s = .fz p) ∨ s = .un) → RelS K cl [b] F H ρ σ := fun {ρ σ F H} r => by
      induction r with
      | nil => exact fun _ => .nil
      | cons a r ih =>
        intro hs
        refine .cons ?_ (ih fun s h => hs s (List.mem_cons_of_mem _ h))
        rcases hs _ List.mem_cons_self with ⟨p, rfl⟩ | rfl
        · exact a
        · exact trivial
    refine lift q fun s hs => ?_
    rcases List.mem_append.mp hs with c | c
    · obtain ⟨p, _, rfl⟩ := List.mem_map.mp c
      exact .inl ⟨p, rfl⟩
    · exact .inr (List.eq_of_mem_replicate c)
  refine hM O [b] _ H _ R (fun a ha => by have : a = b := by simpa using ha
                                          rw [this]; exact hb) (wp_mono (wp_bind.mp hw) (fun fl q => ?_) fun c q => q.elim)
  rw [ea]
  have keep : ∀ {A' : List Addr} {H' : Hp}, Gr [b] H A' H' → ∀ x o, x ≠ b → H x = some o → H' x = some o := fun {A' H'} g x o ne e => g.1 x o (by simpa using ne) e
  cases fl with
  | nx mo' =>
    intro σ' H' g R'
    have q' : ∀ v H', (∀ x o, x ≠ b → H x = some o → H' x = some o) → MoIs K cl (frz H' O) H' b mo' → Is K cl (frz H' O) v .non → Q v H' := q
    refine q' .non H' (keep g) ?_ .non
    have r0 : (Slot.rf 0 mo' :: uns (N.length - 1) : Ro)[0]? = some (.rf 0 mo') := rfl
    obtain ⟨x, e, a, rfl, hk, hmo⟩ := R'.sl.get r0
    have : b = a := by simpa using hk
    subst this
    exact hmo.mono (frz_less fun a ha => List.mem_append_left _ ha) fun _ e => e
  | rt v r =>
    match r, q with
    | [mo'], q =>
      have q' : ∀ v' H', (∀ x o, x ≠ b → H x = some o → H' x = some o) → MoIs K cl (frz H' O) H' b mo' → Is K cl (frz H' O) v' v → Q v' H' := q
      exact fun w' H' g i hbm => q' w' H' (keep g) (hbm 0 b mo' rfl rfl) i
  | ro mo => exact q.elim
  | bk l => exact nomatch l
  | ct l => exact nomatch l
open PySem.Spec PyProof.Rows in
theorem fnN {x qual : Str} {st : Stmt} {f : Addr} {fd : FuncData} {N ps : List Str} {k n : Nat} {mf : List PV → Res MO} (F : Fun K x qual st f fd) (S : FnScope N ps (defScope st)) (hn : ps.length = n) (tk : TaknN n mf)
    (h : ∀ (cdv : Value) (A : Around) (outer : List Env) (s : Shared) (H : Hp) (E : XK), Room k (A.deeper (envOfC qual (defScope st) s.heap.objs.size f cdv)) → ∀ qs : List PV, qs.length = n →
      ∃ t, PSs (cxOf (L2.CX P w) P w K mg base N qual (defScope st) f cdv A outer s H E) (defBody st) t ∧ ∃ M, Runs K cl (fun c d _ H' => E c d H') t (qs.map Slot.fz ++ uns (N.length - n)) M (fun _ : Unit => uns N.length) (fun l : Empty => nomatch l) (uns N.length) ∧ mf qs = retN M) :
    FnOk P w K mg base (L2.CX P w) (k + 1) f fd ps (spN K cl mf) := by
  have len : ∀ vs H Q E, spN K cl mf vs H Q E → vs.length = n := fun vs H Q E ⟨O, qs, hO, hl, hw⟩ => by
    rw [hl.len]
    refine Classical.byContradiction fun c => ?_
    rw [tk qs c] at hw
    exact hw
  refine F.okX S (fun vs H Q E h => (len vs H Q E h).trans hn.symm) (fun cdv A outer s H vs Q E hr hsp => ?_)
  have hvn := len vs H Q E hsp
  obtain ⟨O, qs, hO, hl, hw⟩ := hsp
  have hqn : qs.length = n := by rw [← hl.len]; exact hvn
  obtain ⟨t, ht, M, hM, e⟩ := h cdv A outer s H E hr qs hqn
  refine ⟨t, ht, ?_⟩
  rw [e] at hw
  have st0 : L2.start N vs = vs.map some ++ List.replicate (N.length - n) none := by unfold L2.start; rw [hvn]
  rw [st0]
  have R : Rel K cl O [] (qs.map Slot.fz ++ uns (N.length - n)) (vs.map some ++ List.replicate (N.length - n) none) H :=
    ⟨by rw [fz_adr, List.append_nil]; exact fz_rel _ hl, by rw [fz_adr]; exact List.nodup_nil, hO, by rw [fz_owa]; exact fun _ z => nomatch z⟩
  refine hM O [] _ H _ R (fun _ z => nomatch z) (wp_mono (wp_bind.mp hw) (fun fl q => ?_) fun c q => q.elim)
  rw [fz_adr]
  cases fl with
  | nx s => exact q.elim
  | rt v r => exact q.elim
  | ro mo =>
    intro p H' g n hm
    refine q p H' (fun x o e => g.1 x o (fun z => nomatch z) e) ?_ hm
    rcases g.2 p (by simp) with c | c
    · cases c
    · exact c
  | bk l => exact nomatch l
  | ct l => exact nomatch l
end
section
variable {K : PySem.W.Frag} {cl : Str → Option Addr} {W : WX} {bs O A A1 B : List Addr} {F H H' H1 : Hp} {ρ ρ' ρx ρh : Ro} {σ : St} {S S1 S2 L : Type} {ρs : S → Ro} {ρn : S1 → Ro} {ρl : L → Ro} {D : Ends} {t u v tb : TS} {te ta tc td : TE} {ma mb : S → Res (PV × S)} {tr : TA} {ml : Res (List PV)} {mls : S → Res (List PV × S)}
def moL : MO → Res (List PV)
  | .lst l => .val l
  | _ => .stuck
def moD : MO → Res (List (Key × PV))
  | .dct l => .val l
  | _ => .stuck
theorem nw_callN {mf : List PV → Res MO} (hl : PurL K cl W tr ρ ml) : New K cl W (tCallS (spN K cl mf) (WE W) tr) ρ (ml >>= fun ps => noX (mf ps) >>= moL) := fun O bs σ H Q R q => by
  refine hl O bs σ H _ R (wp_mono (wp_bind.mp q) (fun ps qs vs H1 s1 i1 => ?_) fun _ z => z)
  refine ⟨O ++ adr ρ σ, ps, fun a h => (R.same s1).got h, i1, wp_mono (wp_noX (E' := fun _ => False) (wp_bind.mp qs)) (fun mo qm p H' s hp hm => ?_) fun _ z => z⟩
  cases mo with
  | lst l =>
    obtain ⟨vs', h1, h2⟩ := hm
    exact qm p vs' H' (s1.trans s) (none_back s1 hp) h1 h2
  | _ => exact qm.elim
theorem nd_callN {mf : List PV → Res MO} (hl : PurL K cl W tr ρ ml) : NewD K cl W (tCallS (spN K cl mf) (WE W) tr) ρ (ml >>= fun ps => noX (mf ps) >>= moD) := fun O bs σ H Q R q => by
  refine hl O bs σ H _ R (wp_mono (wp_bind.mp q) (fun ps qs vs H1 s1 i1 => ?_) fun _ z => z)
  refine ⟨O ++ adr ρ σ, ps, fun a h => (R.same s1).got h, i1, wp_mono (wp_noX (E' := fun _ => False) (wp_bind.mp qs)) (fun mo qm p H' s hp hm => ?_) fun _ z => z⟩
  cases mo with
  | dct l =>
    obtain ⟨vs', h1, h2⟩ := hm
    exact qm p vs' H' (s1.trans s) (none_back s1 hp) h1 h2
  | _ => exact qm.elim
/-! pop -/
def popL (l : List PV) (i : PV) : Res (PV × List PV) := match i with
  | .int i => if -(2 ^ 63) ≤ i ∧ i < 2 ^ 63 then match seqIndex? i l.length with
      | some k => match l[k]? with
        | some y => .val (y, l.eraseIdx k)
        | none => .stuck
      | none => .stuck
    else .stuck
  | _ => .stuck
theorem ef_pop {i : Nat} {sl : S → Slot} {get : S → List PV} {put : S → List PV → S} (hi : ∀ s, (ρs s)[i]? = some (sl s)) (hs : ∀ s, sl s = .ow (.lst (get s)) ∨ ∃ k, sl s = .rf k (.lst (get s))) (hp : ∀ s l, (ρs s).set i (reSl (sl s) (.lst l)) = ρs (put s l)) (ha : Eff K cl ta ρs ma) :
    Eff K cl (tBM K "list" rPopAt (tVar i) (tCons ta tNil)) ρs (fun s => ma s >>= fun k => popL (get k.2) k.1 >>= fun r => .val (r.1, put k.2 r.2)) := fun s O bs σ H Q R hb q => by
  have got : ∀ s' H', Rel K cl O bs (ρs s') σ H' → ∃ a vs, σ[i]? = some (some (.ref a)) ∧ H' a = some (.lst vs) ∧ IsL K cl (frz H' (O ++ adr (ρs s') σ)) vs (get s') := fun s' H' R => by
    obtain ⟨x, e, q⟩ := R.sl.get (hi s')
    rcases hs s' with h | ⟨k, h⟩
    · rw [h] at q; obtain ⟨a, rfl, vs, h1, h2⟩ := q; exact ⟨a, vs, e, h1, h2⟩
    · rw [h] at q; obtain ⟨a, rfl, _, vs, h1, h2⟩ := q; exact ⟨a, vs, e, h1, h2⟩
  obtain ⟨a, vs, hA, hv, hl⟩ := got _ _ R
  refine ⟨_, hA, .inl ⟨rfl, _, .inl (.inl hv)⟩, ha s O bs σ H _ R hb (wp_mono (wp_bind.mp q) (fun k qk v H1 g1 R1 e1 i1 => ?_) fun _ z => z)⟩
  obtain ⟨a', vs', hA', hv', hl'⟩ := got _ _ R1
  rw [hA] at hA'
  cases hA'
  have qk := wp_bind.mp qk
  unfold popL at qk
  split at qk
  · next j hj =>
    rw [hj] at i1
    cases i1
    split at qk
    · next c =>
      split at qk
      · next n hn =>
        split at qk
        · next y hy =>
          obtain ⟨vy, h1, h2⟩ := hl'.get hy
          obtain ⟨R2, g2⟩ := R1.put (m' := .lst ((get k.2).eraseIdx n)) (o := .lst (vs'.eraseIdx n)) (hi k.2) (hs k.2) hA ⟨_, upd_same, IsL.erase n hl'⟩
          have e2 := (adr_re (σ := σ) (m' := .lst ((get k.2).eraseIdx n)) (hi k.2)).1
          have g2e : Gr (adr (ρs s) σ) H1 (adr (ρs s) σ) (upd H1 a (.lst (vs'.eraseIdx n))) := by rw [e2, e1] at g2; exact g2
          rw [hp] at R2 e2
          refine ⟨a, vs', j, n, vy, rfl, rfl, hv', c.1, c.2, by rw [hl'.len]; exact hn, h1, qk vy _ (g1.trans g2e) R2 (e2.trans e1) ?_⟩
          rw [← e1]
          exact h2.mono (by rw [e1]; exact g2e.sub R1.al)
        · exact qk.elim
      · exact qk.elim
    · exact qk.elim
  · exact qk.elim
end
open PySem.Spec PyProof.Rows in
theorem fn_stuckR {P : Program} {w : World} {K : PySem.W.Frag} {mg : Str → Option Value} {base : Heap} {CX : CXT} {cl : Str → Option Addr} {k : Nat} {f : Addr} {fd : FuncData} {ps : List Str} {mf : MO → List PV → Res (PV × MO)} (h : ∀ mo qs, mf mo qs = .stuck) : FnOk P w K mg base CX k f fd ps (spR K cl mf) := by
  refine ⟨fun vs H Q E ⟨O, b, mo, us, qs, _, _, _, _, _, hw⟩ => ?_, fun A outer s H args us vs Q E _ _ _ _ ⟨O, b, mo, us, qs, _, _, _, _, _, hw⟩ => ?_⟩
  · rw [h] at hw; exact hw.elim
  · rw [h] at hw; exact hw.elim
theorem stuckR0 : ∀ mo qs, apR0 (fun _ => (.stuck : Res (PV × MO))) mo qs = .stuck := fun mo qs => by unfold apR0; split <;> rfl
theorem stuckR1 : ∀ mo qs, apR1 (fun _ _ => (.stuck : Res (PV × MO))) mo qs = .stuck := fun mo qs => by unfold apR1; split <;> rfl
theorem stuckR2 : ∀ mo qs, apR2 (fun _ _ _ => (.stuck : Res (PV × MO))) mo qs = .stuck := fun mo qs => by unfold apR2; split <;> rfl
theorem stuckR3 : ∀ mo qs, apR3 (fun _ _ _ _ => (.stuck : Res (PV × MO))) mo qs = .stuck := fun mo qs => by unfold apR3; split <;> rfl
theorem stuckR4 : ∀ mo qs, apR4 (fun _ _ _ _ _ => (.stuck : Res (PV × MO))) mo qs = .stuck := fun mo qs => by unfold apR4; split <;> rfl
theorem stuckR5 : ∀ mo qs, apR5 (fun _ _ _ _ _ _ => (.stuck : Res (PV × MO))) mo qs = .stuck := fun mo qs => by unfold apR5; split <;> rfl
/-! ### list(range(..)), tuple(range(..)), isinstance with two, the law -/
section
variable {K : PySem.W.Frag} {cl : Str → Option Addr} {W : WX} {bs O A A1 B : List Addr} {F H H' H1 : Hp} {ρ : Ro} {σ : L2.St} {ta tb : TE} {ma mb : Res PV}
def rgL (lo hi : Int) : Res (List PV) := if -(2 ^ 62) ≤ lo ∧ lo < 2 ^ 62 ∧ -(2 ^ 62) ≤ hi ∧ hi < 2 ^ 62 ∧ (hi - lo).toNat ≤ 2 ^ 24 then .val (rngP lo hi) else .stuck
theorem is_rg : ∀ (l : List Nat) (lo : Int), IsL K cl F (l.map fun i => V.int (lo + (i : Nat))) (l.map fun i => PV.int (lo + (i : Nat)))
  | [], _ => .nil
  | _ :: l, lo => .cons (.int _) (is_rg l lo)
theorem wp_rgL {lo hi : Int} {Q : List PV → Prop} {E : Str → Prop} (h : wp (rgL lo hi) Q E) : RgOk lo hi ∧ Q (rngP lo hi) := by
  unfold rgL at h
  split at h
  · next c => exact ⟨c, h⟩
  · exact h.elim
def PRgP (K : PySem.W.Frag) (cl : Str → Option Addr) (W : WX) (t : L2.St → Hp → (Int → Int → Hp → Prop) → Prop) (ρ : Ro) (m : Res (Int × Int)) : Prop := ∀ (O bs : List Addr) (σ : L2.St) (H : Hp) (Q : Int → Int → Hp → Prop), Rel K cl O bs ρ σ H →
  wp m (fun r => ∀ H', Sub H H' → Q r.1 r.2 H') (XW cl W σ H) → t σ H Q
theorem rg_1 (ha : Vw K cl W ta ρ ma) : PRgP K cl W (tRg1 ta) ρ (ma >>= partP >>= fun i => .val (0, i)) := fun O bs σ H Q R q => by
  rw [wp_bind, wp_bind] at q
  refine ha O bs σ H _ R (wp_mono q (fun x qx v1 H1 s1 i1 => ?_) fun _ z => z)
  unfold partP at qx
  split at qx
  · cases isV_int i1; exact ⟨_, rfl, qx H1 s1⟩
  · exact qx.elim
theorem rg_2 (ha : Vw K cl W ta ρ ma) (hb : Vw K cl W tb ρ mb) : PRgP K cl W (tRg2 ta tb) ρ (ma >>= fun x => mb >>= fun y => partP x >>= fun i => partP y >>= fun j => .val (i, j)) := fun O bs σ H Q R q => by
  refine ha O bs σ H _ R (wp_mono (wp_bind.mp q) (fun x qx v1 H1 s1 i1 => ?_) fun _ z => z)
  refine hb O bs σ H1 _ (R.same s1) (wp_mono (wp_bind.mp qx) (fun y qy v2 H2 s2 i2 => ?_) fun _ z => z.mono s1)
  unfold partP at qy
  split at qy
  · cases isV_int i1
    have qy := wp_bind.mp qy
    split at qy
    · cases isV_int i2; exact ⟨_, _, rfl, rfl, qy H2 (s1.trans s2)⟩
    · exact qy.elim
  · exact qy.elim
theorem nw_listRg {t : L2.St → Hp → (Int → Int → Hp → Prop) → Prop} {m : Res (Int × Int)} (h : PRgP K cl W t ρ m) : New K cl W (tLstRg t) ρ (m >>= fun r => rgL r.1 r.2) := fun O bs σ H Q R q => by
  refine h O bs σ H _ R (wp_mono (wp_bind.mp q) (fun r qr H1 s1 => ?_) fun _ z => z)
  obtain ⟨ok, qr⟩ := wp_rgL qr
  exact ⟨ok, fun p hp => qr p _ _ (s1.trans (sub_new hp _)) (none_back s1 hp) upd_same (is_rg _ _)⟩
theorem pu_tupRg {t : L2.St → Hp → (Int → Int → Hp → Prop) → Prop} {m : Res (Int × Int)} (h : PRgP K cl W t ρ m) : Pur K cl W (tTupRg t) ρ (m >>= fun r => rgL r.1 r.2 >>= fun l => .val (.tup l)) := fun O bs σ H Q R q => by
  refine h O bs σ H _ R (wp_mono (wp_bind.mp q) (fun r qr H1 s1 => ?_) fun _ z => z)
  obtain ⟨ok, qr⟩ := wp_rgL (wp_bind.mp qr)
  exact ⟨ok, fun p hp => qr _ _ (s1.trans (sub_new hp _)) (new_tup (fun a h => (R.same s1).got h) hp (is_rg _ _))⟩
theorem New.pur' {t : TE} {α : Type} {m : Res α} {f : α → Res (List PV)} (h : New K cl W t ρ (m >>= f)) : Pur K cl W t ρ (m >>= fun x => f x >>= fun l => .val (.lst l)) := by
  have q := h.pur
  cases m <;> exact q
def isiP2 (a b : String) (p : PV) : Res PV := match tyNm p with
  | some n => match kitB n a, kitB n b with
    | some r, some s => .val (.bl (r || s))
    | _, _ => .stuck
  | none => .stuck
theorem call_isiTV (K : PySem.W.Frag) {X : Cx} (e : X.K = K) : CallR X (.builtin "isinstance") (rIsiT K) := by subst e; exact call_isiT
theorem pu_isi2 {a b : String} (ha : Vw K cl W ta ρ ma) : Pur K cl W (tCB (rIsiT K) (tCons ta (tCons (tTup (tCons (tC (.ty a)) (tCons (tC (.ty b)) tNil))) tNil))) ρ (ma >>= isiP2 a b) := fun O bs σ H Q R q => by
  refine ha O bs σ H _ R (wp_mono (wp_bind.mp q) (fun x qx v1 H1 s1 i1 => ?_) fun _ z => z)
  unfold isiP2 at qx
  split at qx
  · next n hn =>
    split at qx
    · next r s hr hs =>
      refine ⟨by show 2 ≤ sizeLine; decide, fun p hp => ⟨v1, p, [.ty a, .ty b], .type n, [.type a, .type b], r || s, rfl, upd_same, .cons (.ty _) (.cons (.ty _) .nil), ?_, ?_, qx _ _ (s1.trans (sub_new hp _)) (.bl _)⟩⟩
      · exact isV_ty (i1.mono (frz_same (sub_new hp _)) (sub_new hp _)) frz_sub hn
      · refine kitAny_cons (kit_ty hr) (fun e => ?_) fun e => by rw [e]; rfl
        rw [e, Bool.false_or]
        exact kitAny_cons (kit_ty hs) (fun e => by rw [e]; exact kitAny_nil) fun e => e
    · exact qx.elim
  · exact qx.elim
end
section
variable {P : Program} {w : World} {K : PySem.W.Frag} {mg : Str → Option Value} {base : Heap} {cl : Str → Option Addr}
def spLaw (K : PySem.W.Frag) : Sp := fun vs H Q _ => ∃ (a : Addr) (ns : List Int), vs = [.ref a] ∧ SqL K H a (ns.map V.int) ∧ ns.length ≤ 63 ∧ ∀ H', Q (.bl true) H'
open PySem.Spec PyProof.Rows in
theorem fnLaw {x qual sx : Str} {st : Stmt} {f : Addr} {fd : FuncData} {N : List Str} {k : Nat} (F : Fun K x qual st f fd) (S : FnScope N [sx] (defScope st)) {ml : List Int → Res PV} (hml : ∀ ns : List Int, ns.length ≤ 63 → ml ns = .val (.bl true))
    (h : ∀ (cdv : Value) (A : Around) (outer : List Env) (s : Shared) (H : Hp) (E : XK), Room k (A.deeper (envOfC qual (defScope st) s.heap.objs.size f cdv)) → ∀ ns : List Int,
      ∃ t, PSs (cxOf CX0 P w K mg base N qual (defScope st) f cdv A outer s H E).nox (defBody st) t ∧ ∃ M, Runs K cl (fun c d _ H' => E0 c d H') t (.fz (.fls (ns.map PV.int)) :: uns (N.length - 1)) M (fun _ : Unit => uns N.length) (fun l : Empty => nomatch l) (uns N.length) ∧ ml ns = retF M) :
    FnOk P w K mg base CX0 (k + 1) f fd [sx] (spLaw K) := by
  refine F.ok S (fun vs H Q E h => ?_) (fun cdv A outer s H vs Q E hr hsp => ?_)
  · obtain ⟨_, _, rfl, _⟩ := h; rfl
  obtain ⟨a, ns, rfl, hS, h63, k⟩ := hsp
  obtain ⟨t, ht, M, hM, e⟩ := h cdv A outer s H E hr ns
  refine ⟨t, ht, ?_⟩
  have hw := (hml ns h63).symm.trans e
  have hw : wp (retF M) (fun r => r = .bl true) (fun _ => False) := by rw [← hw]; exact rfl
  have R : Rel K cl [] [] (.fz (.fls (ns.map PV.int)) :: uns (N.length - 1)) (some (V.ref a) :: List.replicate (N.length - 1) none) H := by
    have ea : adr (.fz (.fls (ns.map PV.int)) :: uns (N.length - 1)) (some (V.ref a) :: List.replicate (N.length - 1) none) = [] := uns_adr _ _
    refine ⟨?_, by rw [ea]; exact List.nodup_nil, fun _ z => (nomatch z), fun _ _ z => nomatch z⟩
    rw [ea]
    refine .cons ⟨_, rfl, .fls (Sub.sqL (F := H) (F' := frz H ([] ++ [])) (fun x o e => frz_some.mpr ⟨(fun z => nomatch z), e⟩) hS) (IsL.of_ints ns)⟩ ?_
    exact fz_rel (vs := []) (qs := []) _ .nil
  refine hM [] [] _ H _ R (fun _ z => nomatch z) (wp_mono (wp_bind.mp hw) (fun fl q => ?_) fun c q => q.elim)
  cases fl with
  | nx s => exact absurd (show PV.non = .bl true from q) (fun z => nomatch z)
  | rt v r =>
    have q : v = .bl true := q
    subst q
    exact fun w' H' g i _ => by cases i; exact k H'
  | ro mo => exact q.elim
  | bk l => exact nomatch l
  | ct l => exact nomatch l
end
/-! ### tuple * int, any int -/
section
open PySem.Spec PyProof.Rows
theorem tup_mul1 (l : Addr) (items : Array Value) (n : Nat) (dd : Option Addr) (sl : Array (Option Value)) (x : Int) (u : Tok) (c0 : (decide (x < -(2 ^ 63)) || decide (x ≥ 2 ^ 63)) = false) (c1 : (items.isEmpty || x == 1) = true) :
    Meets (Builtin.«tuple.__mul__» ⟨[.ref l, .int x u], []⟩) (fun _ R s => s.heap.get? l = some { cls := .type "tuple", dict := dd, data := .seq items n, slots := sl } ∧ R (.ok (.ret (Value.ref l))) s) :=
  .of_wp fun prog w A R s h => by
    obtain ⟨hp, g, d, tk, os⟩ := s
    obtain ⟨hl, h⟩ := h
    have f1 := AutoSeq1.idx_int
    wp_walk using wpAny_loadPart' hl
    repeat (first
      | (refine wpAny_ite_false (decide_eq_false (by rw [c0]; exact Bool.false_ne_true)) ?_; wp_walk using wpAny_loadPart' hl)
      | (refine wpAny_ite_true (decide_eq_true (by rw [c1])) ?_; wp_walk using wpAny_loadPart' hl))
    all_goals exact ⟨_, rfl, h⟩
theorem tup_mul0 (l : Addr) (items : Array Value) (n : Nat) (dd : Option Addr) (sl : Array (Option Value)) (x : Int) (u : Tok) (c0 : (decide (x < -(2 ^ 63)) || decide (x ≥ 2 ^ 63)) = false) (c1 : (items.isEmpty || x == 1) = false) (c2 : (decide (x ≤ 0) || items.isEmpty) = true) :
    Meets (Builtin.«tuple.__mul__» ⟨[.ref l, .int x u], []⟩) (fun _ R s => s.heap.get? l = some { cls := .type "tuple", dict := dd, data := .seq items n, slots := sl } ∧
      R (.ok (.ret (Value.ref s.heap.objs.size))) { s with heap := s.heap.push { cls := Value.type "tuple", data := Data.seq #[] }, toks := s.toks }) :=
  .of_wp fun prog w A R s h => by
    obtain ⟨hp, g, d, tk, os⟩ := s
    obtain ⟨hl, h⟩ := h
    have f1 := AutoSeq1.idx_int
    wp_walk using wpAny_loadPart' hl
    repeat (first
      | (refine wpAny_ite_false (decide_eq_false (by rw [c0]; exact Bool.false_ne_true)) ?_; wp_walk using wpAny_loadPart' hl)
      | (refine wpAny_ite_false (decide_eq_false (by rw [c1]; exact Bool.false_ne_true)) ?_; wp_walk using wpAny_loadPart' hl)
      | (refine wpAny_ite_true (decide_eq_true (by rw [c2])) ?_; wp_walk using wpAny_loadPart' hl))
    all_goals exact ⟨_, rfl, h⟩
def rRepT1 (K : PySem.W.Frag) : R2 := fun x y H Q => ∃ l k xs, x = .ref l ∧ y = .int k ∧ SqT K H l xs ∧ -(2 ^ 63) ≤ k ∧ k < 2 ^ 63 ∧ (xs = [] ∨ k = 1) ∧ Q (.ref l) H
def rRepT0 (K : PySem.W.Frag) : R2 := fun x y H Q => ∃ l k xs, x = .ref l ∧ y = .int k ∧ SqT K H l xs ∧ -(2 ^ 63) ≤ k ∧ k ≤ 0 ∧ xs ≠ [] ∧ ∀ p, H p = none → Q (.ref p) (upd H p (.tup []))
theorem op_repT1 {X : Cx} : OpR X (binaryOp .Mult) (rRepT1 X.K) := by
  intro pins s σ H x y v u Q I rx ry h
  obtain ⟨l, k, xs, rfl, rfl, hT, h1, h2, h3, q⟩ := h
  cases rx
  obtain ⟨t, rfl⟩ := ry
  obtain ⟨its, r, ⟨⟨cls, dd, data, sl⟩, ho, hc, n, hd⟩, hs⟩ := I.tuple hT
  simp only at hc hd
  subst hc hd
  have c0 : (decide (k < -(2 ^ 63)) || decide (k ≥ 2 ^ 63)) = false := by
    rw [decide_eq_false (by omega), decide_eq_false (by omega)] <;> rfl
  have c1 : (its.toArray.isEmpty || k == 1) = true := by
    rcases h3 with h3 | h3
    · have e : its = [] := List.eq_nil_of_length_eq_zero (by rw [← r.length, h3]; rfl)
      subst e
      rfl
    · rw [h3]
      exact Bool.or_true _
  exact wpAny_binaryOp_repeat_ref (T := "tuple") (U := "int") (by decide) ⟨_, ho, rfl⟩ (fun s' => typeIs_int s' k t) noFill_tuple_mul F.fills_int_mul F.slot_int_rmul repeat_tuple F.slot_int_index.lookup
    (call_meets F.slot_int_rmul (typeIs_int s k t) F.entry_int_rmul (F.args_int_rmul_2 _ _) (int_rmul_tuple k t l its.toArray n dd sl)
      ⟨ho, rfl, ⟨_, ho, rfl⟩, call_meets F.slot_tuple_mul ⟨_, ho, rfl⟩ F.entry_tuple_mul (F.args_tuple_mul_2 _ _) (tup_mul1 l its.toArray n dd sl k t c0 c1) ⟨ho, .ref l, H, I, rfl, q⟩⟩)
theorem op_repT0 {X : Cx} : OpR X (binaryOp .Mult) (rRepT0 X.K) := by
  intro pins s σ H x y v u Q I rx ry h
  obtain ⟨l, k, xs, rfl, rfl, hT, h1, h2, h3, q⟩ := h
  cases rx
  obtain ⟨t, rfl⟩ := ry
  obtain ⟨its, r, ⟨⟨cls, dd, data, sl⟩, ho, hc, n, hd⟩, hs⟩ := I.tuple hT
  simp only at hc hd
  subst hc hd
  have hi : its.toArray.isEmpty = false := by
    cases its with
    | nil => exact absurd (List.eq_nil_of_length_eq_zero (by rw [r.length]; rfl)) h3
    | cons a b => rfl
  have c0 : (decide (k < -(2 ^ 63)) || decide (k ≥ 2 ^ 63)) = false := by
    rw [decide_eq_false (by omega), decide_eq_false (by omega)] <;> rfl
  have c1 : (its.toArray.isEmpty || k == 1) = false := by
    rw [hi, Bool.false_or]
    exact beq_eq_false_iff_ne.mpr (by omega)
  have c2 : (decide (k ≤ 0) || its.toArray.isEmpty) = true := by
    rw [decide_eq_true h2]
    rfl
  refine wpAny_binaryOp_repeat_ref (T := "tuple") (U := "int") (by decide) ⟨_, ho, rfl⟩ (fun s' => typeIs_int s' k t) noFill_tuple_mul F.fills_int_mul F.slot_int_rmul repeat_tuple F.slot_int_index.lookup
    (call_meets F.slot_int_rmul (typeIs_int s k t) F.entry_int_rmul (F.args_int_rmul_2 _ _) (int_rmul_tuple k t l its.toArray n dd sl)
      ⟨ho, rfl, ⟨_, ho, rfl⟩, call_meets F.slot_tuple_mul ⟨_, ho, rfl⟩ F.entry_tuple_mul (F.args_tuple_mul_2 _ _) (tup_mul0 l its.toArray n dd sl k t c0 c1 c2) ⟨ho, ?_⟩⟩)
  refine ⟨.ref s.heap.objs.size, _, I.laid (t' := s.toks) (o := .tup []) (fun b ob q => Heap.get?_push_of_some _ q) (Nat.le_refl _) ?_, rfl, q _ (I.hok.fresh (Nat.le_refl _))⟩
  exact ⟨Nat.zero_le _, [], .nil, IsTup.new _ _⟩
end
section
variable {K : PySem.W.Frag} {cl : Str → Option Addr}
def repT : PV → PV → Res PV
  | .tup xs, .int k =>
    if -(2 ^ 63) ≤ k ∧ k < 2 ^ 63 ∧ (xs.length = 0 ∨ k = 1) then .val (.tup xs)
    else if -(2 ^ 63) ≤ k ∧ k ≤ 0 ∧ xs.length ≠ 0 then .val (.tup [])
    else if xs.length ≠ 0 ∧ 2 ≤ k ∧ k ≤ 1000 ∧ xs.length ≤ 1000 then .val (.tup (List.replicate k.toNat xs).flatten)
    else .stuck
  | _, _ => .stuck
def rRepTV (K : PySem.W.Frag) : R2 := rOr (rRepT1 K) (rOr (rRepT0 K) (rRepT K))
theorem o2_repT : Op2 K cl (rRepTV K) repT := fun A H x y p q Q E hA ix iy w => by
  unfold repT at w
  split at w
  · cases ix with
    | tup h l =>
    cases isV_int iy
    split at w
    · next c =>
      refine .inl ⟨_, _, _, rfl, rfl, frz_sub.sqT h, c.1, c.2.1, ?_, w _ H .refl (.tup h l)⟩
      rcases c.2.2 with e | e
      · exact .inl (List.eq_nil_of_length_eq_zero (by rw [l.len]; exact e))
      · exact .inr e
    · split at w
      · next c =>
        refine .inr (.inl ⟨_, _, _, rfl, rfl, frz_sub.sqT h, c.1, c.2.1, fun e => c.2.2 (by rw [← l.len, e]; rfl), fun p hp => w _ _ (sub_new hp _) (new_tup hA hp .nil)⟩)
      · split at w
        · next c =>
          refine .inr (.inr ⟨_, _, _, rfl, rfl, frz_sub.sqT h, fun e => c.1 (by rw [← l.len, e]; rfl), c.2.1, c.2.2.1, by rw [l.len]; exact c.2.2.2, fun p hp => w _ _ (sub_new hp _) (new_tup hA hp (l.reps _))⟩)
        · exact w.elim
  · exact w.elim
def mulPT : PV → PV → Res PV := orS mulP repT
def rMulVT (K : PySem.W.Frag) : R2 := rOr rMulV (rRepTV K)
theorem o2_mulT : Op2 K cl (rMulVT K) mulPT := o2_or o2_mul o2_repT
theorem op_mulVT (K : PySem.W.Frag) {X : Cx} (e : X.K = K) : OpR X (binaryOp .Mult) (rMulVT K) := by
  subst e
  exact op_mulV.or (op_repT1.or (op_repT0.or op_repT))
end
/-! ### sum of a tuple -/
section
open PySem.Spec PyProof.Rows
theorem sumT_raw {prog : Program} {w : World} {A : Around} {E : Value → Shared → Prop} {s : Shared} {Q : Value → Shared → Prop} {l : Addr} {its : List Value} {ns : List Int} (hh : A.handled = none) (hl : s.heap.IsTuple l its.toArray) (hi : IntsAre its ns)
    (h : ∀ h' tk t', (∀ b o, s.heap.get? b = some o → h'.get? b = some o) → Q (.int ns.sum t') { s with heap := h', toks := tk }) : wpAny (model prog w) A (call (.builtin "sum") [.ref l]) Q E s := by
  obtain ⟨xs, e⟩ := hi.allInts.items
  have hn : numsOf (intItems xs).toList = ns := by rw [← e]; exact hi.numsOf
  rw [nums_intItems] at hn
  rw [e] at hl
  have hlt : l < s.heap.objs.size := by obtain ⟨_, e, _⟩ := hl; exact Heap.lt_size e
  refine call_sum_walkG (wpAny_pyIter_tuple hl ?_)
  refine ⟨_, [s.heap.objs.size, l], [s.heap.objs.size], _, _, _, numAt xs, rfl, Walks.tuple (A := A.in1) hh _ l (Nat.ne_of_lt hlt) (intItems xs), ⟨⟨_, Heap.get?_push_size _ rfl, rfl, rfl⟩, hl.push _⟩, fun b hb => ?_, (fun _ _ => intItems_at), fun h' tk t' hk => ?_⟩
  · show b < (s.heap.push _).objs.size
    rw [Heap.size_push]
    rcases List.mem_cons.mp hb with rfl | hb
    · exact Nat.lt_succ_self _
    · rcases List.mem_cons.mp hb with rfl | hb
      · exact Nat.lt_succ_of_lt hlt
      · cases hb
  · have := h h' tk t' fun b o eo => hk b o (fun hm => by
      have : b = s.heap.objs.size := by simpa using hm
      exact absurd (this ▸ Heap.lt_size eo) (Nat.lt_irrefl _)) (Heap.get?_push_of_some _ eo)
    have e2 : preSum (numAt xs) (intItems xs).size = ns.sum := by
      have : (intItems xs).size = xs.size := by simp [intItems]
      rw [this, preSum_eq, List.take_of_length_le (by simp), hn]
    rw [e2]
    exact this
def rSumT (K : PySem.W.Frag) : List V → Hp → VK → Prop := fun vs H Q => ∃ (a : Addr) (ns : List Int), vs = [V.ref a] ∧ SqT K H a (ns.map V.int) ∧ Q (.int ns.sum) H
theorem cr_sumT {X : Cx} (hc : X.calm = true) : CallR X (.builtin "sum") (rSumT X.K) := by
  intro pins s σ H vs us Q I r h
  obtain ⟨a, ns, rfl, hs, q⟩ := h
  obtain ⟨its, rv, hl, _⟩ := I.tuple hs
  rw [Vals.ref1 r]
  refine sumT_raw (I.ok.hd hc) hl rv.ints fun h' tk t' hk => ⟨.int _, H, I.kept hk, ⟨_, rfl⟩, q⟩
end
section
variable {K : PySem.W.Frag} {cl : Str → Option Addr}
def rSumV (K : PySem.W.Frag) : List V → Hp → VK → Prop := cOr (rSum K) (rSumT K)
theorem cr_sumVT (K : PySem.W.Frag) {X : Cx} (e : X.K = K) (hc : X.calm = true) : CallR X (.builtin "sum") (rSumV K) := by
  subst e
  exact (cr_sum hc).or (cr_sumT hc)
def sumPT (p : PV) : Res PV := asSq p >>= fun ps => match allI ps with
  | some is => .val (.int is.sum)
  | none => .stuck
theorem b1_sumT : Bi1 K cl (rSumV K) sumPT := fun A H x p Q E hA ix w => by
  obtain ⟨a, vs, ps, rfl, hs, hl, w⟩ := wp_asSq (wp_bind.mp w) ix
  split at w
  · next is e =>
    cases allI_eq e
    cases hl.ints
    rcases hs with hs | hs
    · exact .inr ⟨a, is, rfl, hs, w _ H .refl (.int _)⟩
    · exact .inl ⟨a, is, rfl, hs, w _ H .refl (.int _)⟩
  · exact w.elim
end
/-! ### making, methods: the wish for an exception may hang on the slots -/
section
open PySem.Spec PyProof.Rows
variable {X : Cx} {CX : CXT} {k : Nat} {f C : Addr} {fd : FuncData} {ps : List Str} {sp : Sp} {E : L2.St → XK} {x m : Str} {p pos apos : Pos} {e o : Expr} {es : List Expr} {ta t1 t2 : TE} {t : TA}
theorem PE.either (h1 : PE X e t1) (h2 : PE X e t2) : PE X e (fun σ H Q => t1 σ H Q ∨ t2 σ H Q) :=
  ⟨fun pins s σ H Q I h => h.elim (fun q => h1.run pins s σ H Q I q) fun q => h2.run pins s σ H Q I q⟩
def tMakeS (C : Addr) (sp : Sp) (E : L2.St → XK) (t : TA) : TE := fun σ H Q => t σ H fun vs H1 => ∀ x dx, H1 x = none → H1 dx = none → dx ≠ x →
  sp (.ref x :: vs) (upd (upd H1 dx (.own x)) x (.ins C dx [])) (fun v H2 => v = .non ∧ Q (.ref x) H2) (E σ)
theorem run_makeS {pins : List (Addr × Obj)} {σ : L2.St} {H : Hp} {s : Shared} {Q : VK} {us : List Value} {vs : List V} (M : Mk X.K C f) (F : FnOk X.prog X.w X.K X.mg X.base CX k f fd ps sp) (hr : Room (k + 1) X.A) (hb : Binds X.K fd ps [])
    (hx : PassesAt CX X σ (E σ)) (I : Inv X pins σ H s) (r : Vals vs us)
    (h : ∀ x dx, H x = none → H dx = none → dx ≠ x → sp (.ref x :: vs) (upd (upd H dx (.own x)) x (.ins C dx [])) (fun v H2 => v = .non ∧ Q (.ref x) H2) (E σ)) :
    wpAny (model X.prog X.w) X.A (call (.ref C) us) (EP X pins σ Q) X.xe s := by
  have hq := h (s.heap.objs.size + 1) s.heap.objs.size (I.hok.fresh (Nat.le_succ _)) (I.hok.fresh (Nat.le_refl _)) (Nat.ne_of_lt (Nat.lt_succ_self _))
  have I2 := Inv.made (C := C) I
  have r2 : Vals (V.ref (s.heap.objs.size + 1) :: vs) (Value.ref (s.heap.objs.size + 1) :: us) := .cons rfl r
  have hl : ((Value.ref (s.heap.objs.size + 1) :: us) ++ []).length = ps.length := by
    have e := r2.length
    rw [F.len _ _ _ _ hq] at e
    rw [List.append_nil]
    exact e.symm
  refine wpAny_call (make_map (f := f) I.kIn M.makes M.init (beq_iff_eq.mp M.fn) (codeAny_mono (F.run _ X.stack _ _ ⟨Value.ref (s.heap.objs.size + 1) :: us, []⟩ (Value.ref (s.heap.objs.size + 1) :: us) _ _ (E σ) (hr.make C us [])
    (I2.env0.make C us []) (by have := hb _ (Value.ref (s.heap.objs.size + 1) :: us) I2.kIn hl; rwa [List.append_nil] at this) r2 hq) fun r s' hq' => ?_))
  cases r with
  | error e => exact hx pins _ _ e s' I2 hq'
  | ok fl =>
    cases fl with
    | ret u =>
      obtain ⟨v, H', I3, rv, ev, q3⟩ := I2.after hq'
      subst ev
      exact ⟨rv, ⟨V.ref (s.heap.objs.size + 1), H', I3, rfl, q3⟩⟩
    | next => exact False.elim hq'
    | brk => exact False.elim hq'
    | cont => exact False.elim hq'
theorem pe_makeS (M : Mk X.K C f) (F : FnOk X.prog X.w X.K X.mg X.base CX k f fd ps sp) (hr : Room (k + 1) X.A) (hg : Gl X x) (hm : X.mg x = some (.ref C)) (hb : Binds X.K fd ps []) (hx : ∀ σ, PassesAt CX X σ (E σ))
    (ha : PA X (e :: es) t) (hdb : (x == ("__debug__" : Str)) = false := by decide) (he : starEach (e :: es) X.env = (false, eval e X.env) :: starEach es X.env := by rfl) (hpl : (backTo pos (starEach es X.env)).any (·.1) = false := by rfl) :
    PE X (.Call (.Name x p) (e :: es) [] pos) (tMakeS C sp E t) := by
  refine ⟨fun pins s σ H Q I h => ?_⟩
  refine wpAny_Call_Name_kw (ld_glob I hg hm ?_ hdb)
  refine PySem.W.callWith_K (h₀ := X.base) I.ok.mod.kin M.kp (thn (ha.run pos pins s σ H _ I h) fun us s1 ⟨vs, H1, I1, r, q⟩ => ⟨I1.kIn, ?_⟩) he hpl
  exact run_makeS M F hr hb (hx σ) I1 r q
def tMethS' (C : Addr) (m : Str) (sp : Sp) (E : L2.St → XK) (ta : TE) (t : TA) : TE := fun σ H Q => ta σ H fun x H1 => ∃ a dx fs, x = .ref a ∧ H1 a = some (.ins C dx fs) ∧ fs.lookup m = none ∧ t σ H1 fun vs H2 => sp (x :: vs) H2 Q (E σ)
theorem pe_methT {pl : Sem Bool} (he : PE X o ta) (c : Cls X.K C) (hm : Meth X.K C m f) (F : FnOk X.prog X.w X.K X.mg X.base CX k f fd ps sp) (hr : Room k X.A) (hb : Binds X.K fd ps []) (hx : ∀ σ, PassesAt CX X σ (E σ)) (ha : PA X (e :: es) t)
    (hst : starEach (e :: es) X.env = (false, eval e X.env) :: starEach es X.env := by rfl) (hpl : (backTo pos (starEach es X.env)).any (·.1) = false := by rfl)
    (ht : eval (.Call (.Attribute o m apos) (e :: es) [] pos) X.env = (do
      let ov ← eval o X.env
      standAt apos.atName
      let (f, first) ← holding [ov] (getMethod ov m pl)
      callWith pos f first (backTo pos (starEach (e :: es) X.env)) (backToKw pos (keywordEach [] X.env))) := by rfl) :
    PE X (.Call (.Attribute o m apos) (e :: es) [] pos) (tMethS' C m sp E ta t) := by
  refine ⟨fun pins s σ H Q I h => ?_⟩
  refine PySem.W.methodCall_KW (pl := pl) (thn (he.run pins s σ H _ I h) fun u s1 ⟨x, H1, I1, rx, a, dx, fs, ex, ea, l, q⟩ => ?_) ht
  subst ex
  obtain rfl : u = Value.ref a := rx
  refine getmeth_ok I1 ea c hm l ?_
  refine PySem.W.callWith_K (first := [.ref a]) (h₀ := X.base) I.ok.mod.kin hm.kp (thn (ha.run pos pins s1 σ H1 _ I1 q) fun us s2 ⟨vs, H2, I2, r, q2⟩ => ⟨I2.kIn, ?_⟩) hst hpl
  exact run_fnS (us := .ref a :: us) (vs := .ref a :: vs) F hr hb (hx σ) I2 (.cons rfl r) q2
theorem pe_methT0 {pl : Sem Bool} (he : PE X o ta) (c : Cls X.K C) (hm : Meth X.K C m f) (F : FnOk X.prog X.w X.K X.mg X.base CX k f fd ps sp) (hr : Room k X.A) (hb : Binds X.K fd ps []) (hx : ∀ σ, PassesAt CX X σ (E σ))
    (ht : eval (.Call (.Attribute o m apos) [] [] pos) X.env = (do
      let ov ← eval o X.env
      standAt apos.atName
      let (f, first) ← holding [ov] (getMethod ov m pl)
      callWith pos f first (backTo pos (starEach [] X.env)) (backToKw pos (keywordEach [] X.env))) := by rfl) :
    PE X (.Call (.Attribute o m apos) [] [] pos) (tMethS' C m sp E ta tNil) := by
  refine ⟨fun pins s σ H Q I h => ?_⟩
  refine PySem.W.methodCall_KW (pl := pl) (thn (he.run pins s σ H _ I h) fun u s1 ⟨x, H1, I1, rx, a, dx, fs, ex, ea, l, q⟩ => ?_) ht
  subst ex
  obtain rfl : u = Value.ref a := rx
  refine getmeth_ok I1 ea c hm l ?_
  exact PySem.W.callWith_K0 (first := [.ref a]) I1.kIn hm.kp (run_fnS (us := [.ref a]) (vs := [.ref a]) F hr hb (hx σ) I1 (.cons rfl .nil) q)
end
/-! ### things of classes: made, their methods, their fields stored -/
def putFP (f : Str) (p : PV) : List (Str × PV) → List (Str × PV)
  | [] => [(f, p)]
  | (g, x) :: r => if g = f then (g, p) :: r else (g, x) :: putFP f p r
section
variable {K : PySem.W.Frag} {cl : Str → Option Addr} {F : Hp}
theorem IsF.len : ∀ {vs : List (Str × V)} {fs : List (Str × PV)}, IsF K cl F vs fs → vs.length = fs.length
  | _, _, .nil => rfl
  | _, _, .cons _ r => congrArg (· + 1) (IsF.len r)
theorem IsF.put {f : Str} {v : V} {p : PV} (i : Is K cl F v p) : ∀ {vs : List (Str × V)} {fs : List (Str × PV)}, IsF K cl F vs fs → IsF K cl F (putF f v vs) (putFP f p fs)
  | _, _, .nil => .cons i .nil
  | (g, _) :: _, _, .cons a r => by
    unfold putF putFP
    by_cases c : g = f
    · rw [if_pos c, if_pos c]; exact .cons i r
    · rw [if_neg c, if_neg c]; exact .cons a (IsF.put i r)
end
def setF (cs : List Str) (C : Str) (fs : List (Str × PV)) (f : Str) (x : PV) : Res (List (Str × PV)) := if C ∈ cs ∧ fs.length < 1000 then .val (putFP f x fs) else .stuck
def frO : PV × MO → Res PV
  | (.non, .ob C fs) => .val (.ins C fs)
  | _ => .stuck
section
variable (K : PySem.W.Frag) (cl : Str → Option Addr)
/-- an __init__: its first argument is lent and changed; it may raise -/
def spI (mf : MO → List PV → Res (PV × MO)) : Sp := fun vs H Q E => ∃ O b mo us ps, vs = .ref b :: us ∧ b ∈ O ∧ (∀ a, a ∈ O → ∃ o, H a = some o) ∧ MoIs K cl (frz H O) H b mo ∧ IsL K cl (frz H O) us ps ∧
  wp (mf mo ps) (fun r => ∀ v H', (∀ x o, x ≠ b → H x = some o → H' x = some o) → MoIs K cl (frz H' O) H' b r.2 → Is K cl (frz H' O) v r.1 → Q v H') (fun c => ∀ C H', cl c = some C → (∀ x o, x ≠ b → H x = some o → H' x = some o) → E (.ref C) none H')
end
section
variable {K : PySem.W.Frag} {cl : Str → Option Addr} {W : WX} {bs O A A1 B : List Addr} {F H H' H1 : Hp} {ρ ρ' ρx ρh : Ro} {σ : St} {S S1 S2 L : Type} {ρs : S → Ro} {ρn : S1 → Ro} {ρl : L → Ro} {D : Ends} {t u v tb t1 t2 : TS} {te ta tc td : TE} {m ma mb : Res PV} {tr : TA} {ml : Res (List PV)}
theorem run_setfld {i : Nat} {s : Slot} {C f : Str} {cs : List Str} {fs : List (Str × PV)} {n : List (Str × PV) → Res (Fl S1 L)} (hF : ∀ C, C ∈ cs → ∀ c, cl C = some c → Cls K c ∧ NoAttr K c f) (hi : ρ[i]? = some s) (hs : s = .ow (.ob C fs) ∨ ∃ k, s = .rf k (.ob C fs)) (he : Pur K cl W te ρ m) (w : Wk ρ ρx)
    (h : ∀ gs, Runs K cl W u (ρ.set i (reSl s (.ob C gs))) (n gs) ρn ρl ρx) :
    Runs K cl W (tSeq (sFld K (tVar i) te f) u) ρ (m >>= fun x => setF cs C fs f x >>= n) ρn ρl ρx := fun O bs σ H D R hb q => by
  have got : ∃ a c dx vs, σ[i]? = some (some (.ref a)) ∧ cl C = some c ∧ H a = some (.ins c dx vs) ∧ IsF K cl (frz H (O ++ adr ρ σ)) vs fs := by
    obtain ⟨x, e, q⟩ := R.sl.get hi
    rcases hs with rfl | ⟨k, rfl⟩
    · obtain ⟨a, rfl, c, dx, vs, h0, h1, h2⟩ := q; exact ⟨a, c, dx, vs, e, h0, h1, h2⟩
    · obtain ⟨a, rfl, _, c, dx, vs, h0, h1, h2⟩ := q; exact ⟨a, c, dx, vs, e, h0, h1, h2⟩
  obtain ⟨a, c, dx, vs, ha, hc, hv, hl⟩ := got
  refine he O bs σ H _ R (wp_mono (wp_bind.mp q) (fun x qx v H1 s1 ix => ?_) fun _ z => z.xw R w)
  have R1 := R.same s1
  have hl' := hl.mono (frz_same (A := O ++ adr ρ σ) s1)
  unfold setF at qx
  split at qx
  · next cc =>
    obtain ⟨c1, c2⟩ := hF C cc.1 c hc
    obtain ⟨R3, g3⟩ := R1.put (m' := .ob C (putFP f x fs)) (o := .ins c dx (putF f v vs)) hi (by rcases hs with e | ⟨k, e⟩; exact .inl e; exact .inr ⟨k, e⟩) ha ⟨c, dx, _, hc, upd_same, hl'.put ix⟩
    have g := (Gr.of (A := adr ρ σ) s1).trans g3
    exact ⟨_, ha, a, c, dx, vs, rfl, s1 _ _ hv, c1, c2, by rw [hl.len]; exact cc.2, h _ O bs σ _ D R3 hb (wp_mono qx (fun _ z => z.step g) fun _ z => z.step g)⟩
  · exact qx.elim
/-- a field of the thing under way -/
theorem pu_fldO {i : Nat} {s : Slot} {C f : Str} {cs : List Str} {fs : List (Str × PV)} (hF : ∀ C, C ∈ cs → ∀ c, cl C = some c → Cls K c ∧ NoAttr K c f) (hi : ρ[i]? = some s) (hs : s = .ow (.ob C fs) ∨ ∃ k, s = .rf k (.ob C fs)) :
    Pur K cl W (tFld K (tVar i) f) ρ (fldP cs f (.ins C fs)) := fun O bs σ H Q R q => by
  have got : ∃ a c dx vs, σ[i]? = some (some (.ref a)) ∧ cl C = some c ∧ H a = some (.ins c dx vs) ∧ IsF K cl (frz H (O ++ adr ρ σ)) vs fs := by
    obtain ⟨x, e, q⟩ := R.sl.get hi
    rcases hs with rfl | ⟨k, rfl⟩
    · obtain ⟨a, rfl, c, dx, vs, h0, h1, h2⟩ := q; exact ⟨a, c, dx, vs, e, h0, h1, h2⟩
    · obtain ⟨a, rfl, _, c, dx, vs, h0, h1, h2⟩ := q; exact ⟨a, c, dx, vs, e, h0, h1, h2⟩
  obtain ⟨a, c, dx, vs, ha, hc, hv, hl⟩ := got
  unfold fldP at q
  dsimp only at q
  split at q
  · next hC =>
    split at q
    · next p e =>
      obtain ⟨v, e2, iv⟩ := hl.look e
      obtain ⟨c1, c2⟩ := hF C hC _ hc
      exact ⟨_, ha, a, c, dx, vs, v, rfl, hv, c1, c2, e2, q v H .refl iv⟩
    · exact q.elim
  · exact q.elim
/-- C(..) -/
theorem pu_make {C : Str} {c : Addr} {mf : MO → List PV → Res (PV × MO)} (hc : cl C = some c) (hl : PurL K cl W tr ρ ml) : Pur K cl W (tMakeS c (spI K cl mf) (WE W) tr) ρ (ml >>= fun ps => mf (.ob C []) ps >>= frO) := fun O bs σ H Q R q => by
  refine hl O bs σ H _ R (wp_mono (wp_bind.mp q) (fun ps qs vs H1 s1 i1 => ?_) fun _ z => z)
  intro x dx hx hdx hne
  have R1 := R.same s1
  have sx : Sub H1 (upd (upd H1 dx (.own x)) x (.ins c dx [])) := fun y o e => by
    have n1 : y ≠ x := fun z => by rw [z, hx] at e; cases e
    have n2 : y ≠ dx := fun z => by rw [z, hdx] at e; cases e
    rw [upd_ne n1, upd_ne n2]; exact e
  have nx : x ∉ O ++ adr ρ σ := fun z => by obtain ⟨o, e⟩ := R1.got z; rw [hx] at e; cases e
  have sF : Sub (frz H1 (O ++ adr ρ σ)) (frz (upd (upd H1 dx (.own x)) x (.ins c dx [])) (x :: (O ++ adr ρ σ))) := fun y o e => by
    obtain ⟨n, e⟩ := frz_some.mp e
    refine frz_some.mpr ⟨fun z => ?_, sx _ _ e⟩
    rcases List.mem_cons.mp z with z | z
    · rw [z, hx] at e; cases e
    · exact n z
  refine ⟨x :: (O ++ adr ρ σ), x, .ob C [], vs, ps, rfl, List.mem_cons_self, fun a ha => ?_, ⟨c, dx, [], hc, upd_same, .nil⟩, i1.mono sF, wp_mono (wp_bind.mp qs) (fun r qr v H' hk hm iv => ?_) fun e qe C' H' he hk => ?_⟩
  · rcases List.mem_cons.mp ha with z | z
    · exact ⟨_, by rw [z]; exact upd_same⟩
    · obtain ⟨o, e⟩ := R1.got z
      exact ⟨o, sx _ _ e⟩
  · have sH : Sub H1 H' := fun y o e => hk y o (fun z => by rw [z, hx] at e; cases e) (sx _ _ e)
    unfold frO at qr
    split at qr
    · next C2 fs2 =>
      cases iv
      obtain ⟨c2, dx2, vs2, h0, h1, h2⟩ := hm
      refine ⟨rfl, qr _ H' (s1.trans sH) (.ins h0 (frz_some.mpr ⟨nx, h1⟩) (h2.mono (frz_less fun a ha => List.mem_cons_of_mem _ ha)))⟩
    · exact qr.elim
  · exact qe C' H' he (s1.trans fun y o e => hk y o (fun z => by rw [z, hx] at e; cases e) (sx _ _ e))
/-! methods -/
/-- the method of the thing, by its class -/
def sel : List (Str × (List PV → Res PV)) → Str → PV → Res (List PV → Res PV)
  | [], _, _ => .stuck
  | (C, f) :: D, m, x => match x with
    | .ins C' fs => if C' = C then (match fs.lookup m with
      | none => .val f
      | some _ => .stuck) else sel D m (.ins C' fs)
    | _ => .stuck
theorem sel_one {C : Str} {mf : List PV → Res PV} {mt : Str} {x : PV} {Q : (List PV → Res PV) → Prop} {E : Str → Prop} (h : wp (sel [(C, mf)] mt x) Q E) : ∃ fs, x = .ins C fs ∧ fs.lookup mt = none ∧ Q mf := by
  unfold sel at h
  cases x with
  | ins C' fs =>
    dsimp only at h
    split at h
    · next e =>
      subst e
      split at h
      · next e2 => exact ⟨fs, rfl, e2, h⟩
      · exact h.elim
    · unfold sel at h; exact h.elim
  | _ => exact h.elim
theorem pu_meth {C : Str} {c : Addr} {mt : Str} {mf : List PV → Res PV} (hc : cl C = some c) (ha : Pur K cl W ta ρ ma) (hl : PurL K cl W tr ρ ml) :
    Pur K cl W (tMethS' c mt (spP K cl mf) (WE W) ta tr) ρ (ma >>= fun x => sel [(C, mf)] mt x >>= fun g => ml >>= fun ps => g (x :: ps)) := fun O bs σ H Q R q => by
  refine ha O bs σ H _ R (wp_mono (wp_bind.mp q) (fun x qx v1 H1 s1 i1 => ?_) fun _ z => z)
  have R1 := R.same s1
  obtain ⟨fs, rfl, e2, hw⟩ := sel_one (wp_bind.mp qx)
  have main : ∃ a dx vs, v1 = .ref a ∧ H1 a = some (.ins c dx vs) ∧ vs.lookup mt = none := by
    cases i1 with
    | ins h0 h1 h2 =>
      rw [hc] at h0
      cases h0
      exact ⟨_, _, _, rfl, frz_sub _ _ h1, h2.nolook e2⟩
  obtain ⟨a, dx, vs, e3, e4, e5⟩ := main
  refine ⟨a, dx, vs, e3, e4, e5, hl O bs σ H1 _ R1 (wp_mono (wp_bind.mp hw) (fun ps z us H2 s2 i2 => ?_) fun _ z C H' e s => z C H' e (s1.trans s))⟩
  exact ⟨O ++ adr ρ σ, .ins C fs :: ps, fun a h => ((R1.same s2).got h), .cons (i1.mono (frz_same s2)) i2, wp_mono z (fun r qr v H' s i => qr v H' (s1.trans (s2.trans s)) i) fun e qe C' H' he s => qe C' H' he (s1.trans (s2.trans s))⟩
theorem pu_meths {C mt : Str} {mf : List PV → Res PV} {D : List (Str × (List PV → Res PV))} {t1 t2 : TE} {n : PV → (List PV → Res PV) → Res PV} (h1 : Pur K cl W t1 ρ (ma >>= fun x => sel [(C, mf)] mt x >>= n x)) (h2 : Pur K cl W t2 ρ (ma >>= fun x => sel D mt x >>= n x)) :
    Pur K cl W (fun σ H Q => t1 σ H Q ∨ t2 σ H Q) ρ (ma >>= fun x => sel ((C, mf) :: D) mt x >>= n x) := fun O bs σ H Q R q => by
  cases ma with
  | exc c => exact .inl (h1 O bs σ H Q R q)
  | stuck => exact q.elim
  | val x =>
    cases x with
    | ins C' fs =>
      by_cases e : C' = C
      · refine .inl (h1 O bs σ H Q R ?_)
        have a : sel ((C, mf) :: D) mt (.ins C' fs) = sel [(C, mf)] mt (.ins C' fs) := by
          unfold sel
          dsimp only
          rw [if_pos e, if_pos e]
        show wp (sel [(C, mf)] mt (.ins C' fs) >>= _) _ _
        rw [← a]
        exact q
      · refine .inr (h2 O bs σ H Q R ?_)
        have a : sel ((C, mf) :: D) mt (.ins C' fs) = sel D mt (.ins C' fs) := by
          rw [sel]
          exact if_neg e
        show wp (sel D mt (.ins C' fs) >>= _) _ _
        rw [← a]
        exact q
    | _ => exact q.elim
end
/-! ### a def of a class that names its class (super): how it is entered -/
section
open PySem.Spec PyProof.Rows
theorem cells_app : ∀ (ns : List (Str × NameKind)) (n : Nat) (acc : List (Str × Addr)), cellsFrom n ns acc = cellsFrom n ns [] ++ acc
  | [], _, _ => rfl
  | (x, kd) :: r, n, acc => by
    unfold cellsFrom
    by_cases c : (kd == NameKind.cell) = true
    · rw [if_pos c, if_pos c, cells_app r (n + 1) ((x, n) :: acc), cells_app r (n + 1) [(x, n)], List.append_assoc]
      rfl
    · rw [if_neg c, if_neg c]
      exact cells_app r n acc
/-- the frame of such a def: its own cells, then the cell of its class -/
abbrev envS (qual : Str) (sc : Scope) (L f cc : Addr) (cd : Value) : Env := PySem.W.envX qual sc L f cd (cellsFrom (L + 1) sc.names [] ++ [(("__class__" : Str), cc)])
variable {M : Model} {A : Around} {E : Value → Shared → Prop}
theorem look_app {C D : List (Str × Addr)} {n : Str} {c : Addr} (h : C.lookup n = some c) : (C ++ D).lookup n = some c := by
  rw [List.lookup_append, h]
  rfl
section
variable {b0 st : Shared} {ml mc : Str → Option Value} {ev : Env} {C : List (Str × Addr)} {n : Str} {u : Value}
theorem put_loc {R : Unit → Shared → Prop} (x : InCallC b0 ev.locals ml C mc st) (kf : ev.scope.kind = .function) (kn : ev.kindOf n = some .local)
    (h : ∀ t, InCallC b0 ev.locals (fun y => if y = n then some u else ml y) C mc t → R () t) : wpAny M A (storeName ev n u) R E st := by
  refine wpAny_storeName_local kn x.toInCall.ns (fun g gn sb => h _ ?_) (by rw [kf]; rfl)
  refine ⟨⟨?_, gn, fun b o e => ?_, x.toInCall.fresh⟩, fun k c hc => ?_, x.apart, x.above⟩
  · obtain ⟨g0, tk, e0⟩ := x.toInCall.same
    subst e0
    exact ⟨g, _, rfl⟩
  · have lt := Heap.lt_size e
    have fr := x.toInCall.fresh
    exact sb.extBut b o (Nat.ne_of_lt (Nat.lt_of_lt_of_le lt fr)) (x.toInCall.keep b o e)
  · have ab := x.above k c (mem_of_lookup hc)
    exact (x.cell k c hc).sameBut sb (Nat.ne_of_gt ab)
theorem put_cell {R : Unit → Shared → Prop} {c : Addr} (x : InCallC b0 ev.locals ml C mc st) (kf : ev.scope.kind = .function) (kn : ev.kindOf n = some .cell) (hc : C.lookup n = some c) (he : ev.cells.lookup n = some c)
    (h : ∀ t, InCallC b0 ev.locals ml C (fun y => if y = n then some u else mc y) t → R () t) : wpAny M A (storeName ev n u) R E st := by
  have ab := x.above n c (mem_of_lookup hc)
  refine wpAny_storeName_cell kf kn he (x.cell n c hc) fun g gc sb => h _ ?_
  refine ⟨⟨?_, x.toInCall.ns.sameBut sb (Nat.ne_of_lt ab), fun b o e => ?_, x.toInCall.fresh⟩, fun k c2 hk => ?_, x.apart, x.above⟩
  · obtain ⟨g0, tk, e0⟩ := x.toInCall.same
    subst e0
    exact ⟨g, _, rfl⟩
  · have lt := Heap.lt_size e
    have fr := x.toInCall.fresh
    exact sb.extBut b o (Nat.ne_of_lt (Nat.lt_trans (Nat.lt_of_lt_of_le lt fr) ab)) (x.toInCall.keep b o e)
  · by_cases q : k = n
    · subst q
      rw [hc] at hk
      cases hk
      simpa using gc
    · rw [if_neg q]
      exact (x.cell k c2 hk).sameBut sb fun z => q (name_of_addr x.apart (mem_of_lookup hk) (z ▸ mem_of_lookup hc))
theorem put_all (f : Str × Value → PUnit → Sem (ForInStep PUnit)) (hf : ∀ y v u, f (y, v) u = (do storeName ev y v; pure (.yield ⟨⟩))) (kf : ev.scope.kind = .function) (sub : ∀ y c, C.lookup y = some c → ev.cells.lookup y = some c) :
    ∀ (bs : List (Str × Value)) (ml mc : Str → Option Value) (st : Shared) (R : PUnit → Shared → Prop), InCallC b0 ev.locals ml C mc st →
      (∀ y ∈ bs, ev.kindOf y.1 = some .local ∨ (ev.kindOf y.1 = some .cell ∧ ∃ c, C.lookup y.1 = some c)) →
      (∀ t, InCallC b0 ev.locals (bindL ev.kindOf bs ml) C (bindC ev.kindOf bs mc) t → R ⟨⟩ t) → wpAny M A (forIn bs ⟨⟩ f) R E st
  | [], _, _, st, _, x, _, h => by
    rw [List.forIn_nil]
    exact wpAny_pure (h st x)
  | (y, v) :: r, ml, mc, st, R, x, kd, h => by
    have kr := fun z hz => kd z (List.mem_cons_of_mem _ hz)
    rw [List.forIn_cons, hf]
    rcases kd (y, v) List.mem_cons_self with l | ⟨l, c, hc⟩
    · refine wpAny_bind (wpAny_bind (put_loc x kf l fun t xt => wpAny_pure (put_all f hf kf sub r _ _ t R xt kr fun t2 x2 => h t2 ?_)))
      unfold bindL bindC
      rw [if_pos l, if_pos l]
      exact x2
    · have nl : ¬ ev.kindOf y = some .local := by
        rw [show ev.kindOf y = some .cell from l]
        decide
      refine wpAny_bind (wpAny_bind (put_cell x kf l hc (sub y c hc) fun t xt => wpAny_pure (put_all f hf kf sub r _ _ t R xt kr fun t2 x2 => h t2 ?_)))
      unfold bindL bindC
      rw [if_neg nl, if_neg nl]
      exact x2
end
theorem env_new {st : Shared} {sc : Scope} {gl : Addr} {bs : List (Str × Value)} {qual : Str} {fu : Option Addr} {cd : Value} {bl : Addr} {R : Env → Shared → Prop} {D : List (Str × Addr)} (kf : sc.kind = .function)
    (kd : ∀ y ∈ bs, sc.names.lookup y.1 = some .local ∨ (sc.names.lookup y.1 = some .cell ∧ ∃ c, (cellsFrom (st.heap.objs.size + 1) sc.names []).lookup y.1 = some c))
    (h : ∀ ev, ev = newEnv sc st.heap.objs.size gl (cellsFrom (st.heap.objs.size + 1) sc.names [] ++ D) qual fu cd none bl →
      ∀ t, InCallC st ev.locals (bindL ev.kindOf bs fun _ => none) (cellsFrom (st.heap.objs.size + 1) sc.names []) (bindC ev.kindOf bs fun _ => none) t → R ev t) :
    wpAny M A (newFunctionEnv sc gl D bs qual fu cd none bl) R E st := by
  simp only [newFunctionEnv, Option.isSome_none, Bool.false_eq_true, if_false]
  refine wpAny_bind (wpAny_alloc ?_)
  have sz : ({ st with heap := st.heap.push { cls := .type "frame", data := .dict #[] } } : Shared).heap.objs.size = st.heap.objs.size + 1 := Heap.size_push ..
  refine wpAny_bind (wpAny_layCells _ (fun x k cs => by cases q : k == NameKind.cell <;> simp) _ _ _ _ ?_)
  have ok := cellsFrom_ok sc.names (st.heap.push { cls := .type "frame", data := .dict #[] }) (st.heap.objs.size + 1) [] ⟨fun _ _ z => (nomatch z), List.Pairwise.nil⟩ (by rw [Heap.size_push]; exact Nat.le_refl _)
  rw [Heap.size_push] at ok
  rw [sz, cells_app]
  refine wpAny_bind (put_all (b0 := st) (C := cellsFrom (st.heap.objs.size + 1) sc.names []) (ev := newEnv sc st.heap.objs.size gl (cellsFrom (st.heap.objs.size + 1) sc.names [] ++ D) qual fu cd none bl)
    _ (fun _ _ _ => rfl) kf (fun y c z => look_app z) bs (fun _ => none) (fun _ => none) _ _ ?_ kd fun t x => wpAny_pure (h _ rfl t x))
  have keep := fun b o (e : st.heap.get? b = some o) => pushCells_keeps sc.names _ b o (Heap.get?_push_of_some { cls := .type "frame", data := .dict #[] } e)
  exact ⟨⟨⟨_, _, rfl⟩, (Heap.Ns.new st.heap (.type "frame")).keeps (pushCells_keeps _ _), keep, Nat.le_refl _⟩, fun y c z => (ok.empty y c (mem_of_lookup z)).1, ok.apart, fun y c z => (ok.empty y c z).2⟩
structure ScopeS (N P : List Str) (sc : Scope) : Prop where
  kind : sc.kind = .function
  co : sc.isCoroutine = false
  gen : sc.isGenerator = false
  nd : N.Nodup
  pre : N.take P.length = P
  par : ∀ x ∈ P, sc.names.lookup x = some .local ∨ sc.names.lookup x = some .cell
  fr : ∀ y ∈ sc.names, y.2 = .free → y.1 = ("__class__" : Str)
/-- the context of its body at the entry -/
def cxS (CX : CXT) (P : Program) (w : World) (K : PySem.W.Frag) (mg : Str → Option Value) (base : Heap) (N : List Str) (qual : Str) (sc : Scope) (f cc : Addr) (cd : Value) (A : Around) (outer : List Env) (s : Shared) (H : Hp) (E : XK) : Cx where
  prog := P
  w := w
  K := K
  mg := mg
  base := base
  A := A.deeper (envS qual sc s.heap.objs.size f cc cd)
  N := N
  s_0 := s
  H_0 := H
  env := envS qual sc s.heap.objs.size f cc cd
  outer := outer
  stack := envS qual sc s.heap.objs.size f cc cd :: outer
  ex := []
  calm := true
  fn := fun y => !(y == ("__class__" : Str))
  pn := []
  xe := fun e t => wpAny (model P w) (A.deeper (envS qual sc s.heap.objs.size f cc cd)) (leaving (envS qual sc s.heap.objs.size f cc cd) e) (fun _ t2 => CX outer H s E e t2) (fun e2 t2 => CX outer H s E e2 t2) t
theorem look_two {C : List (Str × Addr)} {x y : Str} {c d : Addr} (h : (C ++ [(x, d)]).lookup y = some c) : C.lookup y = some c ∨ (y = x ∧ c = d) := by
  rw [List.lookup_append] at h
  cases e : C.lookup y with
  | some z =>
    rw [e] at h
    exact .inl h
  | none =>
    rw [e] at h
    have h : List.lookup y [(x, d)] = some c := h
    have m := mem_of_lookup h
    have m := List.mem_singleton.mp m
    cases m
    exact .inr ⟨rfl, rfl⟩
section
variable {CX : CXT} {P : Program} {w : World} {K : PySem.W.Frag} {mg : Str → Option Value} {base : Heap} {N ps : List Str} {qual : Str} {sc : Scope} {f cc D : Addr} {cd : Value} {A : Around} {outer : List Env} {s s1 : Shared} {H : Hp} {E : XK} {us : List Value} {vs : List V}
theorem inv_startS {cl : Value} {cld : Option Addr} {csl : Array (Option Value)} (S : ScopeS N ps sc) (hd : A.handled = none) (e0 : Env0 P w K mg base A outer s H) (kc : K.lookup cc = some ⟨cl, cld, .cell (some (.ref D)), csl⟩) (hl : vs.length = ps.length) (r : Vals vs us)
    (x : InCallC s s.heap.objs.size (bindL (envS qual sc s.heap.objs.size f cc cd).kindOf (ps.zip us) fun _ => none) (cellsFrom (s.heap.objs.size + 1) sc.names []) (bindC (envS qual sc s.heap.objs.size f cc cd).kindOf (ps.zip us) fun _ => none) s1) :
    Inv (cxS CX P w K mg base N qual sc f cc cd A outer s H E) [] (start N vs) H s1 := by
  have pn : ps.length ≤ N.length := by
    have q := congrArg List.length S.pre
    rw [List.length_take] at q
    omega
  obtain ⟨h1, tk, rfl, hk⟩ := x.done
  have none' : ∀ b : Addr, b ∉ (cxS CX P w K mg base N qual sc f cc cd A outer s H E).ex := fun b z => absurd (show b ∈ ([] : List Addr) from z) (by simp)
  have kb := e0.mod.kin _ _ kc
  have cb := (e0.bs _ _ kb).1
  have clt : cc < s.heap.objs.size := Heap.lt_size cb
  have two : ∀ y c, (cxS CX P w K mg base N qual sc f cc cd A outer s H E).env.cells.lookup y = some c → (cellsFrom (s.heap.objs.size + 1) sc.names []).lookup y = some c ∨ (y = ("__class__" : Str) ∧ c = cc) := fun y c h => look_two h
  refine ⟨⟨e0.mod, S.kind, rfl, rfl, Nat.le_refl _, fun y z c q1 q2 => ?_, fun y hy => ?_, fun y c hf h => ?_, fun _ => hd, Around.frames_deeper e0.frames, .inr ⟨rfl, rfl⟩, fun b z => absurd z (none' b), e0.bs, e0.bsz, fun b _ _ => none' b, fun b z => absurd z (none' b), e0.funs, e0.frf⟩,
    rfl, e0.bare, Un.kept hk, ⟨_, x.toInCall.ns, fun i y v q1 q2 q3 => ?_⟩, fun y c h => ?_, e0.hok.fresh (Nat.le_refl _), fun y c h => ?_, fun p hp => absurd (show p ∈ ([] : List (Addr × Obj)) from hp) (by simp), e0.hok.kept hk, ?_⟩
  · rcases two y c q1 with a1 | ⟨a1, a2⟩
    · rcases two z c q2 with b1 | ⟨b1, b2⟩
      · exact name_of_addr x.apart (mem_of_lookup a1) (mem_of_lookup b1)
      · have ab := x.above y c (mem_of_lookup a1)
        rw [b2] at ab
        exact absurd (Nat.lt_trans clt ab) (Nat.lt_irrefl _)
    · rcases two z c q2 with b1 | ⟨b1, b2⟩
      · have ab := x.above z c (mem_of_lookup b1)
        rw [a2] at ab
        exact absurd (Nat.lt_trans clt ab) (Nat.lt_irrefl _)
      · rw [a1, b1]
  · have hy : sc.names.lookup y = some .cell ∨ sc.names.lookup y = some .free := hy
    rcases hy with hy | hy
    · obtain ⟨c, e⟩ := cell_has (n := s.heap.objs.size + 1) hy
      exact ⟨c, look_app e⟩
    · have e := S.fr _ (mem_of_lookup hy) rfl
      have e : y = ("__class__" : Str) := e
      subst e
      show ∃ c, (cellsFrom (s.heap.objs.size + 1) sc.names [] ++ [(("__class__" : Str), cc)]).lookup ("__class__" : Str) = some c
      rw [List.lookup_append]
      cases q : (cellsFrom (s.heap.objs.size + 1) sc.names []).lookup ("__class__" : Str) with
      | some c => exact ⟨c, rfl⟩
      | none => exact ⟨cc, by simp [List.lookup]⟩
  · rcases two y c h with a1 | ⟨a1, a2⟩
    · exact Nat.le_of_lt (x.above y c (mem_of_lookup a1))
    · subst a1
      have hf : (!(("__class__" : Str) == ("__class__" : Str))) = true := hf
      rw [beq_self_eq_true] at hf
      cases hf
  · have hi : i < vs.length := by
      refine Classical.byContradiction fun hi => ?_
      unfold L2.start at q2
      rw [List.getElem?_append_right (by rw [List.length_map]; omega), List.getElem?_replicate] at q2
      split at q2 <;> cases q2
    have ha : vs[i]? = some v := by
      unfold L2.start at q2
      rw [List.getElem?_append_left (by rw [List.length_map]; exact hi), List.getElem?_map, List.getElem?_eq_getElem hi] at q2
      rw [List.getElem?_eq_getElem hi]
      exact Option.some.inj q2
    obtain ⟨u, hu, rv⟩ := r.get ha
    have hp : ps[i]? = some y := by
      rw [← S.pre, List.getElem?_take_of_lt (by omega)]
      exact q1
    have ndP : ps.Nodup := by
      rw [← S.pre]
      exact S.nd.sublist (List.take_sublist _ _)
    refine ⟨u, rv, ?_⟩
    rcases S.par y (List.mem_of_getElem? hp) with k | k
    · exact .inl ⟨k, bindL_get ndP hp hu k⟩
    · obtain ⟨c, e⟩ := cell_has (n := s.heap.objs.size + 1) k
      have q := x.cell y c e
      rw [bindC_get ndP hp hu (by show sc.names.lookup y ≠ _; rw [k]; decide)] at q
      exact .inr ⟨.inl k, c, look_app e, q⟩
  · rcases two y c h with a1 | ⟨_, a2⟩
    · exact ⟨_, x.cell y c a1⟩
    · rw [a2]
      exact ⟨_, _, hk _ _ cb, rfl⟩
  · rcases two y c h with a1 | ⟨_, a2⟩
    · exact e0.hok.fresh (Nat.le_of_lt (x.above y c (mem_of_lookup a1)))
    · rw [a2]
      exact (e0.bs _ _ kb).2
  · unfold L2.start
    show _ = N.length
    rw [List.length_append, List.length_map, List.length_replicate]
    omega
end
/-- statements run where the innermost code is known -/
structure PAt (X : Cx) (c : Code) (ss : List Stmt) (t : TS) : Prop where
  run : ∀ (pins : List (Addr × Obj)) (s : Shared) (σ : L2.St) (H : Hp) (D : Ends), Inv X pins σ H s → t D σ H → _root_.PySem.wpAt (model X.prog X.w) X.A c (execs ss X.env) (SP X pins D) X.xe s
theorem pat_cons {X : Cx} {c : Code} {st : Stmt} {ss : List Stmt} {t u : TS} (h : PS X st t) (r : PAt X c ss u) : PAt X c (st :: ss) (tSeq t u) := by
  refine ⟨fun pins s σ H D I q => ?_⟩
  refine ks_wpAt_execs_cons (wpAt_of_wpAny (thn (h.run pins s σ H { D with nx := u D } I q) fun f s1 z => ?_))
  cases f with
  | next =>
    obtain ⟨σ', H', I', z⟩ := z
    exact r.run pins s1 σ' H' D I' z
  | ret v => exact z
  | brk => exact z
  | cont => exact z
/-- such a def as it stands behind the top -/
structure FunS (K : PySem.W.Frag) (x qual : Str) (st : Stmt) (f D cc cda : Addr) (fd : FuncData) : Prop where
  ex : ∃ (oc : Value) (od : Option Addr) (kV doc pm : Value) (an : Option Addr) (ct : Value) (osl : Array (Option Value)),
    fd = PySem.W.fnX x qual (defArgs st) (defBody st) (defScope st) [(("__class__" : Str), cc)] .none kV doc pm an (.ref cda) ct ∧ K.lookup f = some ⟨oc, od, .func fd, osl⟩
  rec' : PySem.W.codeIn K (.ref cda) qual = true
  cell : ∃ (cl : Value) (cld : Option Addr) (csl : Array (Option Value)), K.lookup cc = some ⟨cl, cld, .cell (some (.ref D)), csl⟩
  kp : PySem.W.keepIn K (.ref f) = true
section
variable {CX : CXT} {P : Program} {w : World} {K : PySem.W.Frag} {mg : Str → Option Value} {base : Heap}
theorem FunS.ok {x qual : Str} {st : Stmt} {f D cc cda : Addr} {fd : FuncData} {N ps : List Str} {k : Nat} {sp : Sp} (F : FunS K x qual st f D cc cda fd) (S : ScopeS N ps (defScope st)) (len : ∀ vs H Q E, sp vs H Q E → vs.length = ps.length)
    (hb : ∀ (A : Around) (outer : List Env) (s : Shared) (H : Hp) (vs : List V) (Q : VK) (E : XK), Room k (A.deeper (envS qual (defScope st) s.heap.objs.size f cc (.ref cda))) → sp vs H Q E →
      ∃ t, PAt (cxS CX P w K mg base N qual (defScope st) f cc (.ref cda) A outer s H E) (.func (defBody st) (envS qual (defScope st) s.heap.objs.size f cc (.ref cda))) (defBody st) t ∧ t { nx := fun _ H2 => Q .non H2, rt := Q } (L2.start N vs) H) :
    FnOk P w K mg base CX (k + 1) f fd ps sp := by
  obtain ⟨oc, od, kV, doc, pm, an, ct, osl, rfl, lk⟩ := F.ex
  obtain ⟨cl, cld, csl, kc⟩ := F.cell
  refine ⟨len, fun A outer s H args us vs Q E hr e0 bd r hsp => ?_⟩
  have hl := len _ _ _ _ hsp
  have KX : K.In s.heap := e0.mod.kin.keeps fun b o e => (e0.bs b o e).1
  have lim : s.heap.NoLimit := e0.mod.nolimit.keeps fun b o e => (e0.bs b o e).1
  refine codeAny_call_function hr.depth (KX _ _ lk) rfl S.co S.gen rfl (PySem.W.codeRec_of KX F.rec') (bd _ _ _ _ ?_)
  refine env_new (D := [(("__class__" : Str), cc)]) S.kind (fun ⟨n, v⟩ hy => ?_) fun env he s1 x => ?_
  · rcases S.par n (List.of_mem_zip hy).1 with q | q
    · exact .inl q
    · exact .inr ⟨q, cell_has q⟩
  subst he
  refine ⟨lim.keeps x.toInCall.keep, PySem.ks_codeAny_funcAt ?_⟩
  obtain ⟨t, ht, hq⟩ := hb A outer s H vs Q E (hr.deeper _) hsp
  have I : Inv (cxS CX P w K mg base N qual (defScope st) f cc (.ref cda) A outer s H E) [] (L2.start N vs) H s1 := inv_startS S hr.hd e0 kc hl r x
  refine PySem.ks_wpAt_mono (ht.run [] s1 (L2.start N vs) H _ I hq) (fun fl s2 z => ?_) fun e s2 z => z
  have fin : ∀ {σ2 : L2.St} {H2 : Hp} {v : V} {u : Value}, Inv (cxS CX P w K mg base N qual (defScope st) f cc (.ref cda) A outer s H E) [] σ2 H2 s2 → RelV v u → Q v H2 → CE outer P w H s Q u s2 :=
    fun {σ2 H2 v u} J rv q => ⟨v, H2, J.os, J.bare, J.base, J.hok, rv, q⟩
  cases fl with
  | ret u =>
    obtain ⟨v, σ2, H2, J, rv, q⟩ := z
    exact fin J rv q
  | next =>
    obtain ⟨σ2, H2, J, q⟩ := z
    exact fin (v := V.non) (u := Value.none) J rfl q
  | brk =>
    obtain ⟨_, _, _, q⟩ := z
    exact False.elim q
  | cont =>
    obtain ⟨_, _, _, q⟩ := z
    exact False.elim q
end
/-- what of the text super().m(..) asks, in the def f of the class at D whose next m is g -/
structure Sup (K : PySem.W.Frag) (f D cc cda g : Addr) (fd : FuncData) (x m file : Str) : Prop where
  fn : ∃ (oc : Value) (od : Option Addr) (osl : Array (Option Value)), K.lookup f = some ⟨oc, od, .func fd, osl⟩
  hd : ∃ ar : Arg, (fd.params.posonlyargs ++ fd.params.args).head? = some ar ∧ ar.arg = x
  code : ∃ (a : Value) (b : Option Addr) (vs : Array Value) (c : Array (Option Value)) (tf : Tok), K.lookup cda = some ⟨a, b, .fields vs, c⟩ ∧ vs[2]? = some (.str file tf)
  cell : ∃ (cl : Value) (cld : Option Addr) (csl : Array (Option Value)), K.lookup cc = some ⟨cl, cld, .cell (some (.ref D)), csl⟩
  cls : PySem.W.isClsIn K D = true
  sub : PySem.W.mroIn K D (.ref D) = some true
  nxt : PySem.W.ks_superIn K D D m = some (some (.ref g))
  ty : PySem.W.typeIn K (.ref g) = some (.type "function")
  tp : PySem.W.nsIn K cStatics "thirdparty.any" = some none
def tSup (D : Addr) (sp : Sp) (E : XK) (t : TA) : TS := fun Dn σ H => ∃ a dx fs, σ[0]? = some (some (.ref a)) ∧ H a = some (.ins D dx fs) ∧ t σ H fun vs H1 => sp (.ref a :: vs) H1 (fun _ H2 => Dn.nx σ H2) E
section
variable {X : Cx} {CX : CXT} {body : List Stmt} {f D cc cda g : Addr} {fd gd : FuncData} {x m file : Str} {k : Nat} {ps : List Str} {sp : Sp} {E : XK} {e : Expr} {es : List Expr} {t : TA} {p0 p1 apos pos pos2 : Pos} {pl : Sem Bool}
theorem pat_super (U : Sup X.K f D cc cda g fd x m file) (F : FnOk X.prog X.w X.K X.mg X.base CX k g gd ps sp) (hr : Room k X.A) (hb : Binds X.K gd ps []) (hx : Passes CX X E) (hgf : PySem.W.fnIn X.K g = true) (ha : PA X (e :: es) t)
    (h0 : X.N[0]? = some x) (hl : X.env.kindOf x = some .local) (hks : X.env.kindOf "super" = some .globalImplicit) (hkc : X.env.kindOf "__class__" = some .free) (hcl : X.env.cells.lookup ("__class__" : Str) = some cc)
    (hfu : X.env.func = some f) (hco : X.env.code = .ref cda) (hmg : X.mg "super" = none) (hfile : (X.prog.main.file == file) = true) (htop : (X.prog.main.scope.names.lookup ("super" : Str)).isSome = false)
    (hat : (m == ("__class__" : Str)) = false) (hst : starEach (e :: es) X.env = (false, eval e X.env) :: starEach es X.env) (hpl : (backTo pos (starEach es X.env)).any (·.1) = false)
    (hsw : swapsWith (.Call (.Attribute (.Call (.Name "super" p0) [] [] p1) m apos) (e :: es) [] pos) none pos2.line X.env = pure false)
    (he : eval (.Call (.Attribute (.Call (.Name "super" p0) [] [] p1) m apos) (e :: es) [] pos) X.env = (do
      let ov ← attributeBase (.Call (.Name "super" p0) [] [] p1) m X.env (eval (.Call (.Name "super" p0) [] [] p1) X.env)
      standAt apos.atName
      let (f, first) ← holding [ov] (getMethod ov m pl)
      callWith pos f first (backTo pos (starEach (e :: es) X.env)) [])) :
    PAt X (.func body X.env) [.Expr (.Call (.Attribute (.Call (.Name "super" p0) [] [] p1) m apos) (e :: es) [] pos) pos2] (tSup D sp E t) := by
  refine ⟨fun pins s σ H Dn I h => ?_⟩
  obtain ⟨a, dx, fs, hs0, ha0, q⟩ := h
  obtain ⟨oc, od, osl, lf⟩ := U.fn
  obtain ⟨ar, har, rfl⟩ := U.hd
  obtain ⟨ka, kb, kv, kc, tf, lc, hv2⟩ := U.code
  obtain ⟨cl, cld, csl, lcell⟩ := U.cell
  obtain ⟨cd, hcd⟩ := Option.isSome_iff_exists.mp (show (PySem.W.clsIn X.K D).isSome = true from U.cls)
  obtain ⟨hh, gg, dd, tk, os⟩ := s
  have KX : X.K.In hh := I.kIn
  obtain ⟨oD, hD, hDc⟩ : ∃ oD, hh.get? D = some oD ∧ oD.data = .cls cd := by
    unfold PySem.W.clsIn at hcd
    split at hcd
    · rename_i c1 c2 c3 c4 ho
      cases hcd
      exact ⟨_, KX _ _ ho, rfl⟩
    · cases hcd
  obtain ⟨mA, O, _⟩ := ins_get I.hok ha0
  have naD : a ≠ D := fun z => by
    have o := O.obj
    have o : hh.get? a = some (PySem.W.instObj D dx) := o
    rw [z, hD] at o
    cases o
    cases hDc
  refine PySem.ks_wpAt_execs_cons (PySem.ks_wpAt_Expr_any ?_ I.quiet hsw)
  refine PySem.ks_wpAt_MethodCall (pl := pl) ?_ he
  refine PySem.ks_wpAt_super_base hks hkc hat hfu (KX _ _ lf) rfl har hco (KX _ _ lc) rfl hv2 hfile htop ?_
  obtain ⟨mb, b1, b2⟩ := I.mod.blt
  have gns : hh.Ns X.env.globals X.mg := by
    rw [I.ok.glob]
    exact I.mod.glob.keeps I.bk
  have bns : hh.Ns X.env.builtins mb := by
    rw [I.ok.blt]
    exact b1.keeps I.bk
  refine PySem.W.ks_loadName_global I.ok.kind hks (Calls.loadGlobal_builtin gns hmg bns ((b2 "super" (by decide)).trans (by decide +kernel : bootBuiltins "super" = some (.type "super"))) ⟨rfl, ?_⟩)
  refine wpAny_loadName_free I.ok.kind hkc hcl ⟨_, KX _ _ lcell, rfl⟩ ?_
  obtain ⟨m0, n0, at0⟩ := I.loc
  obtain ⟨u, ru, lu⟩ := at0 0 _ _ h0 hs0 (.inl hl)
  obtain rfl : u = Value.ref a := ru
  have hm0 : m0 ar.arg = some (.ref a) := by
    rcases lu with ⟨_, z⟩ | ⟨z, _⟩
    · exact z
    · rw [hl] at z
      rcases z with z | z <;> cases z
  refine wpAny_loadName_local I.ok.kind hl n0 hm0 ?_
  refine PySem.ks_wpAny_isType_cls hD hDc ⟨rfl, ?_⟩
  refine PySem.ks_wpAny_call_super hD hDc O.obj rfl (fun c z => nomatch z) (PySem.W.looks_mroIn KX U.sub) (fun h2 e2 k2 => ?_)
  have KX2 : X.K.In h2 := KX.keeps k2
  have hal : PySem.W.alongIn X.K m ((cd.mro.dropWhile (· != .ref D)).drop 1) = some (some (.ref g)) := by
    have z := U.nxt
    unfold PySem.W.ks_superIn at z
    rw [hcd] at z
    exact z
  obtain ⟨og, hg1, hg2⟩ : ∃ og, h2.get? g = some og ∧ og.cls = .type "function" := by
    have z : (X.K.lookup g).map (·.cls) = some (.type "function") := U.ty
    cases q : X.K.lookup g with
    | none => rw [q] at z; cases z
    | some o => rw [q] at z; exact ⟨o, KX2 _ _ q, Option.some.inj z⟩
  refine PySem.ks_wpAny_getMethod_super e2 (PySem.W.looks_opaque KX2 U.tp) ((PySem.W.looks_clsIn KX2 hcd).andThen .now) rfl KX2 hal hg1 hg2 naD hat ?_
  have I2 : Inv X pins σ H ⟨h2, gg, dd, tk, os⟩ := I.kept (t' := tk) k2
  have I3 := ClX.met_new (g := g) (C := a) I2
  refine ClX.callwith_cm I3 (ClX.base_none I2 (Nat.le_refl _)) hgf (thn (ha.run pos _ _ σ H _ I3 q) fun us s1 ⟨vs, H1, I4, r, q1⟩ => ⟨⟨ClX.pin_at I4, I4.kIn⟩, ?_⟩) hst hpl
  have ln : (Value.ref a :: us ++ []).length = ps.length := by
    rw [List.append_nil]
    have z := F.len _ _ _ _ q1
    rw [← z, List.length_cons, List.length_cons, r.length]
  have bd := hb s1 (.ref a :: us) I4.kIn ln
  rw [List.append_nil] at bd
  refine wpAny_call (PySem.W.method_call (ClX.pin_at I4) (codeAny_mono (F.run X.A X.stack s1 H1 ⟨.ref a :: us, []⟩ (.ref a :: us) (.ref a :: vs) _ E hr I4.env0 bd (.cons rfl r) q1) fun rs s3 z => ?_))
  cases rs with
  | error ex => exact hx _ σ H1 s1 ex s3 I4 z
  | ok fl =>
    cases fl with
    | ret u3 =>
      obtain ⟨v3, H3, I5, _, q3⟩ := I4.after z
      exact wpAt_of_wpAny (wpAny_execs_nil ⟨σ, H3, ClX.unpin I5, q3⟩)
    | next => exact False.elim z
    | brk => exact False.elim z
    | cont => exact False.elim z
end
end
/-! defs that are an __init__ -/
section
variable {P : Program} {w : World} {K : PySem.W.Frag} {mg : Str → Option Value} {base : Heap} {cl : Str → Option Addr}
theorem spI_len {mf : MO → List PV → Res (PV × MO)} {n : Nat} (tk : TaknR n mf) {vs : List V} {H : Hp} {Q : VK} {E : XK} : spI K cl mf vs H Q E → vs.length = n + 1 := fun ⟨O, b, mo, us, qs, e, hb, hO, hm, hl, hw⟩ => by
  rw [e, List.length_cons, hl.len]
  refine Classical.byContradiction fun c => ?_
  rw [tk mo qs (by omega)] at hw
  exact hw
theorem coreI {N : List Str} {n : Nat} {mf : MO → List PV → Res (PV × MO)} (tk : TaknR n mf) {vs : List V} {H : Hp} {Q : VK} {E : XK} {G : TS → Prop}
    (h : ∀ (mo : MO) (qs : List PV), qs.length = n → mf mo qs = .stuck ∨ ∃ t, G t ∧ ∃ M, Runs K cl (fun c d _ H' => E c d H') t (.rf 0 mo :: (qs.map Slot.fz ++ uns (N.length - (n + 1)))) M (fun mo : MO => .rf 0 mo :: uns (N.length - 1)) (fun l : Empty => nomatch l) (uns N.length) ∧ mf mo qs = retR M)
    (hsp : spI K cl mf vs H Q E) : ∃ t, G t ∧ t { nx := fun _ H' => Q .non H', rt := Q } (L2.start N vs) H := by
  have hvn := spI_len tk hsp
  obtain ⟨O, b, mo, us, qs, rfl, hb, hO, hm, hl, hw⟩ := hsp
  have hun : us.length = n := by rw [List.length_cons] at hvn; omega
  have hqn : qs.length = n := by rw [← hl.len]; exact hun
  rcases h mo qs hqn with e | ⟨t, ht, M, hM, e⟩
  · rw [e] at hw; exact hw.elim
  refine ⟨t, ht, ?_⟩
  rw [e] at hw
  have st0 : L2.start N (V.ref b :: us) = some (V.ref b) :: (us.map some ++ List.replicate (N.length - (n + 1)) none) := by
    unfold L2.start
    rw [List.length_cons, hun]
    rfl
  rw [st0]
  have ea : adr (.rf 0 mo :: (qs.map Slot.fz ++ uns (N.length - (n + 1)))) (some (V.ref b) :: (us.map some ++ List.replicate (N.length - (n + 1)) none)) = [b] := congrArg (b :: ·) (fz_adr _ _ _)
  have eo : owa (.rf 0 mo :: (qs.map Slot.fz ++ uns (N.length - (n + 1)))) (some (V.ref b) :: (us.map some ++ List.replicate (N.length - (n + 1)) none)) = [] := fz_owa _ _ _
  have sO : Sub (frz H O) (frz H (O ++ [b])) := frz_less fun a ha => by
    rcases List.mem_append.mp ha with c | c
    · exact c
    · have : a = b := by simpa using c
      rw [this]; exact hb
  have R : Rel K cl O [b] (.rf 0 mo :: (qs.map Slot.fz ++ uns (N.length - (n + 1)))) (some (V.ref b) :: (us.map some ++ List.replicate (N.length - (n + 1)) none)) H := by
    refine ⟨?_, by rw [ea]; simp, hO, by rw [eo]; exact fun _ z => nomatch z⟩
    rw [ea]
    refine .cons ⟨b, rfl, rfl, hm.mono sO fun _ e => e⟩ ?_
    have q := fz_rel (K := K) (cl := cl) (H := H) (N.length - (n + 1)) (hl.mono sO)
    have lift : ∀ {ρ : Ro} {σ : L2.St} {F H : Hp}, RelS K cl [] F H ρ σ → (∀ s ∈ ρ, (∃ p, s = .fz p) ∨ s = .un) → RelS K cl [b] F H ρ σ := fun {ρ σ F H} r => by
      induction r with
      | nil => exact fun _ => .nil
      | cons a r ih =>
        intro hs
        refine .cons ?_ (ih fun s h => hs s (List.mem_cons_of_mem _ h))
        rcases hs _ List.mem_cons_self with ⟨p, rfl⟩ | rfl
        · exact a
        · exact trivial
    refine lift q fun s hs => ?_
    rcases List.mem_append.mp hs with c | c
    · obtain ⟨p, _, rfl⟩ := List.mem_map.mp c
      exact .inl ⟨p, rfl⟩
    · exact .inr (List.eq_of_mem_replicate c)
  have keep : ∀ {A' : List Addr} {H' : Hp}, Gr (adr (.rf 0 mo :: (qs.map Slot.fz ++ uns (N.length - (n + 1)))) (some (V.ref b) :: (us.map some ++ List.replicate (N.length - (n + 1)) none))) H A' H' → ∀ x o, x ≠ b → H x = some o → H' x = some o := fun {A' H'} g x o ne e => g.1 x o (by rw [ea]; simpa using ne) e
  refine hM O [b] _ H _ R (fun a ha => by have : a = b := by simpa using ha
                                          rw [this]; exact hb) (wp_mono (wp_bind.mp hw) (fun fl q => ?_) fun c q C σ' H' e g _ => q C H' e (keep g))
  cases fl with
  | nx mo' =>
    intro σ' H' g R'
    have q' : ∀ v H', (∀ x o, x ≠ b → H x = some o → H' x = some o) → MoIs K cl (frz H' O) H' b mo' → Is K cl (frz H' O) v .non → Q v H' := q
    refine q' .non H' (keep g) ?_ .non
    have r0 : (Slot.rf 0 mo' :: uns (N.length - 1) : Ro)[0]? = some (.rf 0 mo') := rfl
    obtain ⟨x, e, a, rfl, hk, hmo⟩ := R'.sl.get r0
    have : b = a := by simpa using hk
    subst this
    exact hmo.mono (frz_less fun a ha => List.mem_append_left _ ha) fun _ e => e
  | rt v r =>
    match r, q with
    | [mo'], q =>
      have q' : ∀ v' H', (∀ x o, x ≠ b → H x = some o → H' x = some o) → MoIs K cl (frz H' O) H' b mo' → Is K cl (frz H' O) v' v → Q v' H' := q
      exact fun w' H' g i hbm => q' w' H' (keep g) (hbm 0 b mo' rfl rfl) i
  | ro mo => exact q.elim
  | bk l => exact nomatch l
  | ct l => exact nomatch l
open PySem.Spec PyProof.Rows in
theorem fnI {x qual : Str} {st : Stmt} {f : Addr} {fd : FuncData} {N ps : List Str} {k n : Nat} {mf : MO → List PV → Res (PV × MO)} (F : Fun K x qual st f fd) (S : FnScope N ps (defScope st)) (hn : ps.length = n + 1) (tk : TaknR n mf)
    (h : ∀ (cdv : Value) (A : Around) (outer : List Env) (s : Shared) (H : Hp) (E : XK), Room k (A.deeper (envOfC qual (defScope st) s.heap.objs.size f cdv)) → ∀ (mo : MO) (qs : List PV), qs.length = n → mf mo qs = .stuck ∨
      ∃ t, PSs (cxOf (L2.CX P w) P w K mg base N qual (defScope st) f cdv A outer s H E) (defBody st) t ∧ ∃ M, Runs K cl (fun c d _ H' => E c d H') t (.rf 0 mo :: (qs.map Slot.fz ++ uns (N.length - (n + 1)))) M (fun mo : MO => .rf 0 mo :: uns (N.length - 1)) (fun l : Empty => nomatch l) (uns N.length) ∧ mf mo qs = retR M) :
    FnOk P w K mg base (L2.CX P w) (k + 1) f fd ps (spI K cl mf) :=
  F.okX S (fun vs H Q E h => (spI_len tk h).trans hn.symm) fun cdv A outer s H vs Q E hr hsp => coreI tk (h cdv A outer s H E hr) hsp
theorem fnIS {x qual : Str} {st : Stmt} {f D cc cda : Addr} {fd : FuncData} {N ps : List Str} {k n : Nat} {mf : MO → List PV → Res (PV × MO)} (F : FunS K x qual st f D cc cda fd) (S : ScopeS N ps (defScope st)) (hn : ps.length = n + 1) (tk : TaknR n mf)
    (h : ∀ (A : Around) (outer : List Env) (s : Shared) (H : Hp) (E : XK), Room k (A.deeper (envS qual (defScope st) s.heap.objs.size f cc (.ref cda))) → ∀ (mo : MO) (qs : List PV), qs.length = n → mf mo qs = .stuck ∨
      ∃ t, PAt (cxS (L2.CX P w) P w K mg base N qual (defScope st) f cc (.ref cda) A outer s H E) (.func (defBody st) (envS qual (defScope st) s.heap.objs.size f cc (.ref cda))) (defBody st) t ∧ ∃ M, Runs K cl (fun c d _ H' => E c d H') t (.rf 0 mo :: (qs.map Slot.fz ++ uns (N.length - (n + 1)))) M (fun mo : MO => .rf 0 mo :: uns (N.length - 1)) (fun l : Empty => nomatch l) (uns N.length) ∧ mf mo qs = retR M) :
    FnOk P w K mg base (L2.CX P w) (k + 1) f fd ps (spI K cl mf) :=
  F.ok S (fun vs H Q E h => (spI_len tk h).trans hn.symm) fun A outer s H vs Q E hr hsp => coreI tk (h A outer s H E hr) hsp
end
/-! ### super().__init__, methods of the thing under way -/
section
variable {K : PySem.W.Frag} {cl : Str → Option Addr} {F G : Hp}
theorem rd_ne {b a c dx : Addr} {fs : List (Str × V)} {vs : List V} (hF : F b = some (.ins c dx fs)) (s : ∀ x o, x ≠ b → F x = some o → G x = some o) (h : Rd F a (.tup vs)) : Rd G a (.tup vs) := by
  have n : a ≠ b := fun z => by
    subst z
    rcases h with h | ⟨o, h⟩ <;> rw [hF] at h <;> cases h
  rcases h with h | ⟨o, h⟩
  · exact .inl (s _ _ n h)
  · exact .inr ⟨o, s _ _ n h⟩
/-- a value that holds no thing: a number, a truth, None, a tuple of numbers -/
def flR : PV → Res PV
  | .int i => .val (.int i)
  | .bl b => .val (.bl b)
  | .non => .val .non
  | .tup ps => match allI ps with
    | some _ => .val (.tup ps)
    | none => .stuck
  | _ => .stuck
theorem isL_ints : ∀ {is : List Int} {vs : List V}, IsL K cl F vs (is.map PV.int) → IsL K cl G vs (is.map PV.int)
  | [], _, .nil => .nil
  | _ :: _, _, .cons (.int i) r => .cons (.int i) (isL_ints r)
theorem flR_move {b c dx : Addr} {fs : List (Str × V)} {v : V} {r : PV} {Q : PV → Prop} {E : Str → Prop} (q : wp (flR r) Q E) (hF : F b = some (.ins c dx fs)) (s : ∀ x o, x ≠ b → F x = some o → G x = some o) (h : Is K cl F v r) : Q r ∧ Is K cl G v r := by
  cases r with
  | int i => cases h; exact ⟨q, .int i⟩
  | bl i => cases h; exact ⟨q, .bl i⟩
  | non => cases h; exact ⟨q, .non⟩
  | tup ps =>
    unfold flR at q
    dsimp only at q
    split at q
    · next is e =>
      have e2 := allI_eq e
      subst e2
      cases h with
      | tup h l => exact ⟨q, .tup (h.imp (rd_ne hF s) id) (isL_ints l)⟩
    · exact q.elim
  | _ => exact q.elim
end
section
variable {K : PySem.W.Frag} {cl : Str → Option Addr} {W : WX} {bs O A A1 B : List Addr} {F H H' H1 : Hp} {ρ ρ' ρx ρh : Ro} {σ : St} {S S1 S2 L : Type} {ρs : S → Ro} {ρn : S1 → Ro} {ρl : L → Ro} {D : Ends} {t u v tb t1 t2 : TS} {te ta tc td : TE} {m ma mb : Res PV} {tr : TA} {ml : Res (List PV)}
def supP (C : Str) (mo : MO) (ml : Res (List PV)) (mf : MO → List PV → Res (PV × MO)) : Res (Fl MO L) := match mo with
  | .ob C' fs => if C' = C then ml >>= fun ps => noX (mf (.ob C' fs) ps) >>= fun r => .val (.nx r.2) else .stuck
  | _ => .stuck
theorem run_super {ρs' : MO → Ro} {C : Str} {c : Addr} {k : Nat} {mo : MO} {ρt : Ro} {E : XK} {mf : MO → List PV → Res (PV × MO)} (hc : cl C = some c) (hl : PurL K cl W tr (.rf k mo :: ρt) ml) (w : Wk (.rf k mo :: ρt) ρx) (w2 : ∀ mo', Wk (.rf k mo' :: ρt) (ρs' mo')) :
    Runs K cl W (tSup c (spI K cl mf) E tr) (.rf k mo :: ρt) (supP (L := L) C mo ml mf) ρs' ρl ρx := fun O bs σ H D R hb q => by
  unfold supP at q
  split at q
  · next C' fs =>
    split at q
    · next e =>
      subst e
      have r0 : (Slot.rf k (.ob C' fs) :: ρt : Ro)[0]? = some (.rf k (.ob C' fs)) := rfl
      obtain ⟨x, e, a, rfl, hk, c', dx, vs, h0, h1, h2⟩ := R.sl.get r0
      rw [hc] at h0
      cases h0
      refine ⟨a, dx, vs, e, h1, hl O bs σ H _ R (wp_mono (wp_bind.mp q) (fun ps qs us H1 s1 i1 => ?_) fun _ z => z.xw R w)⟩
      have R1 := R.same s1
      have ma : a ∈ O ++ adr (.rf k (.ob C' fs) :: ρt) σ := List.mem_append_right _ (adr_at r0 e (.inr ⟨k, _, rfl⟩))
      refine ⟨O ++ adr (.rf k (.ob C' fs) :: ρt) σ, a, .ob C' fs, us, ps, rfl, ma, fun b hb => R1.got hb, ⟨c, dx, vs, hc, s1 _ _ h1, h2.mono (frz_same s1)⟩, i1, wp_mono (wp_noX (E' := fun _ => False) (wp_bind.mp qs)) (fun r qr v H' hk' hm iv => ?_) fun _ z => z.elim⟩
      obtain ⟨o, ho⟩ := hm.got
      obtain ⟨R3, g3⟩ := R1.putH (m' := r.2) hk' ⟨o, ho⟩ r0 (.inr ⟨k, rfl⟩) e hm
      have g := (Gr.of (A := adr (.rf k (.ob C' fs) :: ρt) σ) s1).trans g3
      exact qr σ H' (g.trans (Gr.wk (w2 r.2))) (R3.wk (w2 r.2))
    · exact q.elim
  · exact q.elim
/-- a method of the thing under way, which gives something that holds no thing -/
theorem pu_methO {C mt : Str} {c : Addr} {i : Nat} {s : Slot} {C' : Str} {fs : List (Str × PV)} {mf : List PV → Res PV} (hc : cl C = some c) (hi : ρ[i]? = some s) (hs : s = .ow (.ob C' fs) ∨ ∃ k, s = .rf k (.ob C' fs)) (hl : PurL K cl W tr ρ ml) :
    Pur K cl W (tMethS' c mt (spP K cl mf) (WE W) (tVar i) tr) ρ ((Res.val (.ins C' fs)) >>= fun x => sel [(C, mf)] mt x >>= fun g => ml >>= fun ps => g (x :: ps) >>= flR) := fun O bs σ H Q R q => by
  have q2 : wp (sel [(C, mf)] mt (.ins C' fs) >>= fun g => ml >>= fun ps => g (.ins C' fs :: ps) >>= flR) (fun r => ∀ v H', Sub H H' → Is K cl (frz H' (O ++ adr ρ σ)) v r → Q v H') (XW cl W σ H) := q
  obtain ⟨fs', e1, e2, hw⟩ := sel_one (wp_bind.mp q2)
  cases e1
  have got : ∃ a dx vs, σ[i]? = some (some (.ref a)) ∧ H a = some (.ins c dx vs) ∧ IsF K cl (frz H (O ++ adr ρ σ)) vs fs := by
    obtain ⟨x, e, q⟩ := R.sl.get hi
    rcases hs with rfl | ⟨k, rfl⟩
    · obtain ⟨a, rfl, c', dx, vs, h0, h1, h2⟩ := q; rw [hc] at h0; cases h0; exact ⟨a, dx, vs, e, h1, h2⟩
    · obtain ⟨a, rfl, _, c', dx, vs, h0, h1, h2⟩ := q; rw [hc] at h0; cases h0; exact ⟨a, dx, vs, e, h1, h2⟩
  obtain ⟨a, dx, vs, ha, hv, hf⟩ := got
  refine ⟨_, ha, a, dx, vs, rfl, hv, hf.nolook e2, hl O bs σ H _ R (wp_mono (wp_bind.mp hw) (fun ps qs us H2 s2 i2 => ?_) fun _ z => z)⟩
  have R2 := R.same s2
  have less : Sub (frz H2 (O ++ adr ρ σ)) (frz H2 ((O ++ adr ρ σ).filter fun x => decide (x ≠ a))) := frz_less fun x hx => (List.mem_filter.mp hx).1
  have na : a ∉ (O ++ adr ρ σ).filter fun x => decide (x ≠ a) := fun z => by have := (List.mem_filter.mp z).2; simp at this
  refine ⟨(O ++ adr ρ σ).filter fun x => decide (x ≠ a), .ins C fs :: ps, fun x hx => R2.got (List.mem_filter.mp hx).1, .cons (.ins hc (frz_some.mpr ⟨na, s2 _ _ hv⟩) ((hf.mono (frz_same s2)).mono less)) (i2.mono less),
    wp_mono (wp_bind.mp qs) (fun r qr v H' s' iv => ?_) fun e qe C' H' he s' => qe C' H' he (s2.trans s')⟩
  obtain ⟨qq, iv'⟩ := flR_move (G := frz H' (O ++ adr ρ σ)) qr (frz_some.mpr ⟨na, s' _ _ (s2 _ _ hv)⟩) (fun x o n e => by
    obtain ⟨nm, e⟩ := frz_some.mp e
    exact frz_some.mpr ⟨fun z => nm (List.mem_filter.mpr ⟨z, by simpa using n⟩), e⟩) iv
  exact qq v H' (s2.trans s') iv'
end
/-! ### dict comprehensions -/
section
variable {K : PySem.W.Frag} {cl : Str → Option Addr} {W : WX} {bs O A A1 : List Addr} {F H H' H1 : Hp} {ρ ρ' ρx : Ro} {σ : St} {S S1 L : Type} {ρn : S → Ro} {ρj : S1 → Ro} {ρl : L → Ro} {D : Ends} {t u v tb : TS} {te ta tc : TE} {m ma mb : Res PV} {tr : TA} {ml : Res (List PV)} {md : Res (List (Key × PV))}
def dcF {α : Type} (d : PV → Res α) (c : α → Res Bool) (ek ev : α → Res PV) : List PV → List (Key × PV) → Res (List (Key × PV))
  | [], acc => .val acc
  | x :: xs, acc => noX (d x) >>= fun a => noX (c a) >>= fun b => if b = true then noX (ek a) >>= fun y => keyP y >>= fun k => noX (ev a) >>= fun z => dcF d c ek ev xs (putP acc k z) else dcF d c ek ev xs acc
theorem nd_dc {wi : TI} {g : TG} {tt : TT} {tk : TE} {vs : List Nat} {mi : Res (List PV)} {α : Type} {d : PV → Res α} {ρe : α → Ro} {mc : α → Res Bool} {mk me : α → Res PV} (hi : IterV K cl W wi ρ mi) (hv : nads ρ vs = true) (hne : vs ≠ []) (hg : TgtE K cl g vs (wipeR ρ vs) d ρe)
    (ht : ∀ a, Tst K cl (fun _ _ _ _ => False) tt (ρe a) (mc a)) (hk : ∀ a, Pur K cl (fun _ _ _ _ => False) tk (ρe a) (mk a)) (he : ∀ a, Pur K cl (fun _ _ _ _ => False) te (ρe a) (me a)) : NewD K cl W (tDc wi g tt tk te vs) ρ (mi >>= fun ps => sized ps.length >>= fun _ => dcF d mc mk me ps []) := fun O bs σ H Q R q => by
  refine hi O bs σ H _ R (wp_mono (wp_bind.mp q) (fun ps qp J H1 s1 hJ => ?_) fun _ z => z)
  obtain ⟨hz, qp⟩ := wp_sized (wp_bind.mp qp)
  intro Da hD
  have R1 := R.same s1
  have hD0 : H Da = none := none_back s1 hD
  obtain ⟨Rw, ew⟩ := R1.wipe hv
  have Rw0 := Rw.wider (o := .dK []) hD
  have nDA : Da ∉ O ++ adr ρ σ := fun z => by
    obtain ⟨u, e⟩ := R1.got z
    rw [hD] at e; cases e
  refine ⟨fun i mm H2 => mm = ps.length - i ∧ i ≤ ps.length ∧ Sub H1 H2 ∧ Rel K cl (Da :: O) bs (wipeR ρ vs) (wipe σ vs) H2 ∧ ∃ acc qs, H2 Da = some (.dK acc) ∧ acc.length ≤ i ∧ IsK K cl (frz H2 (Da :: (O ++ adr ρ σ))) acc qs ∧
      wp (dcF d mc mk me (ps.drop i) qs) (fun ys => ∀ p ws H', Sub H H' → H p = none → H' p = some (.dK ws) → IsK K cl (frz H' (p :: (O ++ adr ρ σ))) ws ys → Q (.ref p) H') (XW cl W σ H),
    ⟨_, rfl, Nat.zero_le _, sub_new hD _, Rw0, [], [], upd_same, Nat.le_refl _, .nil, by rw [List.drop_zero]; exact qp⟩, ?_⟩
  rintro i mm H2 ⟨rfl, hle, s2, R2, acc, qs, ha, hal, hl, qw⟩
  have sF : Sub (frz H1 (O ++ adr ρ σ)) (frz H2 (Da :: (O ++ adr ρ σ))) := fun x u e => by
    obtain ⟨n, e⟩ := frz_some.mp e
    refine frz_some.mpr ⟨fun z => ?_, s2 _ _ e⟩
    rcases List.mem_cons.mp z with c | c
    · rw [c, hD] at e; cases e
    · exact n c
  have gotB : ∀ a, a ∈ Da :: (O ++ adr ρ σ) → ∃ o, H2 a = some o := fun a z => R2.got (by rw [ew]; exact z)
  obtain ⟨hs, hgo⟩ := hJ H2 _ s2 sF gotB
  by_cases c : i = ps.length
  · subst c
    rw [List.drop_length] at qw
    have := qw Da acc H2 (s1.trans s2) hD0 ha hl
    exact .inl ⟨hs, this⟩
  · have hlt : i < ps.length := by omega
    obtain ⟨hgi, hy⟩ := hgo i _ (List.getElem?_eq_getElem hlt)
    rw [List.drop_eq_getElem_cons hlt] at qw
    refine .inr ⟨hgi, fun H3 => Sub H1 H3 ∧ Rel K cl (Da :: O) bs (wipeR ρ vs) (wipe σ vs) H3 ∧ ∃ acc qs, H3 Da = some (.dK acc) ∧ acc.length ≤ i + 1 ∧ IsK K cl (frz H3 (Da :: (O ++ adr ρ σ))) acc qs ∧
      wp (dcF d mc mk me (ps.drop (i + 1)) qs) (fun ys => ∀ p ws H', Sub H H' → H p = none → H' p = some (.dK ws) → IsK K cl (frz H' (p :: (O ++ adr ρ σ))) ws ys → Q (.ref p) H') (XW cl W σ H),
      fun H3 z => ⟨_, by omega, rfl, by omega, z⟩, fun x H3 hyx => ?_⟩
    obtain ⟨s3, ix⟩ := hy x H3 hyx
    have R3 := R2.same s3
    have qw := wp_bind.mp qw
    refine hg ps[i] (Da :: O) bs σ H3 x _ _ R3 (by rw [ew]; exact ix) (wp_mono (wp_noX (E' := fun _ => False) qw) (fun a qa σ4 R4 e4 w4 => ?_) fun _ z => z)
    refine ⟨w4 hne, ht a (Da :: O) bs σ4 H3 _ R4 (wp_mono (wp_noX (E' := fun _ => False) (wp_bind.mp qa)) (fun b qb H5 s5 => ?_) fun _ z => z.elim)⟩
    have R5 := R3.same s5
    have ha5 := s5 _ _ (s3 _ _ ha)
    have s25 := s3.trans s5
    cases b with
    | false => exact ⟨s2.trans s25, R5, acc, qs, ha5, by omega, hl.mono (frz_same s25), qb⟩
    | true =>
      refine hk a (Da :: O) bs σ4 H5 _ (R4.same s5) (wp_mono (wp_noX (E' := fun _ => False) (wp_bind.mp qb)) (fun y qy vy H6 s6 iy => ?_) fun _ z => z.elim)
      rw [e4, ew] at iy
      obtain ⟨k, ek, qk⟩ := wp_key (wp_bind.mp qy) (iy.view (H := H6) frz_sub)
      refine he a (Da :: O) bs σ4 H6 _ ((R4.same s5).same s6) (wp_mono (wp_noX (E' := fun _ => False) (wp_bind.mp qk)) (fun z qz vz H7 s7 iz => ?_) fun _ z => z.elim)
      rw [e4, ew] at iz
      have ha7 := s7 _ _ (s6 _ _ ha5)
      have s27 := (s25.trans s6).trans s7
      have keepD : ∀ x u, x ≠ Da → H7 x = some u → upd H7 Da (.dK (putK acc k vz)) x = some u := fun x u n e => by rw [upd_ne n]; exact e
      have sD : Sub (frz H7 (Da :: (O ++ adr ρ σ))) (frz (upd H7 Da (.dK (putK acc k vz))) (Da :: (O ++ adr ρ σ))) := fun x u e => by
        obtain ⟨n, e⟩ := frz_some.mp e
        exact frz_some.mpr ⟨n, keepD x u (fun z => n (z ▸ List.mem_cons_self)) e⟩
      refine ⟨acc, k, ek, ha7, by omega, fun x u e => keepD x u (ne_of_none e hD) (s27 _ _ (s2 _ _ e)), ((R5.same s6).same s7).putO List.mem_cons_self (by rw [ew]; exact fun z => nDA (List.mem_append_right _ z)), putK acc k vz, putP qs k z, upd_same, by have := length_putK acc k vz; omega, ?_, qz⟩
      exact ((hl.mono (frz_same s27)).put (k := k) iz).mono sD
end
/-! ### keywords: the wish for an exception may hang on the slots -/
section
open PySem.Spec PyProof.Rows
variable {X : Cx} {CX : CXT} {k : Nat} {f C : Addr} {fd : FuncData} {ps ks : List Str} {sp : Sp} {E : L2.St → XK} {x m : Str} {p pos apos : Pos} {e o : Expr} {es : List Expr} {kws : List Keyword} {ta : TE} {t tk : TA} {g : List Value → List Value → List Value} {gV : List V → List V → List V}
theorem run_fnkS {pins : List (Addr × Obj)} {σ : L2.St} {H : Hp} {s : Shared} {Q : VK} {us ws : List Value} {vs zs : List V} (F : FnOk X.prog X.w X.K X.mg X.base CX k f fd ps sp) (hr : Room k X.A) (hb : KBinds X.K fd ps ks g gV) (hx : PassesAt CX X σ (E σ))
    (I : Inv X pins σ H s) (r : Vals vs us) (rz : Vals zs ws) (h : sp (gV vs zs) H Q (E σ)) : wpAny (model X.prog X.w) X.A (call (.ref f) us (ks.zip ws)) (EP X pins σ Q) X.xe s := by
  have r2 := hb.rel r rz
  have hl : (g us ws).length = ps.length := by rw [← r2.length]; exact F.len _ _ _ _ h
  refine wpAny_call (codeAny_mono (F.run X.A X.stack s H ⟨us, ks.zip ws⟩ (g us ws) (gV vs zs) Q (E σ) hr I.env0 (hb.to s us ws I.kIn hl) r2 h) fun r s' hq => ?_)
  cases r with
  | error e => exact hx pins H s e s' I hq
  | ok fl =>
    cases fl with
    | ret u => exact I.after hq
    | next => exact False.elim hq
    | brk => exact False.elim hq
    | cont => exact False.elim hq
def tCallKS (sp : Sp) (gV : List V → List V → List V) (E : L2.St → XK) (t tk : TA) : TE := fun σ H Q => t σ H fun vs H1 => tk σ H1 fun zs H2 => sp (gV vs zs) H2 Q (E σ)
theorem pe_callKS (F : FnOk X.prog X.w X.K X.mg X.base CX k f fd ps sp) (hr : Room k X.A) (hg : Gl X x) (hm : X.mg x = some (.ref f)) (hk : PySem.W.keepIn X.K (.ref f) = true) (hb : KBinds X.K fd ps ks g gV) (hx : ∀ σ, PassesAt CX X σ (E σ))
    (ha : PA X (e :: es) t) (hkw : PK X kws tk) (hall : (backToKw pos (keywordEach kws X.env)).all (·.1.isSome) = true := by rfl) (hks : (backToKw pos (keywordEach kws X.env)).filterMap (·.1) = ks := by rfl)
    (hdb : (x == ("__debug__" : Str)) = false := by decide) (he : starEach (e :: es) X.env = (false, eval e X.env) :: starEach es X.env := by rfl)
    (hpl : ((backTo pos (starEach (e :: es) X.env)).any (·.1) || (backToKw pos (keywordEach kws X.env)).any (·.1.isNone)) = false := by rfl) :
    PE X (.Call (.Name x p) (e :: es) kws pos) (tCallKS sp gV E t tk) := by
  refine ⟨fun pins s σ H Q I h => ?_⟩
  refine wpAny_Call_Name_kw (ld_glob I hg hm ?_ hdb)
  refine PySem.W.callWith_KW (h₀ := X.base) I.ok.mod.kin hk hall (thn (ha.run pos pins s σ H _ I h) fun us s1 ⟨vs, H1, I1, r, q⟩ => ?_) hpl he
  refine thn (hkw.run pos pins s1 σ H1 _ I1 q) fun ws s2 ⟨zs, H2, I2, rz, q2⟩ => ⟨I2.kIn, ?_⟩
  rw [hks]
  exact run_fnkS F hr hb (hx σ) I2 r rz q2
theorem pe_callKS0 (F : FnOk X.prog X.w X.K X.mg X.base CX k f fd ps sp) (hr : Room k X.A) (hg : Gl X x) (hm : X.mg x = some (.ref f)) (hk : PySem.W.keepIn X.K (.ref f) = true) (hb : KBinds X.K fd ps ks g gV) (hx : ∀ σ, PassesAt CX X σ (E σ))
    (hkw : PK X kws tk) (hall : (backToKw pos (keywordEach kws X.env)).all (·.1.isSome) = true := by rfl) (hks : (backToKw pos (keywordEach kws X.env)).filterMap (·.1) = ks := by rfl)
    (hdb : (x == ("__debug__" : Str)) = false := by decide)
    (hpl : ((backTo pos (starEach [] X.env)).any (·.1) || (backToKw pos (keywordEach kws X.env)).any (·.1.isNone)) = false := by rfl) :
    PE X (.Call (.Name x p) [] kws pos) (tCallKS sp gV E tNil tk) := by
  refine ⟨fun pins s σ H Q I h => ?_⟩
  refine wpAny_Call_Name_kw (ld_glob I hg hm ?_ hdb)
  refine PySem.W.callWith_KW0 (h₀ := X.base) I.ok.mod.kin hk hall ?_ hpl
  refine thn (hkw.run pos pins s σ H _ I h) fun ws s2 ⟨zs, H2, I2, rz, q2⟩ => ⟨I2.kIn, ?_⟩
  rw [hks]
  exact run_fnkS (us := []) (vs := []) F hr hb (hx σ) I2 .nil rz q2
def tMethKS (C : Addr) (m : Str) (sp : Sp) (gV : List V → List V → List V) (E : L2.St → XK) (ta : TE) (t tk : TA) : TE := fun σ H Q => ta σ H fun x H1 => ∃ a dx fs, x = .ref a ∧ H1 a = some (.ins C dx fs) ∧ fs.lookup m = none ∧
  t σ H1 fun vs H2 => tk σ H2 fun zs H3 => sp (gV (x :: vs) zs) H3 Q (E σ)
theorem pe_methKS {pl : Sem Bool} (he : PE X o ta) (c : Cls X.K C) (hm : Meth X.K C m f) (F : FnOk X.prog X.w X.K X.mg X.base CX k f fd ps sp) (hr : Room k X.A) (hb : KBinds X.K fd ps ks g gV) (hx : ∀ σ, PassesAt CX X σ (E σ))
    (ha : PA X (e :: es) t) (hkw : PK X kws tk) (hall : (backToKw pos (keywordEach kws X.env)).all (·.1.isSome) = true := by rfl) (hks : (backToKw pos (keywordEach kws X.env)).filterMap (·.1) = ks := by rfl)
    (hst : starEach (e :: es) X.env = (false, eval e X.env) :: starEach es X.env := by rfl)
    (hpl : ((backTo pos (starEach (e :: es) X.env)).any (·.1) || (backToKw pos (keywordEach kws X.env)).any (·.1.isNone)) = false := by rfl)
    (ht : eval (.Call (.Attribute o m apos) (e :: es) kws pos) X.env = (do
      let ov ← eval o X.env
      standAt apos.atName
      let (f, first) ← holding [ov] (getMethod ov m pl)
      callWith pos f first (backTo pos (starEach (e :: es) X.env)) (backToKw pos (keywordEach kws X.env))) := by rfl) :
    PE X (.Call (.Attribute o m apos) (e :: es) kws pos) (tMethKS C m sp gV E ta t tk) := by
  refine ⟨fun pins s σ H Q I h => ?_⟩
  refine PySem.W.methodCall_KW (pl := pl) (thn (he.run pins s σ H _ I h) fun u s1 ⟨x, H1, I1, rx, a, dx, fs, ex, ea, l, q⟩ => ?_) ht
  subst ex
  obtain rfl : u = Value.ref a := rx
  refine getmeth_ok I1 ea c hm l ?_
  refine PySem.W.callWith_KW (first := [.ref a]) (h₀ := X.base) I.ok.mod.kin hm.kp hall (thn (ha.run pos pins s1 σ H1 _ I1 q) fun us s2 ⟨vs, H2, I2, r, q2⟩ => ?_) hpl hst
  refine thn (hkw.run pos pins s2 σ H2 _ I2 q2) fun ws s3 ⟨zs, H3, I3, rz, q3⟩ => ⟨I3.kIn, ?_⟩
  rw [hks]
  exact run_fnkS (us := .ref a :: us) (vs := .ref a :: vs) F hr hb (hx σ) I3 (.cons rfl r) rz q3
theorem pe_methKS0 {pl : Sem Bool} (he : PE X o ta) (c : Cls X.K C) (hm : Meth X.K C m f) (F : FnOk X.prog X.w X.K X.mg X.base CX k f fd ps sp) (hr : Room k X.A) (hb : KBinds X.K fd ps ks g gV) (hx : ∀ σ, PassesAt CX X σ (E σ))
    (hkw : PK X kws tk) (hall : (backToKw pos (keywordEach kws X.env)).all (·.1.isSome) = true := by rfl) (hks : (backToKw pos (keywordEach kws X.env)).filterMap (·.1) = ks := by rfl)
    (hpl : ((backTo pos (starEach [] X.env)).any (·.1) || (backToKw pos (keywordEach kws X.env)).any (·.1.isNone)) = false := by rfl)
    (ht : eval (.Call (.Attribute o m apos) [] kws pos) X.env = (do
      let ov ← eval o X.env
      standAt apos.atName
      let (f, first) ← holding [ov] (getMethod ov m pl)
      callWith pos f first (backTo pos (starEach [] X.env)) (backToKw pos (keywordEach kws X.env))) := by rfl) :
    PE X (.Call (.Attribute o m apos) [] kws pos) (tMethKS C m sp gV E ta tNil tk) := by
  refine ⟨fun pins s σ H Q I h => ?_⟩
  refine PySem.W.methodCall_KW (pl := pl) (thn (he.run pins s σ H _ I h) fun u s1 ⟨x, H1, I1, rx, a, dx, fs, ex, ea, l, q⟩ => ?_) ht
  subst ex
  obtain rfl : u = Value.ref a := rx
  refine getmeth_ok I1 ea c hm l ?_
  refine PySem.W.callWith_KW0 (first := [.ref a]) (h₀ := X.base) I.ok.mod.kin hm.kp hall ?_ hpl
  refine thn (hkw.run pos pins s1 σ H1 _ I1 q) fun ws s3 ⟨zs, H3, I3, rz, q3⟩ => ⟨I3.kIn, ?_⟩
  rw [hks]
  exact run_fnkS (us := [.ref a]) (vs := [.ref a]) F hr hb (hx σ) I3 (.cons rfl .nil) rz q3
def tMakeKS (C : Addr) (sp : Sp) (gV : List V → List V → List V) (E : L2.St → XK) (t tk : TA) : TE := fun σ H Q => t σ H fun vs H1 => tk σ H1 fun zs H2 => ∀ x dx, H2 x = none → H2 dx = none → dx ≠ x →
  sp (gV (.ref x :: vs) zs) (upd (upd H2 dx (.own x)) x (.ins C dx [])) (fun v H3 => v = .non ∧ Q (.ref x) H3) (E σ)
theorem run_makeKS {pins : List (Addr × Obj)} {σ : L2.St} {H : Hp} {s : Shared} {Q : VK} {us ws : List Value} {vs zs : List V} (M : Mk X.K C f) (F : FnOk X.prog X.w X.K X.mg X.base CX k f fd ps sp) (hr : Room (k + 1) X.A) (hb : KBinds X.K fd ps ks g gV) (hx : PassesAt CX X σ (E σ))
    (I : Inv X pins σ H s) (r : Vals vs us) (rz : Vals zs ws)
    (h : ∀ x dx, H x = none → H dx = none → dx ≠ x → sp (gV (.ref x :: vs) zs) (upd (upd H dx (.own x)) x (.ins C dx [])) (fun v H2 => v = .non ∧ Q (.ref x) H2) (E σ)) :
    wpAny (model X.prog X.w) X.A (call (.ref C) us (ks.zip ws)) (EP X pins σ Q) X.xe s := by
  have hq := h (s.heap.objs.size + 1) s.heap.objs.size (I.hok.fresh (Nat.le_succ _)) (I.hok.fresh (Nat.le_refl _)) (Nat.ne_of_lt (Nat.lt_succ_self _))
  have I2 := Inv.made (C := C) I
  have r1 : Vals (V.ref (s.heap.objs.size + 1) :: vs) (Value.ref (s.heap.objs.size + 1) :: us) := .cons rfl r
  have r2 := hb.rel r1 rz
  have hl : (g (Value.ref (s.heap.objs.size + 1) :: us) ws).length = ps.length := by rw [← r2.length]; exact F.len _ _ _ _ hq
  refine wpAny_call (make_map (f := f) I.kIn M.makes M.init (beq_iff_eq.mp M.fn) (codeAny_mono (F.run _ X.stack _ _ ⟨Value.ref (s.heap.objs.size + 1) :: us, ks.zip ws⟩ (g (Value.ref (s.heap.objs.size + 1) :: us) ws) _ _ (E σ) (hr.make C us (ks.zip ws))
    (I2.env0.make C us (ks.zip ws)) (hb.to _ (Value.ref (s.heap.objs.size + 1) :: us) ws I2.kIn hl) r2 hq) fun r s' hq' => ?_))
  cases r with
  | error e => exact hx pins _ _ e s' I2 hq'
  | ok fl =>
    cases fl with
    | ret u =>
      obtain ⟨v, H', I3, rv, ev, q3⟩ := I2.after hq'
      subst ev
      exact ⟨rv, ⟨V.ref (s.heap.objs.size + 1), H', I3, rfl, q3⟩⟩
    | next => exact False.elim hq'
    | brk => exact False.elim hq'
    | cont => exact False.elim hq'
theorem pe_makeKS0 (M : Mk X.K C f) (F : FnOk X.prog X.w X.K X.mg X.base CX k f fd ps sp) (hr : Room (k + 1) X.A) (hg : Gl X x) (hm : X.mg x = some (.ref C)) (hb : KBinds X.K fd ps ks g gV) (hx : ∀ σ, PassesAt CX X σ (E σ)) (hkw : PK X kws tk)
    (hall : (backToKw pos (keywordEach kws X.env)).all (·.1.isSome) = true := by rfl) (hks : (backToKw pos (keywordEach kws X.env)).filterMap (·.1) = ks := by rfl) (hdb : (x == ("__debug__" : Str)) = false := by decide)
    (hpl : ((backTo pos (starEach [] X.env)).any (·.1) || (backToKw pos (keywordEach kws X.env)).any (·.1.isNone)) = false := by rfl) :
    PE X (.Call (.Name x p) [] kws pos) (tMakeKS C sp gV E tNil tk) := by
  refine ⟨fun pins s σ H Q I h => ?_⟩
  refine wpAny_Call_Name_kw (ld_glob I hg hm ?_ hdb)
  refine PySem.W.callWith_KW0 (h₀ := X.base) I.ok.mod.kin M.kp hall ?_ hpl
  refine thn (hkw.run pos pins s σ H _ I h) fun ws s2 ⟨zs, H2, I2, rz, q2⟩ => ⟨I2.kIn, ?_⟩
  rw [hks]
  exact run_makeKS (us := []) (vs := []) M F hr hb (hx σ) I2 .nil rz q2
theorem pe_makeKS (M : Mk X.K C f) (F : FnOk X.prog X.w X.K X.mg X.base CX k f fd ps sp) (hr : Room (k + 1) X.A) (hg : Gl X x) (hm : X.mg x = some (.ref C)) (hb : KBinds X.K fd ps ks g gV) (hx : ∀ σ, PassesAt CX X σ (E σ)) (ha : PA X (e :: es) t) (hkw : PK X kws tk)
    (hall : (backToKw pos (keywordEach kws X.env)).all (·.1.isSome) = true := by rfl) (hks : (backToKw pos (keywordEach kws X.env)).filterMap (·.1) = ks := by rfl) (hdb : (x == ("__debug__" : Str)) = false := by decide)
    (he : starEach (e :: es) X.env = (false, eval e X.env) :: starEach es X.env := by rfl) (hpl : ((backTo pos (starEach (e :: es) X.env)).any (·.1) || (backToKw pos (keywordEach kws X.env)).any (·.1.isNone)) = false := by rfl) :
    PE X (.Call (.Name x p) (e :: es) kws pos) (tMakeKS C sp gV E t tk) := by
  refine ⟨fun pins s σ H Q I h => ?_⟩
  refine wpAny_Call_Name_kw (ld_glob I hg hm ?_ hdb)
  refine PySem.W.callWith_KW (h₀ := X.base) I.ok.mod.kin M.kp hall (thn (ha.run pos pins s σ H _ I h) fun us s1 ⟨vs, H1, I1, r, q⟩ => ?_) hpl he
  refine thn (hkw.run pos pins s1 σ H1 _ I1 q) fun ws s2 ⟨zs, H2, I2, rz, q2⟩ => ⟨I2.kIn, ?_⟩
  rw [hks]
  exact run_makeKS M F hr hb (hx σ) I2 r rz q2
end
/-! ### keywords, within a try too; methods called by keywords -/
section
variable {K : PySem.W.Frag} {cl : Str → Option Addr} {W : WX} {bs O A A1 B : List Addr} {F H H' H1 : Hp} {ρ ρ' ρx ρh : Ro} {σ : St} {te ta tc td : TE} {m ma mb : Res PV} {tr tk : TA} {ml mk : Res (List PV)} {mf : List PV → Res PV}
theorem pu_callKS {gV : List V → List V → List V} {gP : List PV → List PV → List PV} (hg : ∀ {F : Hp} {vs : List V} {ps : List PV} {ws : List V} {qs : List PV}, IsL K cl F vs ps → IsL K cl F ws qs → IsL K cl F (gV vs ws) (gP ps qs))
    (hl : PurL K cl W tr ρ ml) (hk : PurL K cl W tk ρ mk) : Pur K cl W (tCallKS (spP K cl mf) gV (WE W) tr tk) ρ (ml >>= fun ps => mk >>= fun qs => mf (gP ps qs)) := fun O bs σ H Q R q => by
  refine hl O bs σ H _ R (wp_mono (wp_bind.mp q) (fun ps q1 vs H1 s1 i1 => ?_) fun _ z => z)
  refine hk O bs σ H1 _ (R.same s1) (wp_mono (wp_bind.mp q1) (fun qs q2 ws H2 s2 i2 => ?_) fun _ z => z.mono s1)
  have s12 := s1.trans s2
  exact ⟨O ++ adr ρ σ, gP ps qs, fun a h => (R.same s12).got h, hg (i1.mono (frz_same s2)) i2, wp_mono q2 (fun r qr v H' s i => qr v H' (s12.trans s) i) fun c qc C H' e s => qc C H' e (s12.trans s)⟩
theorem pu_methK {C : Str} {c : Addr} {mt : Str} {gV : List V → List V → List V} {gP : List PV → List PV → List PV} (hg : ∀ {F : Hp} {vs : List V} {ps : List PV} {ws : List V} {qs : List PV}, IsL K cl F vs ps → IsL K cl F ws qs → IsL K cl F (gV vs ws) (gP ps qs))
    (hc : cl C = some c) (ha : Pur K cl W ta ρ ma) (hl : PurL K cl W tr ρ ml) (hk : PurL K cl W tk ρ mk) :
    Pur K cl W (tMethKS c mt (spP K cl mf) gV (WE W) ta tr tk) ρ (ma >>= fun x => sel [(C, mf)] mt x >>= fun g => ml >>= fun ps => mk >>= fun qs => g (gP (x :: ps) qs)) := fun O bs σ H Q R q => by
  refine ha O bs σ H _ R (wp_mono (wp_bind.mp q) (fun x qx v1 H1 s1 i1 => ?_) fun _ z => z)
  have R1 := R.same s1
  obtain ⟨fs, rfl, e2, hw⟩ := sel_one (wp_bind.mp qx)
  have main : ∃ a dx vs, v1 = .ref a ∧ H1 a = some (.ins c dx vs) ∧ vs.lookup mt = none := by
    cases i1 with
    | ins h0 h1 h2 =>
      rw [hc] at h0
      cases h0
      exact ⟨_, _, _, rfl, frz_sub _ _ h1, h2.nolook e2⟩
  obtain ⟨a, dx, vs, e3, e4, e5⟩ := main
  refine ⟨a, dx, vs, e3, e4, e5, hl O bs σ H1 _ R1 (wp_mono (wp_bind.mp hw) (fun ps z us H2 s2 i2 => ?_) fun _ z C' H' e s => z C' H' e (s1.trans s))⟩
  have R2 := R1.same s2
  refine hk O bs σ H2 _ R2 (wp_mono (wp_bind.mp z) (fun qs z2 ws H3 s3 i3 => ?_) fun _ z C' H' e s => z C' H' e (s1.trans (s2.trans s)))
  have s13 := s2.trans s3
  exact ⟨O ++ adr ρ σ, gP (.ins C fs :: ps) qs, fun a h => ((R2.same s3).got h), hg (.cons (i1.mono (frz_same s13)) (i2.mono (frz_same s3))) i3, wp_mono z2 (fun r qr v H' s i => qr v H' (s1.trans (s13.trans s)) i) fun e qe C' H' he s => qe C' H' he (s1.trans (s13.trans s))⟩
/-- the arguments behind the thing that is made -/
def tlP : List PV → Res (List PV)
  | _ :: as => .val as
  | [] => .stuck
theorem tl_ok {F : Hp} {vs ws : List V} {ps zs : List PV} {gV : List V → List V → List V} {gP : List PV → List PV → List PV} {Q : List PV → Prop} {E : Str → Prop}
    (hg : ∀ {F : Hp} {vs : List V} {ps : List PV} {ws : List V} {qs : List PV} (x : V), IsL K cl F vs ps → IsL K cl F ws qs → ∀ p as, gP (.non :: ps) qs = p :: as → ∃ us, gV (x :: vs) ws = x :: us ∧ IsL K cl F us as)
    (x : V) (i : IsL K cl F vs ps) (j : IsL K cl F ws zs) (h : wp (tlP (gP (.non :: ps) zs)) Q E) : ∃ as us, gV (x :: vs) ws = x :: us ∧ IsL K cl F us as ∧ Q as := by
  cases e : gP (.non :: ps) zs with
  | nil => rw [e] at h; exact h.elim
  | cons p as =>
    rw [e] at h
    obtain ⟨us, e1, e2⟩ := hg x i j p as e
    exact ⟨as, us, e1, e2, h⟩
theorem pu_makeK {C : Str} {c : Addr} {mf : MO → List PV → Res (PV × MO)} {gV : List V → List V → List V} {gP : List PV → List PV → List PV}
    (hg : ∀ {F : Hp} {vs : List V} {ps : List PV} {ws : List V} {qs : List PV} (x : V), IsL K cl F vs ps → IsL K cl F ws qs → ∀ p as, gP (.non :: ps) qs = p :: as → ∃ us, gV (x :: vs) ws = x :: us ∧ IsL K cl F us as)
    (hc : cl C = some c) (hl : PurL K cl W tr ρ ml) (hk : PurL K cl W tk ρ mk) :
    Pur K cl W (tMakeKS c (spI K cl mf) gV (WE W) tr tk) ρ (ml >>= fun ps => mk >>= fun qs => tlP (gP (.non :: ps) qs) >>= fun as => mf (.ob C []) as >>= frO) := fun O bs σ H Q R q => by
  refine hl O bs σ H _ R (wp_mono (wp_bind.mp q) (fun ps qa vs H0 s0 i0 => ?_) fun _ z => z)
  refine hk O bs σ H0 _ (R.same s0) (wp_mono (wp_bind.mp qa) (fun zs qb ws H1 s01 j1 => ?_) fun _ z C' H' e s => z C' H' e (s0.trans s))
  have s1 := s0.trans s01
  intro x dx hx hdx hne
  have R1 := R.same s1
  obtain ⟨as, us, e1, i1, qs⟩ := tl_ok hg (V.ref x) (i0.mono (frz_same s01)) j1 (wp_bind.mp qb)
  rw [e1]
  have sx : Sub H1 (upd (upd H1 dx (.own x)) x (.ins c dx [])) := fun y o e => by
    have n1 : y ≠ x := fun z => by rw [z, hx] at e; cases e
    have n2 : y ≠ dx := fun z => by rw [z, hdx] at e; cases e
    rw [upd_ne n1, upd_ne n2]; exact e
  have nx : x ∉ O ++ adr ρ σ := fun z => by obtain ⟨o, e⟩ := R1.got z; rw [hx] at e; cases e
  have sF : Sub (frz H1 (O ++ adr ρ σ)) (frz (upd (upd H1 dx (.own x)) x (.ins c dx [])) (x :: (O ++ adr ρ σ))) := fun y o e => by
    obtain ⟨n, e⟩ := frz_some.mp e
    refine frz_some.mpr ⟨fun z => ?_, sx _ _ e⟩
    rcases List.mem_cons.mp z with z | z
    · rw [z, hx] at e; cases e
    · exact n z
  refine ⟨x :: (O ++ adr ρ σ), x, .ob C [], us, as, rfl, List.mem_cons_self, fun a ha => ?_, ⟨c, dx, [], hc, upd_same, .nil⟩, i1.mono sF, wp_mono (wp_bind.mp qs) (fun r qr v H' hk hm iv => ?_) fun e qe C' H' he hk => ?_⟩
  · rcases List.mem_cons.mp ha with z | z
    · exact ⟨_, by rw [z]; exact upd_same⟩
    · obtain ⟨o, e⟩ := R1.got z
      exact ⟨o, sx _ _ e⟩
  · have sH : Sub H1 H' := fun y o e => hk y o (fun z => by rw [z, hx] at e; cases e) (sx _ _ e)
    unfold frO at qr
    split at qr
    · next C2 fs2 =>
      cases iv
      obtain ⟨c2, dx2, vs2, h0, h1, h2⟩ := hm
      refine ⟨rfl, qr _ H' (s1.trans sH) (.ins h0 (frz_some.mpr ⟨nx, h1⟩) (h2.mono (frz_less fun a ha => List.mem_cons_of_mem _ ha)))⟩
    · exact qr.elim
  · exact qe C' H' he (s1.trans fun y o e => hk y o (fun z => by rw [z, hx] at e; cases e) (sx _ _ e))
end
/-! ### range of two with effects, isinstance of an own class -/
section
variable {K : PySem.W.Frag} {cl : Str → Option Addr} {W : WX} {S : Type} {ρs : S → Ro} {ta tc : TE} {ma mb : S → Res (PV × S)}
theorem ei_rng2 (ha : Eff K cl ta ρs ma) (hb' : Eff K cl tc ρs mb) : EffI K cl (iRng2 (tCons ta (tCons tc tNil))) ρs (fun s => ma s >>= fun x => mb x.2 >>= fun y => rng2 x.1 y.1 >>= fun z => .val (z, y.2)) := fun s O bs σ H Rr R hb q => by
  refine ha s O bs σ H _ R hb (wp_mono (wp_bind.mp q) (fun x qx v1 H1 g1 R1 e1 i1 => ?_) fun _ z => z)
  refine hb' x.2 O bs σ H1 _ R1 hb (wp_mono (wp_bind.mp qx) (fun y w v2 H2 g2 R2 e2 i2 => ?_) fun _ z => z)
  rw [e1] at g2 i2
  have w := wp_bind.mp w
  unfold rng2 at w
  split at w
  · next i j ei ej =>
    rw [ei] at i1
    rw [ej] at i2
    cases i1
    cases i2
    split at w
    · next c => exact ⟨i, j, rfl, c, w _ H2 (g1.trans g2) R2 (e2.trans e1) (itOk_rng rng_len fun i p h => rng_get h)⟩
    · exact w.elim
  · exact w.elim
end
/-- the classes whose things are told: with the answer for one class -/
def isiC (tab : List (Str × Bool)) : PV → Res PV
  | .ins C _ => match tab.lookup C with
    | some b => .val (.bl b)
    | none => .stuck
  | _ => .stuck
theorem kit_ownC {K : PySem.W.Frag} {C D : Addr} (hdct : PySem.W.hasDictIn K D = true) (ht : PySem.W.typeIn K (.ref D) = some (.type "type")) (h4 : PySem.W.subIn K (.ref C) (.ref D) = some true) : PySem.W.kitOne K (.ref C) (.ref D) = some true := by
  obtain ⟨cd, hc, _⟩ := PySem.W.any_some hdct
  have e2 : ((PySem.W.clsIn K D).isSome && PySem.W.typeIn K (.ref D) == some (.type "type")) = true := by rw [hc, ht] <;> rfl
  show (if (Value.ref C == .ref D) = true then some true else (if ((PySem.W.clsIn K D).isSome && PySem.W.typeIn K (.ref D) == some (.type "type")) = true then PySem.W.subIn K (.ref C) (.ref D) else none)) = some true
  rw [if_pos e2, h4]
  split <;> rfl
theorem kit_notC {K : PySem.W.Frag} {C D : Addr} (hne : (Value.ref C == Value.ref D) = false) (hdct : PySem.W.hasDictIn K D = true) (ht : PySem.W.typeIn K (.ref D) = some (.type "type")) (h4 : PySem.W.subIn K (.ref C) (.ref D) = some false) : PySem.W.kitOne K (.ref C) (.ref D) = some false := by
  obtain ⟨cd, hc, _⟩ := PySem.W.any_some hdct
  have e2 : ((PySem.W.clsIn K D).isSome && PySem.W.typeIn K (.ref D) == some (.type "type")) = true := by rw [hc, ht] <;> rfl
  show (if (Value.ref C == .ref D) = true then some true else (if ((PySem.W.clsIn K D).isSome && PySem.W.typeIn K (.ref D) == some (.type "type")) = true then PySem.W.subIn K (.ref C) (.ref D) else none)) = some false
  rw [hne, if_neg (by decide), if_pos e2, h4]
/-- what isinstance asks of a thing's class -/
structure InsK (K : PySem.W.Frag) (C : Addr) : Prop where
  cl : Cls K C
  ha : PySem.W.findIn K (.ref C) "__class__" = some (some (.builtin "object.__class__"))
  hn : PySem.W.specialIn K (.builtin "object.__class__") "__get__" = some (some (.builtin "getset_descriptor.__get__"))
  htk : PySem.W.takesIn K (.builtin "object.__class__") = some true
  hm : PySem.W.mroIn K C (.type "object") = some true
section
variable {K : PySem.W.Frag} {cl : Str → Option Addr} {W : WX} {ρ : Ro} {ta : TE} {m : Res PV}
theorem pu_isiC {D : Addr} {tab : List (Str × Bool)} (hT : ∀ C b, tab.lookup C = some b → ∀ c, cl C = some c → InsK K c ∧ PySem.W.kitOne K (.ref c) (.ref D) = some b) (ha : Pur K cl W ta ρ m) :
    Pur K cl W (tCB (rIsi K) (tCons ta (tCons (tC (.ref D)) tNil))) ρ (m >>= isiC tab) := fun O bs σ H Q R q => by
  refine ha O bs σ H _ R (wp_mono (wp_bind.mp q) (fun x qx v1 H1 s1 i1 => ?_) fun _ z => z)
  unfold isiC at qx
  split at qx
  · next C fs =>
    split at qx
    · next b e =>
      cases i1 with
      | ins h0 h1 h2 =>
        obtain ⟨k, kk⟩ := hT C b e _ h0
        exact ⟨_, _, _, _, b, rfl, .own D, .base (TyOf.ins (frz_sub _ _ h1) k.cl k.ha k.hn k.htk k.hm), kk, qx _ H1 s1 (.bl b)⟩
    · exact qx.elim
  · exact qx.elim
end
open PySem.Spec PyProof.Rows in
theorem pi_enTV (K : PySem.W.Frag) {X : Cx} (eK : X.K = K) {e : Expr} {ta : TA} {p pos tpos : Pos} {elts : List Expr} {kk : Nat} (hg : Gl X "enumerate") (hm : X.mg "enumerate" = none) (ha : PA X [e] ta) (hs : starEach [e] X.env = [(false, eval e X.env)] := by rfl) :
    PI X (.Tuple elts kk tpos) (.Call (.Name "enumerate" p) [e] [] pos) (iEnT K ta) := by
  subst eK
  exact pi_enT hg hm ha hs
/-! ### len(set(tuple of ints)) -/
def dedupI : List Int → List Int
  | [] => []
  | x :: r => if x ∈ r then dedupI r else x :: dedupI r
theorem mem_dedupI {x : Int} : ∀ {l : List Int}, x ∈ dedupI l ↔ x ∈ l
  | [] => Iff.rfl
  | y :: r => by
    unfold dedupI
    by_cases c : y ∈ r
    · rw [if_pos c, mem_dedupI, List.mem_cons]
      exact ⟨.inr, fun h => h.elim (fun e => e ▸ c) id⟩
    · rw [if_neg c, List.mem_cons, List.mem_cons, mem_dedupI]
theorem nodup_dedupI : ∀ {l : List Int}, (dedupI l).Nodup
  | [] => List.nodup_nil
  | y :: r => by
    unfold dedupI
    by_cases c : y ∈ r
    · rw [if_pos c]
      exact nodup_dedupI
    · rw [if_neg c]
      exact List.nodup_cons.mpr ⟨fun z => c (mem_dedupI.mp z), nodup_dedupI⟩
theorem dedupI_nodup : ∀ {l : List Int}, l.Nodup → dedupI l = l
  | [], _ => rfl
  | y :: r, h => by
    obtain ⟨h1, h2⟩ := List.nodup_cons.mp h
    unfold dedupI
    rw [if_neg h1, dedupI_nodup h2]
theorem dedupI_le : ∀ {l : List Int}, (dedupI l).length ≤ l.length
  | [] => Nat.le_refl _
  | y :: r => by
    unfold dedupI
    have := dedupI_le (l := r)
    split
    · exact Nat.le_trans this (Nat.le_succ _)
    · exact Nat.succ_le_succ this
section
open PySem.Spec PyProof.Rows
variable {X : Cx}
def tLenSetT (K : PySem.W.Frag) (ta : TE) : TE := fun σ H Q => ta σ H fun x H1 => ∃ (l : Addr) (ns : List Int), x = V.ref l ∧ SqT K H1 l (ns.map V.int) ∧ ns.length < 1000 ∧ Q (.int ((dedupI ns).length : Nat)) H1
theorem pe_lenSetT (K : PySem.W.Frag) (eK : X.K = K) {a : Expr} {ta : TE} {p p2 q pos : Pos} (hc : X.calm = true) (hg : Gl X "len") (hm : X.mg "len" = none) (hg2 : Gl X "set") (hm2 : X.mg "set" = none) (ha : PE X a ta)
    (na : starEach [a] X.env = (false, eval a X.env) :: starEach [] X.env := by rfl) : PE X (.Call (.Name "len" p) [.Call (.Name "set" p2) [a] [] q] [] pos) (tLenSetT K ta) := by
  subst eK
  refine ⟨fun pins s σ H Q I h => ?_⟩
  refine Call_ (ld_blt I hg hm PySem.boot_len ?_)
  refine PyProof.Rows.callWith_builtin1 (PyProof.Rows.args_cons ?_ rfl) rfl rfl
  refine Call_ (ld_blt I hg2 hm2 PyProof.Rows.boot_set ?_)
  refine PyProof.Rows.callWith_type1 (PyProof.Rows.args_cons (thn (ha.run pins s σ H _ I h) fun v s1 ⟨x, H1, I1, r1, q1⟩ => PyProof.Rows.args_nil ?_) na) na rfl
  obtain ⟨l, ns, rfl, hq, h1, q1⟩ := q1
  cases r1
  obtain ⟨its, rv, pt, hz⟩ := I1.tuple hq
  refine call_set_tupI ns (I1.ok.hd hc) (show s1.heap.IsTuple l its.toArray from pt) (ints_of_vals rv) (by unfold scanBound; omega) fun h' tk c hS hcn hk => ?_
  refine PyProof.Rows.args_nil ?_
  obtain ⟨o, es, ep, t, ho, hex, hd, hg1, hnd, hmem, hb, hf, hn, _, _⟩ := hS
  have I2 : Inv X pins σ H1 { s1 with heap := h', toks := tk } := I1.kept fun b o e => hk b o e
  have hpm : (es.toList.map keyOf).Perm (dedupI ns) := (List.perm_ext_iff_of_nodup hnd nodup_dedupI).mpr fun k => by
    rw [← hmem k, mem_dedupI, decide_eq_true_eq]
  have hsz : es.size = (dedupI ns).length := by
    have := hpm.length_eq
    rwa [List.length_map, Array.length_toList] at this
  have hle := dedupI_le (l := ns)
  refine call_len_set ho hex hd hf (by rw [hsz]; omega) ⟨.int ((dedupI ns).length : Nat), H1, I2.tok _, ⟨_, by rw [hsz]⟩, q1⟩
end
section
variable {K : PySem.W.Frag} {cl : Str → Option Addr} {W : WX} {ρ : Ro} {ta : TE} {m : Res PV}
def lenSetP : PV → Res PV
  | .tup ps => match allI ps with
    | some is => if is.length < 1000 then .val (.int ((dedupI is).length : Nat)) else .stuck
    | none => .stuck
  | _ => .stuck
theorem pu_lenSet (ha : Pur K cl W ta ρ m) : Pur K cl W (tLenSetT K ta) ρ (m >>= lenSetP) := fun O bs σ H Q R q => by
  refine ha O bs σ H _ R (wp_mono (wp_bind.mp q) (fun x qx v1 H1 s1 i1 => ?_) fun _ z => z)
  unfold lenSetP at qx
  split at qx
  · next ps =>
    split at qx
    · next is e =>
      split at qx
      · next c =>
        cases i1 with
        | tup h l =>
          cases allI_eq e
          cases l.ints
          exact ⟨_, is, rfl, frz_sub.sqT h, c, qx _ H1 s1 (.int _)⟩
      · exact qx.elim
    · exact qx.elim
  · exact qx.elim
end
/-! ### a test that is a value's truth -/
def tTru (K : PySem.W.Frag) (ta : TE) : TT := fun σ H Q => ta σ H fun x H' => ∃ k, TruV K x H' k ∧ Q k H'
theorem pt_truthV (K : PySem.W.Frag) {X : Cx} (eK : X.K = K) {a : Expr} {ta : TE} (ha : PE X a ta) (he : ∀ whole, isTrue a X.env whole = (do let v ← whole; standAt a.pos; holding [v] (truthy v)) := by intro _; rfl) : PT X a (tTru K ta) := by
  subst eK
  exact pt_truth ha he
def truP : PV → Res Bool
  | .bl b => .val b
  | .int i => .val (i != 0)
  | .non => .val false
  | .lst l => .val (!l.isEmpty)
  | .tup l => .val (!l.isEmpty)
  | _ => .stuck
theorem isL_empty {K : PySem.W.Frag} {cl : Str → Option Addr} {F : Hp} {vs : List V} {ps : List PV} (h : IsL K cl F vs ps) : vs.isEmpty = ps.isEmpty := by cases h <;> rfl
section
variable {K : PySem.W.Frag} {cl : Str → Option Addr} {W : WX} {ρ : Ro} {ta : TE} {ma : Res PV}
theorem ts_tru (ha : Vw K cl W ta ρ ma) : Tst K cl W (tTru K ta) ρ (ma >>= truP) := fun O bs σ H Q R q => by
  refine ha O bs σ H _ R (wp_mono (wp_bind.mp q) (fun x qx v1 H1 s1 i1 => ?_) fun _ z => z)
  cases x with
  | bl b => cases isV_bl i1; exact ⟨b, rfl, qx H1 s1⟩
  | int i => cases isV_int i1; exact ⟨_, rfl, qx H1 s1⟩
  | non => cases i1; exact ⟨false, rfl, qx H1 s1⟩
  | lst l =>
    obtain ⟨a, vs, rfl, h1, r⟩ := i1
    refine ⟨!vs.isEmpty, .inl ⟨vs, .inl (.inl h1), rfl⟩, ?_⟩
    rw [isL_empty r]
    exact qx H1 s1
  | tup l =>
    cases i1 with
    | tup h r =>
      refine ⟨_, .inr (.inl ⟨_, frz_sub.sqT h, rfl⟩), ?_⟩
      rw [isL_empty r]
      exact qx H1 s1
  | _ => exact qx.elim
end
/-! ### sorted(list of ints); values that are tested with effects -/
def sortI (l : List Int) : List Int := l.mergeSort fun a b => decide (a ≤ b)
theorem sortI_perm (l : List Int) : (sortI l).Perm l := List.mergeSort_perm _ _
theorem sortI_sorted (l : List Int) : (sortI l).Pairwise (· ≤ ·) := by
  have := List.pairwise_mergeSort (le := fun a b : Int => decide (a ≤ b)) (fun a b c h1 h2 => decide_eq_true (Int.le_trans (of_decide_eq_true h1) (of_decide_eq_true h2)))
    (fun a b => by rcases Int.le_total a b with h | h <;> simp [h]) l
  exact this.imp fun h => of_decide_eq_true h
theorem sortI_unique {l m : List Int} (h1 : m.Perm l) (h2 : m.Pairwise (· ≤ ·)) : m = sortI l :=
  List.Perm.eq_of_pairwise (fun a b _ _ x y => Int.le_antisymm x y) h2 (sortI_sorted l) (h1.trans (sortI_perm l).symm)
section
variable {K : PySem.W.Frag} {cl : Str → Option Addr}
theorem cr_sortedIV (K : PySem.W.Frag) {X : Cx} (e : X.K = K) : CallR X (.builtin "sorted") (rSortedI K) := by subst e; exact cr_sortedI
def sortP (p : PV) : Res PV := asLi p >>= fun ps => match allI ps with
  | some is => .val (.lst ((sortI is).map PV.int))
  | none => .stuck
theorem isL_of_ints {F : Hp} : ∀ (is : List Int), IsL K cl F (is.map V.int) (is.map PV.int)
  | [] => .nil
  | i :: is => .cons (.int i) (isL_of_ints is)
theorem b1_sort : Bi1 K cl (rSortedI K) sortP := fun A H x p Q E hA ix w => by
  obtain ⟨a, vs, ps, rfl, hs, hl, w⟩ := wp_asLi (wp_bind.mp w) ix
  split at w
  · next is e =>
    cases allI_eq e
    cases hl.ints
    refine ⟨a, is, rfl, hs, fun ns' l h1 h2 hl' => ?_⟩
    cases sortI_unique h1 h2
    exact w _ _ (sub_new hl' _) (new_lst hA hl' (isL_of_ints _))
  · exact w.elim
end
section
variable {K : PySem.W.Frag} {cl : Str → Option Addr} {W : WX} {S : Type} {ρs : S → Ro} {ta tc : TE} {ma mb : S → Res (PV × S)}
theorem ef_andV (ha : Eff K cl ta ρs ma) (hb' : Eff K cl tc ρs mb) : Eff K cl (tAndV ta tc) ρs (fun s => ma s >>= fun x => asB x.1 >>= fun b => if b = true then mb x.2 else .val (.bl false, x.2)) := fun s O bs σ H Q R hb q => by
  refine ha s O bs σ H _ R hb (wp_mono (wp_bind.mp q) (fun x qx v1 H1 g1 R1 e1 i1 => ?_) fun _ z => z)
  obtain ⟨b, eb, qb⟩ := wp_asB (wp_bind.mp qx)
  obtain ⟨x1, s1⟩ := x
  have eb' : x1 = .bl b := eb
  subst eb'
  cases i1
  refine ⟨b, rfl, ?_⟩
  cases b with
  | true => exact hb' s1 O bs σ H1 _ R1 hb (wp_mono qb (fun c qc v H2 g2 R2 e2 i => qc v H2 (g1.trans (by rw [e1] at g2; exact g2)) R2 (e2.trans e1) (by rw [e1] at i; exact i)) fun _ z => z)
  | false => exact qb _ H1 g1 R1 e1 (.bl false)
theorem ef_orV (ha : Eff K cl ta ρs ma) (hb' : Eff K cl tc ρs mb) : Eff K cl (tOrV ta tc) ρs (fun s => ma s >>= fun x => asB x.1 >>= fun b => if b = true then .val (.bl true, x.2) else mb x.2) := fun s O bs σ H Q R hb q => by
  refine ha s O bs σ H _ R hb (wp_mono (wp_bind.mp q) (fun x qx v1 H1 g1 R1 e1 i1 => ?_) fun _ z => z)
  obtain ⟨b, eb, qb⟩ := wp_asB (wp_bind.mp qx)
  obtain ⟨x1, s1⟩ := x
  have eb' : x1 = .bl b := eb
  subst eb'
  cases i1
  refine ⟨b, rfl, ?_⟩
  cases b with
  | false => exact hb' s1 O bs σ H1 _ R1 hb (wp_mono qb (fun c qc v H2 g2 R2 e2 i => qc v H2 (g1.trans (by rw [e1] at g2; exact g2)) R2 (e2.trans e1) (by rw [e1] at i; exact i)) fun _ z => z)
  | true => exact qb _ H1 g1 R1 e1 (.bl true)
end
/-! ### list.index -/
section
variable {K : PySem.W.Frag} {cl : Str → Option Addr} {W : WX} {ρ : Ro} {ta te : TE} {ma m : Res PV}
def idxQ (ps : List PV) (k : PV) : Res PV := match flatP k, flatsP ps with
  | some y, some ys => match ys.findIdx? (fun z => eqV z y) with
    | some j => .val (.int (j : Nat))
    | none => .stuck
  | _, _ => .stuck
theorem mt_indexV (K : PySem.W.Frag) {X : Cx} (e : X.K = K) : MtR X "list.index" (rIndex K) := by subst e; exact mt_index
theorem pu_index (ha : Vw K cl W ta ρ ma) (hk : Pur K cl W te ρ m) : Pur K cl W (tBM K "list" (rIndex K) ta (tCons te tNil)) ρ (ma >>= asLi >>= fun ps => m >>= fun k => idxQ ps k) := fun O bs σ H Q R q => by
  rw [wp_bind, wp_bind] at q
  refine ha O bs σ H _ R (wp_mono q (fun x qx v1 H1 s1 i1 => ?_) fun _ z => z)
  obtain ⟨a, vs, ps, rfl, hs, hl, w⟩ := wp_asLi qx i1
  refine ⟨.inl ⟨rfl, vs, hs⟩, ?_⟩
  refine hk O bs σ H1 _ (R.same s1) (wp_mono (wp_bind.mp w) (fun k qk v2 H2 s2 i2 => ?_) fun _ z => z.mono s1)
  unfold idxQ at qk
  split at qk
  · next y ys ey eys =>
    split at qk
    · next j ej =>
      obtain ⟨rfl, fy⟩ := flatP_is i2 ey
      obtain ⟨rfl, fys⟩ := flatsP_is hl eys
      obtain ⟨h1, h2, h3⟩ := List.findIdx?_eq_some_iff_getElem.mp ej
      exact ⟨a, vs, v2, j, _, rfl, rfl, s2.sqL hs, fy, fys, List.getElem?_eq_getElem h1, h2, fun n z hn hz => by
        have hn' : n < vs.length := Nat.lt_trans hn h1
        rw [List.getElem?_eq_getElem hn'] at hz
        cases hz
        exact Bool.eq_false_iff.mpr (h3 n hn), qk _ H2 (s1.trans s2) (.int _)⟩
    · exact qk.elim
  · exact qk.elim
end
/-! ### max of three -/
def mx3 (i j k : Int) : Int := if j > i then (if k > j then k else j) else (if k > i then k else i)
def rMax3 : List V → Hp → VK → Prop := fun xs H Q => ∃ i j k, xs = [.int i, .int j, .int k] ∧ Q (.int (mx3 i j k)) H
open PySem.Spec PyProof.Rows in
theorem call_max3 {X : Cx} (hc : X.calm = true) : CallR X (.builtin "max") rMax3 := by
  intro pins s σ H xs us Q I r h
  obtain ⟨i, j, k, rfl, q⟩ := h
  cases r with
  | cons r1 r2 =>
    obtain ⟨u2, w2, rfl, ⟨t2, rfl⟩, ⟨t3, rfl⟩⟩ := vals2 r2
    obtain ⟨t1, rfl⟩ := r1
    refine max_three_ints (I.ok.hd hc) fun h' tk kp => ⟨_, H, I.kept kp, ?_, q⟩
    unfold mx3
    by_cases c1 : j > i
    · rw [if_pos c1, if_pos c1]
      by_cases c2 : k > j
      · rw [if_pos c2, if_pos c2]; exact ⟨_, rfl⟩
      · rw [if_neg c2, if_neg c2]; exact ⟨_, rfl⟩
    · rw [if_neg c1, if_neg c1]
      by_cases c2 : k > i
      · rw [if_pos c2, if_pos c2]; exact ⟨_, rfl⟩
      · rw [if_neg c2, if_neg c2]; exact ⟨_, rfl⟩
def max3P : PV → PV → PV → Res PV
  | .int i, .int j, .int k => .val (.int (mx3 i j k))
  | _, _, _ => .stuck
section
variable {K : PySem.W.Frag} {cl : Str → Option Addr} {W : WX} {ρ : Ro} {ta tb tc : TE} {ma mb mc : Res PV}
theorem pu_max3 (ha : Vw K cl W ta ρ ma) (hb : Vw K cl W tb ρ mb) (hc : Vw K cl W tc ρ mc) : Pur K cl W (tCB rMax3 (tCons ta (tCons tb (tCons tc tNil)))) ρ (ma >>= fun x => mb >>= fun y => mc >>= fun z => max3P x y z) := fun O bs σ H Q R q => by
  refine ha O bs σ H _ R (wp_mono (wp_bind.mp q) (fun x qx v1 H1 s1 i1 => ?_) fun _ z => z)
  refine hb O bs σ H1 _ (R.same s1) (wp_mono (wp_bind.mp qx) (fun y qy v2 H2 s2 i2 => ?_) fun _ z => z.mono s1)
  refine hc O bs σ H2 _ ((R.same s1).same s2) (wp_mono (wp_bind.mp qy) (fun z qz v3 H3 s3 i3 => ?_) fun _ z => z.mono (s1.trans s2))
  unfold max3P at qz
  split at qz
  · cases isV_int i1
    cases isV_int i2
    cases isV_int i3
    exact ⟨_, _, _, rfl, qz _ H3 (s1.trans (s2.trans s3)) (.int _)⟩
  · exact qz.elim
end
/-! ### tuple(reversed(list)) -/
section
variable {K : PySem.W.Frag} {cl : Str → Option Addr} {W : WX} {ρ : Ro} {ta : TE} {m : Res PV}
theorem isL_snoc {F : Hp} {v : V} {p : PV} (h : Is K cl F v p) : ∀ {vs : List V} {ps : List PV}, IsL K cl F vs ps → IsL K cl F (vs ++ [v]) (ps ++ [p])
  | _, _, .nil => .cons h .nil
  | _, _, .cons a r => .cons a (isL_snoc h r)
theorem isL_rev {F : Hp} : ∀ {vs : List V} {ps : List PV}, IsL K cl F vs ps → IsL K cl F vs.reverse ps.reverse
  | _, _, .nil => .nil
  | _, _, .cons a r => by
    rw [List.reverse_cons, List.reverse_cons]
    exact isL_snoc a (isL_rev r)
theorem pe_tupRevK (K : PySem.W.Frag) {X : Cx} (eK : X.K = K) {e : Expr} {te : TE} {p p2 pos pos2 : Pos} (hc : X.calm = true) (hg : Gl X "tuple") (hm : X.mg "tuple" = none) (hg2 : Gl X "reversed") (hm2 : X.mg "reversed" = none) (he : PE X e te)
    (hs : starEach [e] X.env = (false, eval e X.env) :: starEach [] X.env := by rfl)
    (hs2 : starEach [.Call (.Name "reversed" p2) [e] [] pos2] X.env = (false, eval (.Call (.Name "reversed" p2) [e] [] pos2) X.env) :: starEach [] X.env := by rfl) :
    PE X (.Call (.Name "tuple" p) [.Call (.Name "reversed" p2) [e] [] pos2] [] pos) (RT.tTupRev K te) := by
  subst eK
  exact RT.pe_tupRev hc hg hm hg2 hm2 he hs hs2
theorem pu_tupRev (ha : Pur K cl W ta ρ m) : Pur K cl W (RT.tTupRev K ta) ρ (m >>= asLi >>= fun ps => .val (.tup ps.reverse)) := fun O bs σ H Q R q => by
  rw [wp_bind, wp_bind] at q
  refine ha O bs σ H _ R (wp_mono q (fun x qx v1 H1 s1 i1 => ?_) fun _ z => z)
  have hA : ∀ a, a ∈ O ++ adr ρ σ → ∃ o, H1 a = some o := fun a h => (R.same s1).got h
  cases x with
  | lst ps =>
    cases i1 with
    | lst h l => exact ⟨_, _, rfl, .inl (.inl (frz_sub _ _ h)), fun p hp => qx _ _ (s1.trans (sub_new hp _)) (new_tup hA hp (isL_rev l))⟩
  | fls ps =>
    cases i1 with
    | fls h l => exact ⟨_, _, rfl, frz_sub.sqL h, fun p hp => qx _ _ (s1.trans (sub_new hp _)) (new_tup hA hp (isL_rev l))⟩
  | _ => exact qx.elim
end
def top (i : Nat) : Stmt := PySem.Challenge.pw_hushpapers_k06_table_groups.main.body.getD i (.Pass ⟨0, 0, 0, 0⟩)
abbrev sfile : Str := "/claim/cut.py"
abbrev s_Lbox : Stmt := top 20
theorem scLbox : FnScope ["script", "at", "cell"] ["script", "at"] (defScope s_Lbox) := ⟨rfl, rfl, rfl, by decide +kernel, rfl, by decide +kernel, by decide +kernel⟩
abbrev s_Lmix : Stmt := top 19
theorem scLmix : FnScope ["cell", "salt", "one"] ["cell", "salt"] (defScope s_Lmix) := ⟨rfl, rfl, rfl, by decide +kernel, rfl, by decide +kernel, by decide +kernel⟩
abbrev s_Ldraw : Stmt := top 21
theorem scLdraw : FnScope ["box", "many", "cell", "drawn"] ["box", "many"] (defScope s_Ldraw) := ⟨rfl, rfl, rfl, by decide +kernel, rfl, by decide +kernel, by decide +kernel⟩
abbrev s_Lorder : Stmt := top 25
theorem scLorder : FnScope ["box", "q", "left", "k"] ["box", "q"] (defScope s_Lorder) := ⟨rfl, rfl, rfl, by decide +kernel, rfl, by decide +kernel, by decide +kernel⟩
abbrev s_Ltable : Stmt := top 26
theorem scLtable : FnScope ["row", "q", "place", "k", "a", "b"] ["row"] (defScope s_Ltable) := ⟨rfl, rfl, rfl, by decide +kernel, rfl, by decide +kernel, by decide +kernel⟩
abbrev s_Lwith : Stmt := top 33
theorem scLwith : FnScope ["table", "a", "b", "value"] ["table", "a", "b", "value"] (defScope s_Lwith) := ⟨rfl, rfl, rfl, by decide +kernel, rfl, by decide +kernel, by decide +kernel⟩
abbrev s_Lnamed : Stmt := top 37
theorem scLnamed : FnScope ["row", "table", "q", "place", "k", "a", "b"] ["row", "table"] (defScope s_Lnamed) := ⟨rfl, rfl, rfl, by decide +kernel, rfl, by decide +kernel, by decide +kernel⟩
abbrev s_Lalone : Stmt := top 34
theorem scLalone : FnScope ["box", "row", "table", "q", "a", "places", "b", "c", "found", "line", "k", "place", "x", "y"] ["box", "row"] (defScope s_Lalone) := ⟨rfl, rfl, rfl, by decide +kernel, rfl, by decide +kernel, by decide +kernel⟩
abbrev s_Lforms : Stmt := top 38
theorem scLforms : FnScope ["box", "table", "q", "a", "b", "found", "size", "k"] ["box", "table"] (defScope s_Lforms) := ⟨rfl, rfl, rfl, by decide +kernel, rfl, by decide +kernel, by decide +kernel⟩
abbrev s_Lis_prime : Stmt := top 23
theorem scLis_prime : FnScope ["n", "k"] ["n"] (defScope s_Lis_prime) := ⟨rfl, rfl, rfl, by decide +kernel, rfl, by decide +kernel, by decide +kernel⟩
abbrev s_Lprime : Stmt := top 24
theorem scLprime : FnScope ["box", "low", "high", "at", "turn", "n"] ["box", "low", "high"] (defScope s_Lprime) := ⟨rfl, rfl, rfl, by decide +kernel, rfl, by decide +kernel, by decide +kernel⟩
abbrev s_Lis_square : Stmt := top 27
theorem scLis_square : FnScope ["table", "line", "part"] ["table"] (defScope s_Lis_square) := ⟨rfl, rfl, rfl, by decide +kernel, rfl, by decide +kernel, by decide +kernel⟩
abbrev s_Lunits : Stmt := top 28
theorem scLunits : FnScope ["table", "q", "found", "e", "a"] ["table"] (defScope s_Lunits) := ⟨rfl, rfl, rfl, by decide +kernel, rfl, by decide +kernel, by decide +kernel⟩
abbrev s_Lis_group : Stmt := top 29
theorem scLis_group : FnScope ["table", "q", "line", "a", "b", "ab", "c"] ["table"] (defScope s_Lis_group) := ⟨rfl, rfl, rfl, by decide +kernel, rfl, by decide +kernel, by decide +kernel⟩
abbrev s_Lalike : Stmt := top 22
theorem scLalike : FnScope ["told", "due", "k"] ["told", "due"] (defScope s_Lalike) := ⟨rfl, rfl, rfl, by decide +kernel, rfl, by decide +kernel, by decide +kernel⟩
abbrev s_TableGroup_multiply : Stmt := inClass (top 17) 1
theorem scTableGroup_multiply : FnScope ["self", "first", "second"] ["self", "first", "second"] (defScope s_TableGroup_multiply) := ⟨rfl, rfl, rfl, by decide +kernel, rfl, by decide +kernel, by decide +kernel⟩
abbrev s_Group__powers_of : Stmt := inClass (top 12) 1
theorem scGroup__powers_of : FnScope ["self", "element", "powers", "_"] ["self", "element"] (defScope s_Group__powers_of) := ⟨rfl, rfl, rfl, by decide +kernel, rfl, by decide +kernel, by decide +kernel⟩
abbrev s_Group___init__ : Stmt := inClass (top 12) 0
theorem scGroup___init__ : FnScope ["self", "order", "unit", "members", "exponent", "member"] ["self", "order", "unit", "members"] (defScope s_Group___init__) := ⟨rfl, rfl, rfl, by decide +kernel, rfl, by decide +kernel, by decide +kernel⟩
abbrev s__is_associative : Stmt := top 15
theorem sc_is_associative : FnScope ["table", "everyone", "a", "b", "c"] ["table"] (defScope s__is_associative) := ⟨rfl, rfl, rfl, by decide +kernel, rfl, by decide +kernel, by decide +kernel⟩
abbrev s_is_prime : Stmt := top 5
theorem scis_prime : FnScope ["n", "divisor"] ["n"] (defScope s_is_prime) := ⟨rfl, rfl, rfl, by decide +kernel, rfl, by decide +kernel, by decide +kernel⟩
abbrev s_is_tuple_of : Stmt := top 7
theorem scis_tuple_of : FnScope ["length", "value"] ["length", "value"] (defScope s_is_tuple_of) := ⟨rfl, rfl, rfl, by decide +kernel, rfl, by decide +kernel, by decide +kernel⟩
abbrev s_is_residue : Stmt := top 6
theorem scis_residue : FnScope ["q", "value"] ["q", "value"] (defScope s_is_residue) := ⟨rfl, rfl, rfl, by decide +kernel, rfl, by decide +kernel, by decide +kernel⟩
abbrev s_is_residue_row : Stmt := top 8
theorem scis_residue_row : FnScope ["q", "length", "value", "item"] ["q", "length", "value"] (defScope s_is_residue_row) := ⟨rfl, rfl, rfl, by decide +kernel, rfl, by decide +kernel, by decide +kernel⟩
abbrev s__is_square : Stmt := top 13
theorem sc_is_square : FnScope ["table", "order", "row"] ["table"] (defScope s__is_square) := ⟨rfl, rfl, rfl, by decide +kernel, rfl, by decide +kernel, by decide +kernel⟩
abbrev s__units : Stmt := top 14
theorem sc_units : FnScope ["table", "everyone", "unit", "a"] ["table"] (defScope s__units) := ⟨rfl, rfl, rfl, by decide +kernel, rfl, by decide +kernel, by decide +kernel⟩
abbrev s__is_group_table : Stmt := top 16
theorem sc_is_group_table : FnScope ["table", "row"] ["table"] (defScope s__is_group_table) := ⟨rfl, rfl, rfl, by decide +kernel, rfl, by decide +kernel, by decide +kernel⟩
abbrev s_TableGroup___init__ : Stmt := inClass (top 17) 0
theorem scTableGroup___init__ : ScopeS ["self", "table"] ["self", "table"] (defScope s_TableGroup___init__) := ⟨rfl, rfl, rfl, by decide +kernel, rfl, by decide +kernel, by decide +kernel⟩
abbrev s_Lasked : Stmt := top 30
theorem scLasked : FnScope ["table", "made"] ["table"] (defScope s_Lasked) := ⟨rfl, rfl, rfl, by decide +kernel, rfl, by decide +kernel, by decide +kernel⟩
abbrev s_Lright : Stmt := top 31
theorem scLright : FnScope ["table", "due", "a"] ["table"] (defScope s_Lright) := ⟨rfl, rfl, rfl, by decide +kernel, rfl, by decide +kernel, by decide +kernel⟩
abbrev s_Group_power : Stmt := inClass (top 12) 3
theorem scGroup_power : FnScope ["self", "element", "exponent"] ["self", "element", "exponent"] (defScope s_Group_power) := ⟨rfl, rfl, rfl, by decide +kernel, rfl, by decide +kernel, by decide +kernel⟩
abbrev s_Group_inverse_of : Stmt := inClass (top 12) 4
theorem scGroup_inverse_of : FnScope ["self", "element"] ["self", "element"] (defScope s_Group_inverse_of) := ⟨rfl, rfl, rfl, by decide +kernel, rfl, by decide +kernel, by decide +kernel⟩
abbrev s_Group_has : Stmt := inClass (top 12) 7
theorem scGroup_has : FnScope ["self", "value"] ["self", "value"] (defScope s_Group_has) := ⟨rfl, rfl, rfl, by decide +kernel, rfl, by decide +kernel, by decide +kernel⟩
abbrev s_Lmultiplies : Stmt := top 32
theorem scLmultiplies : FnScope ["box", "row", "table", "made", "q", "turn", "i", "k", "due", "value"] ["box", "row"] (defScope s_Lmultiplies) := ⟨rfl, rfl, rfl, by decide +kernel, rfl, by decide +kernel, by decide +kernel⟩
abbrev s_Llonger : Stmt := top 36
theorem scLlonger : FnScope ["square", "lines", "found", "line", "k", "other"] ["square", "lines"] (defScope s_Llonger) := ⟨rfl, rfl, rfl, by decide +kernel, rfl, by decide +kernel, by decide +kernel⟩
abbrev s_Lloop : Stmt := top 35
theorem scLloop : FnScope ["box", "lines", "place", "wider", "line", "part", "squares", "a", "found", "square"] ["box"] (defScope s_Lloop) := ⟨rfl, rfl, rfl, by decide +kernel, rfl, by decide +kernel, by decide +kernel⟩
abbrev s_law : Stmt := top 39
theorem sclaw : FnScope ["script", "box", "far", "row", "few", "table"] ["script"] (defScope s_law) := ⟨rfl, rfl, rfl, by decide +kernel, rfl, by decide +kernel, by decide +kernel⟩
def g_TableGroup___init___1_table {α : Type} (us ws : List α) : List α := match us, ws with | [u0], [w0] => [u0, w0] | _, _ => []
theorem g_TableGroup___init___1_table_rel {vs : List V} {us : List Value} {zs : List V} {ws : List Value} (r : Vals vs us) (q : Vals zs ws) : Vals (g_TableGroup___init___1_table vs zs) (g_TableGroup___init___1_table us ws) := by
  unfold g_TableGroup___init___1_table
  split
  · match r, q with | (.cons r0 .nil), (.cons q0 .nil) => exact (.cons r0 (.cons q0 .nil))
  · next h =>
    split
    · match r, q with | (.cons r0 .nil), (.cons q0 .nil) => exact (h _ _ rfl rfl).elim
    · exact .nil
theorem g_TableGroup___init___1_table_rel' : True := True.intro
def g_TableGroup_multiply_1_second_first {α : Type} (us ws : List α) : List α := match us, ws with | [u0], [w0, w1] => [u0, w1, w0] | _, _ => []
theorem g_TableGroup_multiply_1_second_first_rel {vs : List V} {us : List Value} {zs : List V} {ws : List Value} (r : Vals vs us) (q : Vals zs ws) : Vals (g_TableGroup_multiply_1_second_first vs zs) (g_TableGroup_multiply_1_second_first us ws) := by
  unfold g_TableGroup_multiply_1_second_first
  split
  · match r, q with | (.cons r0 .nil), (.cons q0 (.cons q1 .nil)) => exact (.cons r0 (.cons q1 (.cons q0 .nil)))
  · next h =>
    split
    · match r, q with | (.cons r0 .nil), (.cons q0 (.cons q1 .nil)) => exact (h _ _ _ rfl rfl).elim
    · exact .nil
theorem g_TableGroup_multiply_1_second_first_rel' : True := True.intro
structure Top (P : Program) (K : PySem.W.Frag) (mg : Str → Option Value) where
  c_TableGroup : Addr
  f__law_box : Addr
  d__law_box : FuncData
  F__law_box : Fun K "_law_box" "_law_box" s_Lbox f__law_box d__law_box
  m__law_box : mg "_law_box" = some (.ref f__law_box)
  b__law_box : Binds K d__law_box ["script", "at"] []
  f__law_mix : Addr
  d__law_mix : FuncData
  F__law_mix : Fun K "_law_mix" "_law_mix" s_Lmix f__law_mix d__law_mix
  m__law_mix : mg "_law_mix" = some (.ref f__law_mix)
  b__law_mix : Binds K d__law_mix ["cell", "salt"] []
  f__law_draw : Addr
  d__law_draw : FuncData
  F__law_draw : Fun K "_law_draw" "_law_draw" s_Ldraw f__law_draw d__law_draw
  m__law_draw : mg "_law_draw" = some (.ref f__law_draw)
  b__law_draw : Binds K d__law_draw ["box", "many"] []
  f__law_order : Addr
  d__law_order : FuncData
  F__law_order : Fun K "_law_order" "_law_order" s_Lorder f__law_order d__law_order
  m__law_order : mg "_law_order" = some (.ref f__law_order)
  b__law_order : Binds K d__law_order ["box", "q"] []
  f__law_table : Addr
  d__law_table : FuncData
  F__law_table : Fun K "_law_table" "_law_table" s_Ltable f__law_table d__law_table
  m__law_table : mg "_law_table" = some (.ref f__law_table)
  b__law_table : Binds K d__law_table ["row"] []
  f__law_with : Addr
  d__law_with : FuncData
  F__law_with : Fun K "_law_with" "_law_with" s_Lwith f__law_with d__law_with
  m__law_with : mg "_law_with" = some (.ref f__law_with)
  b__law_with : Binds K d__law_with ["table", "a", "b", "value"] []
  f__law_named : Addr
  d__law_named : FuncData
  F__law_named : Fun K "_law_named" "_law_named" s_Lnamed f__law_named d__law_named
  m__law_named : mg "_law_named" = some (.ref f__law_named)
  b__law_named : Binds K d__law_named ["row", "table"] []
  f__law_alone : Addr
  d__law_alone : FuncData
  F__law_alone : Fun K "_law_alone" "_law_alone" s_Lalone f__law_alone d__law_alone
  m__law_alone : mg "_law_alone" = some (.ref f__law_alone)
  b__law_alone : Binds K d__law_alone ["box", "row"] []
  f__law_forms : Addr
  d__law_forms : FuncData
  F__law_forms : Fun K "_law_forms" "_law_forms" s_Lforms f__law_forms d__law_forms
  m__law_forms : mg "_law_forms" = some (.ref f__law_forms)
  b__law_forms : Binds K d__law_forms ["box", "table"] []
  f__law_is_prime : Addr
  d__law_is_prime : FuncData
  F__law_is_prime : Fun K "_law_is_prime" "_law_is_prime" s_Lis_prime f__law_is_prime d__law_is_prime
  m__law_is_prime : mg "_law_is_prime" = some (.ref f__law_is_prime)
  b__law_is_prime : Binds K d__law_is_prime ["n"] []
  f__law_prime : Addr
  d__law_prime : FuncData
  F__law_prime : Fun K "_law_prime" "_law_prime" s_Lprime f__law_prime d__law_prime
  m__law_prime : mg "_law_prime" = some (.ref f__law_prime)
  b__law_prime : Binds K d__law_prime ["box", "low", "high"] []
  f__law_is_square : Addr
  d__law_is_square : FuncData
  F__law_is_square : Fun K "_law_is_square" "_law_is_square" s_Lis_square f__law_is_square d__law_is_square
  m__law_is_square : mg "_law_is_square" = some (.ref f__law_is_square)
  b__law_is_square : Binds K d__law_is_square ["table"] []
  f__law_units : Addr
  d__law_units : FuncData
  F__law_units : Fun K "_law_units" "_law_units" s_Lunits f__law_units d__law_units
  m__law_units : mg "_law_units" = some (.ref f__law_units)
  b__law_units : Binds K d__law_units ["table"] []
  f__law_is_group : Addr
  d__law_is_group : FuncData
  F__law_is_group : Fun K "_law_is_group" "_law_is_group" s_Lis_group f__law_is_group d__law_is_group
  m__law_is_group : mg "_law_is_group" = some (.ref f__law_is_group)
  b__law_is_group : Binds K d__law_is_group ["table"] []
  f__law_alike : Addr
  d__law_alike : FuncData
  F__law_alike : Fun K "_law_alike" "_law_alike" s_Lalike f__law_alike d__law_alike
  m__law_alike : mg "_law_alike" = some (.ref f__law_alike)
  b__law_alike : Binds K d__law_alike ["told", "due"] []
  f_TableGroup_multiply : Addr
  d_TableGroup_multiply : FuncData
  F_TableGroup_multiply : Fun K "multiply" "TableGroup.multiply" s_TableGroup_multiply f_TableGroup_multiply d_TableGroup_multiply
  b_TableGroup_multiply : Binds K d_TableGroup_multiply ["self", "first", "second"] []
  f_Group__powers_of : Addr
  d_Group__powers_of : FuncData
  F_Group__powers_of : Fun K "_powers_of" "Group._powers_of" s_Group__powers_of f_Group__powers_of d_Group__powers_of
  b_Group__powers_of : Binds K d_Group__powers_of ["self", "element"] []
  f_Group___init__ : Addr
  d_Group___init__ : FuncData
  F_Group___init__ : Fun K "__init__" "Group.__init__" s_Group___init__ f_Group___init__ d_Group___init__
  b_Group___init__ : Binds K d_Group___init__ ["self", "order", "unit", "members"] []
  f__is_associative : Addr
  d__is_associative : FuncData
  F__is_associative : Fun K "_is_associative" "_is_associative" s__is_associative f__is_associative d__is_associative
  m__is_associative : mg "_is_associative" = some (.ref f__is_associative)
  b__is_associative : Binds K d__is_associative ["table"] []
  f_is_prime : Addr
  d_is_prime : FuncData
  F_is_prime : Fun K "is_prime" "is_prime" s_is_prime f_is_prime d_is_prime
  m_is_prime : mg "is_prime" = some (.ref f_is_prime)
  b_is_prime : Binds K d_is_prime ["n"] []
  f_is_tuple_of : Addr
  d_is_tuple_of : FuncData
  F_is_tuple_of : Fun K "is_tuple_of" "is_tuple_of" s_is_tuple_of f_is_tuple_of d_is_tuple_of
  m_is_tuple_of : mg "is_tuple_of" = some (.ref f_is_tuple_of)
  b_is_tuple_of : Binds K d_is_tuple_of ["length", "value"] []
  f_is_residue : Addr
  d_is_residue : FuncData
  F_is_residue : Fun K "is_residue" "is_residue" s_is_residue f_is_residue d_is_residue
  m_is_residue : mg "is_residue" = some (.ref f_is_residue)
  b_is_residue : Binds K d_is_residue ["q", "value"] []
  f_is_residue_row : Addr
  d_is_residue_row : FuncData
  F_is_residue_row : Fun K "is_residue_row" "is_residue_row" s_is_residue_row f_is_residue_row d_is_residue_row
  m_is_residue_row : mg "is_residue_row" = some (.ref f_is_residue_row)
  b_is_residue_row : Binds K d_is_residue_row ["q", "length", "value"] []
  f__is_square : Addr
  d__is_square : FuncData
  F__is_square : Fun K "_is_square" "_is_square" s__is_square f__is_square d__is_square
  m__is_square : mg "_is_square" = some (.ref f__is_square)
  b__is_square : Binds K d__is_square ["table"] []
  f__units : Addr
  d__units : FuncData
  F__units : Fun K "_units" "_units" s__units f__units d__units
  m__units : mg "_units" = some (.ref f__units)
  b__units : Binds K d__units ["table"] []
  f__is_group_table : Addr
  d__is_group_table : FuncData
  F__is_group_table : Fun K "_is_group_table" "_is_group_table" s__is_group_table f__is_group_table d__is_group_table
  m__is_group_table : mg "_is_group_table" = some (.ref f__is_group_table)
  b__is_group_table : Binds K d__is_group_table ["table"] []
  f_TableGroup___init__ : Addr
  d_TableGroup___init__ : FuncData
  cc_TableGroup___init__ : Addr
  cda_TableGroup___init__ : Addr
  F_TableGroup___init__ : FunS K "__init__" "TableGroup.__init__" s_TableGroup___init__ f_TableGroup___init__ c_TableGroup cc_TableGroup___init__ cda_TableGroup___init__ d_TableGroup___init__
  su_TableGroup___init__ : Sup K f_TableGroup___init__ c_TableGroup cc_TableGroup___init__ cda_TableGroup___init__ f_Group___init__ d_TableGroup___init__ "self" "__init__" sfile
  sg_TableGroup___init__ : PySem.W.fnIn K f_Group___init__ = true
  b_TableGroup___init__ : Binds K d_TableGroup___init__ ["self", "table"] []
  f__law_asked : Addr
  d__law_asked : FuncData
  F__law_asked : Fun K "_law_asked" "_law_asked" s_Lasked f__law_asked d__law_asked
  m__law_asked : mg "_law_asked" = some (.ref f__law_asked)
  b__law_asked : Binds K d__law_asked ["table"] []
  f__law_right : Addr
  d__law_right : FuncData
  F__law_right : Fun K "_law_right" "_law_right" s_Lright f__law_right d__law_right
  m__law_right : mg "_law_right" = some (.ref f__law_right)
  b__law_right : Binds K d__law_right ["table"] []
  f_Group_power : Addr
  d_Group_power : FuncData
  F_Group_power : Fun K "power" "Group.power" s_Group_power f_Group_power d_Group_power
  b_Group_power : Binds K d_Group_power ["self", "element", "exponent"] []
  f_Group_inverse_of : Addr
  d_Group_inverse_of : FuncData
  F_Group_inverse_of : Fun K "inverse_of" "Group.inverse_of" s_Group_inverse_of f_Group_inverse_of d_Group_inverse_of
  b_Group_inverse_of : Binds K d_Group_inverse_of ["self", "element"] []
  f_Group_has : Addr
  d_Group_has : FuncData
  F_Group_has : Fun K "has" "Group.has" s_Group_has f_Group_has d_Group_has
  b_Group_has : Binds K d_Group_has ["self", "value"] []
  f__law_multiplies : Addr
  d__law_multiplies : FuncData
  F__law_multiplies : Fun K "_law_multiplies" "_law_multiplies" s_Lmultiplies f__law_multiplies d__law_multiplies
  m__law_multiplies : mg "_law_multiplies" = some (.ref f__law_multiplies)
  b__law_multiplies : Binds K d__law_multiplies ["box", "row"] []
  f__law_longer : Addr
  d__law_longer : FuncData
  F__law_longer : Fun K "_law_longer" "_law_longer" s_Llonger f__law_longer d__law_longer
  m__law_longer : mg "_law_longer" = some (.ref f__law_longer)
  b__law_longer : Binds K d__law_longer ["square", "lines"] []
  f__law_loop : Addr
  d__law_loop : FuncData
  F__law_loop : Fun K "_law_loop" "_law_loop" s_Lloop f__law_loop d__law_loop
  m__law_loop : mg "_law_loop" = some (.ref f__law_loop)
  b__law_loop : Binds K d__law_loop ["box"] []
  f_law : Addr
  d_law : FuncData
  F_law : Fun K "law" "law" s_law f_law d_law
  m_law : mg "law" = some (.ref f_law)
  b_law : Binds K d_law ["script"] []
  k_TableGroup___init___1_table : KBinds K d_TableGroup___init__ ["self", "table"] ["table"] (g_TableGroup___init___1_table) (g_TableGroup___init___1_table)
  k_TableGroup_multiply_1_second_first : KBinds K d_TableGroup_multiply ["self", "first", "second"] ["second", "first"] (g_TableGroup_multiply_1_second_first) (g_TableGroup_multiply_1_second_first)
  hfile : (P.main.file == sfile) = true
  htop : (P.main.scope.names.lookup ("super" : Str)).isSome = false
  m_TableGroup : mg "TableGroup" = some (.ref c_TableGroup)
  cls_TableGroup : Cls K c_TableGroup
  mk_TableGroup : Mk K c_TableGroup f_TableGroup___init__
  me_TableGroup__powers_of : Meth K c_TableGroup "_powers_of" f_Group__powers_of
  me_TableGroup_has : Meth K c_TableGroup "has" f_Group_has
  me_TableGroup_inverse_of : Meth K c_TableGroup "inverse_of" f_Group_inverse_of
  me_TableGroup_multiply : Meth K c_TableGroup "multiply" f_TableGroup_multiply
  me_TableGroup_power : Meth K c_TableGroup "power" f_Group_power
  na_TableGroup__exponents : NoAttr K c_TableGroup "_exponents"
  na_TableGroup__powers : NoAttr K c_TableGroup "_powers"
  na_TableGroup_generator : NoAttr K c_TableGroup "generator"
  na_TableGroup_members : NoAttr K c_TableGroup "members"
  na_TableGroup_order : NoAttr K c_TableGroup "order"
  na_TableGroup_table : NoAttr K c_TableGroup "table"
  na_TableGroup_unit : NoAttr K c_TableGroup "unit"
  z_all : mg "all" = none
  z_bool : mg "bool" = none
  z_enumerate : mg "enumerate" = none
  z_int : mg "int" = none
  z_isinstance : mg "isinstance" = none
  z_len : mg "len" = none
  z_list : mg "list" = none
  z_max : mg "max" = none
  z_range : mg "range" = none
  z_reversed : mg "reversed" = none
  z_set : mg "set" = none
  z_str : mg "str" = none
  z_super : mg "super" = none
  z_tuple : mg "tuple" = none
  c_BadGroup : Addr
  m_BadGroup : mg "BadGroup" = some (.ref c_BadGroup)
  kc_BadGroup : PySem.W.keepIn K (.ref c_BadGroup) = true
  s_BadGroup : PySem.W.subIn K (.ref c_BadGroup) (.type "BaseException") = some true
  t_BadGroup : PySem.W.typeIn K (.ref c_BadGroup) = some (.type "type")
  i_BadGroup : PySem.W.isClsIn K c_BadGroup = true
  hd_BadGroup : PySem.W.hasDictIn K c_BadGroup = true
  x_BadGroup : PySem.W.excIn K c_BadGroup [.type "ValueError", .type "Exception", .type "BaseException", .type "object"] "ValueError.__new__" = true
  u_BadGroup_BadGroup : PySem.W.subIn K (.ref c_BadGroup) (.ref c_BadGroup) = some true
  n_LARGEST_TABLE_ORDER : ∃ t, mg "LARGEST_TABLE_ORDER" = some (.int 13 t)
  n_SMALLEST_ORDER : ∃ t, mg "SMALLEST_ORDER" = some (.int 3 t)
  i_get : PySem.W.specialIn K (.builtin "object.__class__") "__get__" = some (some (.builtin "getset_descriptor.__get__"))
  i_tk : PySem.W.takesIn K (.builtin "object.__class__") = some true
  c_Group : Addr
  m_Group : mg "Group" = some (.ref c_Group)
  ic_TableGroup : PySem.W.findIn K (.ref c_TableGroup) "__class__" = some (some (.builtin "object.__class__"))
  io_TableGroup : PySem.W.mroIn K c_TableGroup (.type "object") = some true
  iu_TableGroup_Group : PySem.W.subIn K (.ref c_TableGroup) (.ref c_Group) = some true
  iw_Group : PySem.W.hasDictIn K c_Group = true
  iy_Group : PySem.W.typeIn K (.ref c_Group) = some (.type "type")
def clT {P : Program} {K : PySem.W.Frag} {mg : Str → Option Value} (T : Top P K mg) : Str → Option Addr := fun s => if s = "BadGroup" then some T.c_BadGroup else if s = "TableGroup" then some T.c_TableGroup else none
theorem Top.ce_BadGroup {P : Program} {K : PySem.W.Frag} {mg : Str → Option Value} (T : Top P K mg) : clT T "BadGroup" = some T.c_BadGroup := by
  unfold clT
  simp (config := { decide := true }) only [if_true, if_false]
theorem Top.ce_TableGroup {P : Program} {K : PySem.W.Frag} {mg : Str → Option Value} (T : Top P K mg) : clT T "TableGroup" = some T.c_TableGroup := by
  unfold clT
  simp (config := { decide := true }) only [if_true, if_false]
def cs__exponents : List Str := ["TableGroup"]
theorem Top.fl__exponents {P : Program} {K : PySem.W.Frag} {mg : Str → Option Value} (T : Top P K mg) : ∀ C, C ∈ cs__exponents → ∀ c, clT T C = some c → Cls K c ∧ NoAttr K c "_exponents" := by
  intro C hC c hc
  simp only [cs__exponents, List.mem_cons, List.not_mem_nil, or_false] at hC
  rcases hC with rfl
  · rw [T.ce_TableGroup] at hc
    cases hc
    exact ⟨T.cls_TableGroup, T.na_TableGroup__exponents⟩
def cs__powers : List Str := ["TableGroup"]
theorem Top.fl__powers {P : Program} {K : PySem.W.Frag} {mg : Str → Option Value} (T : Top P K mg) : ∀ C, C ∈ cs__powers → ∀ c, clT T C = some c → Cls K c ∧ NoAttr K c "_powers" := by
  intro C hC c hc
  simp only [cs__powers, List.mem_cons, List.not_mem_nil, or_false] at hC
  rcases hC with rfl
  · rw [T.ce_TableGroup] at hc
    cases hc
    exact ⟨T.cls_TableGroup, T.na_TableGroup__powers⟩
def cs_generator : List Str := ["TableGroup"]
theorem Top.fl_generator {P : Program} {K : PySem.W.Frag} {mg : Str → Option Value} (T : Top P K mg) : ∀ C, C ∈ cs_generator → ∀ c, clT T C = some c → Cls K c ∧ NoAttr K c "generator" := by
  intro C hC c hc
  simp only [cs_generator, List.mem_cons, List.not_mem_nil, or_false] at hC
  rcases hC with rfl
  · rw [T.ce_TableGroup] at hc
    cases hc
    exact ⟨T.cls_TableGroup, T.na_TableGroup_generator⟩
def cs_members : List Str := ["TableGroup"]
theorem Top.fl_members {P : Program} {K : PySem.W.Frag} {mg : Str → Option Value} (T : Top P K mg) : ∀ C, C ∈ cs_members → ∀ c, clT T C = some c → Cls K c ∧ NoAttr K c "members" := by
  intro C hC c hc
  simp only [cs_members, List.mem_cons, List.not_mem_nil, or_false] at hC
  rcases hC with rfl
  · rw [T.ce_TableGroup] at hc
    cases hc
    exact ⟨T.cls_TableGroup, T.na_TableGroup_members⟩
def cs_order : List Str := ["TableGroup"]
theorem Top.fl_order {P : Program} {K : PySem.W.Frag} {mg : Str → Option Value} (T : Top P K mg) : ∀ C, C ∈ cs_order → ∀ c, clT T C = some c → Cls K c ∧ NoAttr K c "order" := by
  intro C hC c hc
  simp only [cs_order, List.mem_cons, List.not_mem_nil, or_false] at hC
  rcases hC with rfl
  · rw [T.ce_TableGroup] at hc
    cases hc
    exact ⟨T.cls_TableGroup, T.na_TableGroup_order⟩
def cs_table : List Str := ["TableGroup"]
theorem Top.fl_table {P : Program} {K : PySem.W.Frag} {mg : Str → Option Value} (T : Top P K mg) : ∀ C, C ∈ cs_table → ∀ c, clT T C = some c → Cls K c ∧ NoAttr K c "table" := by
  intro C hC c hc
  simp only [cs_table, List.mem_cons, List.not_mem_nil, or_false] at hC
  rcases hC with rfl
  · rw [T.ce_TableGroup] at hc
    cases hc
    exact ⟨T.cls_TableGroup, T.na_TableGroup_table⟩
def cs_unit : List Str := ["TableGroup"]
theorem Top.fl_unit {P : Program} {K : PySem.W.Frag} {mg : Str → Option Value} (T : Top P K mg) : ∀ C, C ∈ cs_unit → ∀ c, clT T C = some c → Cls K c ∧ NoAttr K c "unit" := by
  intro C hC c hc
  simp only [cs_unit, List.mem_cons, List.not_mem_nil, or_false] at hC
  rcases hC with rfl
  · rw [T.ce_TableGroup] at hc
    cases hc
    exact ⟨T.cls_TableGroup, T.na_TableGroup_unit⟩
def it_Group : List (Str × Bool) := [("TableGroup", true)]
theorem Top.isi_Group {P : Program} {K : PySem.W.Frag} {mg : Str → Option Value} (T : Top P K mg) : ∀ C b, it_Group.lookup C = some b → ∀ c, clT T C = some c → InsK K c ∧ PySem.W.kitOne K (.ref c) (.ref T.c_Group) = some b := by
  intro C b h c hc
  unfold it_Group at h
  rw [List.lookup_cons] at h
  by_cases e_TableGroup : (C == "TableGroup") = true
  · rw [e_TableGroup] at h
    cases (Option.some.inj h)
    cases (eq_of_beq e_TableGroup)
    rw [T.ce_TableGroup] at hc
    cases hc
    exact ⟨⟨T.cls_TableGroup, T.ic_TableGroup, T.i_get, T.i_tk, T.io_TableGroup⟩, kit_ownC T.iw_Group T.iy_Group T.iu_TableGroup_Group⟩
  rw [Bool.eq_false_iff.mpr e_TableGroup] at h
  cases h
def hit_BadGroup : Str → Option Bool := fun s => if s = "BadGroup" then some true else none
theorem Top.hit_BadGroup {P : Program} {K : PySem.W.Frag} {mg : Str → Option Value} (T : Top P K mg) : ∀ c' C b, clT T c' = some C → Toy.hit_BadGroup c' = some b → PySem.W.exmOne K (.ref C) (.ref T.c_BadGroup) = some b := by
  intro c' C b h1 h2
  unfold Toy.hit_BadGroup at h2
  by_cases e_BadGroup : c' = "BadGroup"
  · subst e_BadGroup
    rw [if_pos rfl] at h2
    cases (Option.some.inj ((T.ce_BadGroup).symm.trans h1))
    cases (Option.some.inj h2)
    exact PySem.W.exm_ref T.s_BadGroup T.hd_BadGroup T.t_BadGroup T.u_BadGroup_BadGroup
  rw [if_neg e_BadGroup] at h2
  cases h2
section
variable {P : Program} {w : World} {K : PySem.W.Frag} {mg : Str → Option Value} {base : Heap}
theorem g_TableGroup___init___1_table_is {K : PySem.W.Frag} {cl : Str → Option Addr} {F : Hp} {vs : List V} {ps : List PV} {ws : List V} {zs : List PV} (r : IsL K cl F vs ps) (q : IsL K cl F ws zs) : IsL K cl F (g_TableGroup___init___1_table vs ws) (g_TableGroup___init___1_table ps zs) := by
  unfold g_TableGroup___init___1_table
  split
  · match r, q with | (.cons r0 .nil), (.cons q0 .nil) => exact (.cons r0 (.cons q0 .nil))
  · next h =>
    split
    · match r, q with | (.cons r0 .nil), (.cons q0 .nil) => exact (h _ _ rfl rfl).elim
    · exact .nil
theorem g_TableGroup_multiply_1_second_first_is {K : PySem.W.Frag} {cl : Str → Option Addr} {F : Hp} {vs : List V} {ps : List PV} {ws : List V} {zs : List PV} (r : IsL K cl F vs ps) (q : IsL K cl F ws zs) : IsL K cl F (g_TableGroup_multiply_1_second_first vs ws) (g_TableGroup_multiply_1_second_first ps zs) := by
  unfold g_TableGroup_multiply_1_second_first
  split
  · match r, q with | (.cons r0 .nil), (.cons q0 (.cons q1 .nil)) => exact (.cons r0 (.cons q1 (.cons q0 .nil)))
  · next h =>
    split
    · match r, q with | (.cons r0 .nil), (.cons q0 (.cons q1 .nil)) => exact (h _ _ _ rfl rfl).elim
    · exact .nil
theorem g_TableGroup___init___1_table_tl {K : PySem.W.Frag} {cl : Str → Option Addr} {F : Hp} {vs : List V} {ps : List PV} {ws : List V} {zs : List PV} (x : V) (r : IsL K cl F vs ps) (q : IsL K cl F ws zs) : ∀ p as, g_TableGroup___init___1_table (.non :: ps) zs = p :: as → ∃ us, g_TableGroup___init___1_table (x :: vs) ws = x :: us ∧ IsL K cl F us as := by
  intro p as h
  unfold g_TableGroup___init___1_table at h
  split at h
  · rename_i e2
    cases e2
    cases h
    match r, q with | .nil, (.cons q0 .nil) => exact ⟨_, rfl, (.cons q0 .nil)⟩
  · cases h
def m__law_box (a_script : PV) (a_at : PV) : Res MO := retN ((((Res.val (PV.int 0)) >>= fun x14 => ((Res.val (PV.int 0)) >>= fun x12 => ((Res.val a_at) >>= fun x10 => ((Res.val (PV.int 0)) >>= fun x8 => ((Res.val a_at) >>= fun x6 => (((((Res.val a_script) >>= asSq) >>= fun ps2 => sized ps2.length >>= fun _ => lcF (fun x => Res.val x) (fun (a1 : PV) => (Res.val true)) (fun (a1 : PV) => ((Res.val a1) >>= intP)) ps2) >>= fun ps3 => Res.val (PV.lst ps3)) >>= fun x4 => (Res.val []) >>= fun xs5 => Res.val (x4 :: xs5)) >>= fun xs7 => Res.val (x6 :: xs7)) >>= fun xs9 => Res.val (x8 :: xs9)) >>= fun xs11 => Res.val (x10 :: xs11)) >>= fun xs13 => Res.val (x12 :: xs13)) >>= fun xs15 => Res.val (x14 :: xs15)) >>= mkN) >>= fun l16 => Res.val (.ro (.lst l16)))
theorem ok__law_box (T : Top P K mg) : FnOk P w K mg base (L2.CX P w) 1 T.f__law_box T.d__law_box ["script", "at"] (spN K (clT T) (apN2 m__law_box)) := by
  refine fnN T.F__law_box scLbox rfl taknN2 fun cdv A outer s H E hr qs hq => ?_
  match qs, hq with
  | [a_script, a_at], _ => exact ⟨_, (pss_one (ps_ret (pe_lst (pa_cons pe_int (pa_cons pe_int (pa_cons (pv 1) (pa_cons pe_int (pa_cons (pv 1) (pa_cons (pe_lc (own := [("cell", 2)]) (g := gName 2) (tt := tYes) rfl scLbox.nd (pi_seqV K rfl (pv 0)) (blkOk_by (own := [("cell", 2)]) (N := ["script", "at", "cell"]) (sc := defScope s_Lbox) (by decide +kernel)) (fun _ _ _ _ _ => (pg_name (i := 2) scLbox.nd rfl (Or.inl rfl))) (fun _ _ _ _ _ => pts_nil) (fun _ _ _ _ _ => (pe_callTy call_intV (by rfl) T.z_int (by decide +kernel) (pa_cons (pv 2) pa_nil)))) pa_nil))))))))),
    _, run_one (run_retNew (nw_lst (pl_cons pu_int (pl_cons pu_int (pl_cons (pu_var rfl) (pl_cons pu_int (pl_cons (pu_var rfl) (pl_cons (New.pur (nw_lc (ρe := fun (a1 : PV) => [(.fz a_script), (.fz a_at), (.fz a1)]) (Iter.view (it_seq (pu_var rfl))) rfl (by decide) (tg_name (i := 2) rfl (Or.inr (by decide))) (fun a1 => ts_yes) (fun a1 => (pu_cb1 b1_int (Pur.vw (pu_var rfl)))))) pl_nil))))))) (wk_uns rfl)), rfl⟩
def m__law_mix (a_cell a_salt : PV) : Res PV := retF (((((((Res.val a_cell) >>= fun x1 => (Res.val (PV.int 48271)) >>= fun x2 => mulP x1 x2) >>= fun x5 => ((Res.val a_salt) >>= fun x3 => (Res.val (PV.int 69621)) >>= fun x4 => mulP x3 x4) >>= fun x6 => addP x5 x6) >>= fun x7 => (Res.val (PV.int 12345)) >>= fun x8 => addP x7 x8) >>= intP) >>= fun x9 => (Res.val (PV.int 2147483647)) >>= fun x10 => modP x9 x10) >>= fun x11 => (((((((Res.val x11) >>= fun x12 => (Res.val x11) >>= fun x13 => mulP x12 x13) >>= fun x16 => ((Res.val x11) >>= fun x14 => (Res.val (PV.int 16807)) >>= fun x15 => mulP x14 x15) >>= fun x17 => addP x16 x17) >>= fun x20 => ((Res.val a_salt) >>= fun x18 => (Res.val (PV.int 7919)) >>= fun x19 => mulP x18 x19) >>= fun x21 => addP x20 x21) >>= intP) >>= fun x22 => (Res.val (PV.int 2147483629)) >>= fun x23 => modP x22 x23) >>= fun v24 => Res.val (.rt v24 [])))
theorem ok__law_mix (T : Top P K mg) : FnOk P w K mg base (L2.CX P w) 1 T.f__law_mix T.d__law_mix ["cell", "salt"] (spP K (clT T) (ap2 m__law_mix)) := by
  refine fnP T.F__law_mix scLmix rfl takn2 fun cdv A outer s H E hr qs hq => ?_
  match qs, hq with
  | [a_cell, a_salt], _ => exact ⟨_, (pss_cons (ps_set (i := 2) scLmix.nd rfl (Or.inl rfl) (pe_op op_modN (pe_callTy call_intV (by rfl) T.z_int (by decide +kernel) (pa_cons (pe_op (op_addV K rfl) (pe_op (op_addV K rfl) (pe_op op_mulV (pv 0) pe_int) (pe_op op_mulV (pv 1) pe_int)) pe_int) pa_nil)) pe_int))
      (pss_one (ps_ret (pe_op op_modN (pe_callTy call_intV (by rfl) T.z_int (by decide +kernel) (pa_cons (pe_op (op_addV K rfl) (pe_op (op_addV K rfl) (pe_op op_mulV (pv 2) (pv 2)) (pe_op op_mulV (pv 2) pe_int)) (pe_op op_mulV (pv 1) pe_int)) pa_nil)) pe_int)))),
    _, run_one (run_assoc (run_set (i := 2) (pu_op o2_mod (Pur.vw (pu_cb1 b1_int (Pur.vw (pu_op o2_add (Pur.vw (pu_op o2_add (Pur.vw (pu_op o2_mul (Pur.vw (pu_var rfl)) (Pur.vw pu_int))) (Pur.vw (pu_op o2_mul (Pur.vw (pu_var rfl)) (Pur.vw pu_int))))) (Pur.vw pu_int))))) (Pur.vw pu_int)) rfl (wk_uns rfl) fun x11 => (run_ret (pu_op o2_mod (Pur.vw (pu_cb1 b1_int (Pur.vw (pu_op o2_add (Pur.vw (pu_op o2_add (Pur.vw (pu_op o2_mul (Pur.vw (pu_var rfl)) (Pur.vw (pu_var rfl)))) (Pur.vw (pu_op o2_mul (Pur.vw (pu_var rfl)) (Pur.vw pu_int))))) (Pur.vw (pu_op o2_mul (Pur.vw (pu_var rfl)) (Pur.vw pu_int))))))) (Pur.vw pu_int)) rfl rfl (wk_uns rfl)))), rfl⟩
def m__law_draw (mo : MO) (a_many : PV) : Res (PV × MO) := match mo with
  | .lst a_box => retR (seqF (S1 := List PV) ((((((Res.val (PV.lst a_box)) >>= fun x7 => (Res.val (PV.int 1)) >>= fun x8 => ixP x7 x8) >>= fun x9 => (Res.val (PV.int 0)) >>= fun x10 => eqP x9 x10) >>= asB) >>= fun b11 => if b11 = true then ((((Res.val (PV.lst a_box)) >>= fun x1 => (Res.val (PV.int 2)) >>= fun x2 => ixP x1 x2) >>= fun x5 => (((Res.val (PV.lst a_box)) >>= fun x3 => (Res.val (PV.int 5)) >>= fun x4 => ixP x3 x4) >>= lenP) >>= fun x6 => ltP x5 x6) >>= asB) else Res.val false) >>= fun b12 => if b12 = true then ((((Res.val (PV.lst a_box)) >>= fun x14 => (Res.val (PV.int 5)) >>= fun x15 => ixP x14 x15) >>= fun x18 => ((Res.val (PV.lst a_box)) >>= fun x16 => (Res.val (PV.int 2)) >>= fun x17 => ixP x16 x17) >>= fun x19 => ixP x18 x19) >>= fun x20 => ((((Res.val (PV.lst a_box)) >>= fun x21 => (Res.val (PV.int 2)) >>= fun x22 => ixP x21 x22) >>= fun x23 => (Res.val (PV.int 2)) >>= fun x24 => addP x23 x24) >>= fun x25 => (Res.val (PV.int 2)) >>= fun k26 => setL a_box k26 x25 >>= fun qs27 => (((((((Res.val (PV.lst qs27)) >>= fun x28 => (Res.val (PV.int 4)) >>= fun x29 => ixP x28 x29) >>= fun x30 => (Res.val (PV.int 31)) >>= fun x31 => mulP x30 x31) >>= fun x32 => (Res.val x20) >>= fun x33 => addP x32 x33) >>= intP) >>= fun x34 => (Res.val (PV.int 2147483647)) >>= fun x35 => modP x34 x35) >>= fun x36 => (Res.val (PV.int 4)) >>= fun k37 => setL qs27 k37 x36 >>= fun qs38 => ((((Res.val x20) >>= fun x41 => ((Res.val (PV.int 10)) >>= fun x39 => (Res.val (PV.int 18)) >>= fun x40 => powP x39 x40) >>= fun x42 => geP x41 x42) >>= asB) >>= fun b43 => if b43 = true then (((Res.val x20) >>= fun x46 => ((Res.val (PV.int 10)) >>= fun x44 => (Res.val (PV.int 18)) >>= fun x45 => powP x44 x45) >>= fun x47 => subP x46 x47) >>= fun x48 => (Res.val (PV.int 0)) >>= fun k49 => setL qs38 k49 x48 >>= fun qs50 => ((Res.val (PV.int 60)) >>= fun x51 => (Res.val (PV.int 1)) >>= fun k52 => setL qs50 k52 x51 >>= fun qs53 => (Res.val (.nx qs53)))) else (Res.val (.nx qs38)))))) else (Res.val (.nx a_box))) fun s13 => ((((((Res.val (PV.lst s13)) >>= fun x58 => (Res.val (PV.int 1)) >>= fun x59 => ixP x58 x59) >>= fun x60 => (Res.val (PV.int 0)) >>= fun x61 => gtP x60 x61) >>= asB) >>= fun b62 => if b62 = true then ((((Res.val (PV.lst s13)) >>= fun x54 => (Res.val (PV.int 0)) >>= fun x55 => ixP x54 x55) >>= fun x56 => (Res.val (PV.int 0)) >>= fun x57 => gtP x56 x57) >>= asB) else Res.val false) >>= fun b63 => if b63 = true then (((((Res.val (PV.lst s13)) >>= fun x64 => (Res.val (PV.int 0)) >>= fun x65 => ixP x64 x65) >>= intP) >>= fun x66 => (Res.val a_many) >>= fun x67 => modP x66 x67) >>= fun x68 => ((((Res.val (PV.lst s13)) >>= fun x69 => (Res.val (PV.int 0)) >>= fun x70 => ixP x69 x70) >>= fun x71 => (Res.val a_many) >>= fun x72 => fdivP x71 x72) >>= fun x73 => (Res.val (PV.int 0)) >>= fun k74 => setL s13 k74 x73 >>= fun qs75 => ((((Res.val (PV.lst qs75)) >>= fun x76 => (Res.val (PV.int 1)) >>= fun x77 => ixP x76 x77) >>= fun x78 => (Res.val (PV.int 1)) >>= fun x79 => subP x78 x79) >>= fun x80 => (Res.val (PV.int 1)) >>= fun k81 => setL qs75 k81 x80 >>= fun qs82 => ((Res.val x68) >>= fun v83 => Res.val (.rt v83 [.lst qs82]))))) else ((Res.val (PV.int 0)) >>= fun x84 => (Res.val (PV.int 1)) >>= fun k85 => setL s13 k85 x84 >>= fun qs86 => ((((Res.val (PV.lst qs86)) >>= fun x87 => (Res.val (PV.int 3)) >>= fun x88 => ixP x87 x88) >>= fun x89 => (Res.val (PV.int 1)) >>= fun x90 => addP x89 x90) >>= fun x91 => (Res.val (PV.int 3)) >>= fun k92 => setL qs86 k92 x91 >>= fun qs93 => ((((((Res.val (PV.lst qs93)) >>= fun x94 => (Res.val (PV.int 4)) >>= fun x95 => ixP x94 x95) >>= fun x98 => ((Res.val (PV.lst qs93)) >>= fun x96 => (Res.val (PV.int 3)) >>= fun x97 => ixP x96 x97) >>= fun x99 => m__law_mix x98 x99) >>= intP) >>= fun x100 => (Res.val a_many) >>= fun x101 => modP x100 x101) >>= fun v102 => Res.val (.rt v102 [.lst qs93]))))))
  | _ => .stuck
theorem ok__law_draw (T : Top P K mg) : FnOk P w K mg base (L2.CX P w) 2 T.f__law_draw T.d__law_draw ["box", "many"] (spR K (clT T) (apR1 m__law_draw)) := by
  have G__law_mix := ok__law_mix (P := P) (w := w) (base := base) T
  refine fnR T.F__law_draw scLdraw rfl taknR1 fun cdv A outer s H E hr mo qs hq => ?_
  match mo, qs, hq with
  | .dct _, [_], _ => exact .inl rfl
  | .ob _ _, [_], _ => exact .inl rfl
  | .lst a_box, [a_many], _ => exact .inr ⟨_, (pss_cons (ps_if (PW.pt (pw_and (pt_cmpR (op_eqV K rfl hr.units) (pe_ix (ix_VK K rfl) (pv 0) pe_int (fun _ _ => rfl)) pe_int (nomark _)) (pw_and1 (pt_cmpR op_lt (pe_ix (ix_VK K rfl) (pv 0) pe_int (fun _ _ => rfl)) (pe_callB (call_lenVK K rfl) (by rfl) T.z_len PySem.boot_len (pa_cons (pe_ix (ix_VK K rfl) (pv 0) pe_int (fun _ _ => rfl)) pa_nil)) (nomark _))))) (pss_cons (ps_set (i := 2) scLdraw.nd rfl (Or.inl rfl) (pe_ix (ix_VK K rfl) (pe_ix (ix_VK K rfl) (pv 0) pe_int (fun _ _ => rfl)) (pe_ix (ix_VK K rfl) (pv 0) pe_int (fun _ _ => rfl)) (fun _ _ => rfl)))
      (pss_cons (ps_asg (pe_op (op_addV K rfl) (pe_ix (ix_VK K rfl) (pv 0) pe_int (fun _ _ => rfl)) pe_int) (pg_sub (pv 0) pe_int set_list))
      (pss_cons (ps_asg (pe_op op_modN (pe_callTy call_intV (by rfl) T.z_int (by decide +kernel) (pa_cons (pe_op (op_addV K rfl) (pe_op op_mulV (pe_ix (ix_VK K rfl) (pv 0) pe_int (fun _ _ => rfl)) pe_int) (pv 2)) pa_nil)) pe_int) (pg_sub (pv 0) pe_int set_list))
      (pss_one (ps_if (pt_cmpR op_ge (pv 2) (pe_op op_pow pe_int pe_int) (nomark _)) (pss_cons (ps_asg (pe_op op_sub (pv 2) (pe_op op_pow pe_int pe_int)) (pg_sub (pv 0) pe_int set_list))
      (pss_one (ps_asg pe_int (pg_sub (pv 0) pe_int set_list)))) pss_nil))))) pss_nil)
      (pss_cons (ps_if (PW.pt (pw_and (pt_cmpR op_gt (pe_ix (ix_VK K rfl) (pv 0) pe_int (fun _ _ => rfl)) pe_int (nomark _)) (pw_and1 (pt_cmpR op_gt (pe_ix (ix_VK K rfl) (pv 0) pe_int (fun _ _ => rfl)) pe_int (nomark _))))) (pss_cons (ps_set (i := 3) scLdraw.nd rfl (Or.inl rfl) (pe_op op_modN (pe_callTy call_intV (by rfl) T.z_int (by decide +kernel) (pa_cons (pe_ix (ix_VK K rfl) (pv 0) pe_int (fun _ _ => rfl)) pa_nil)) (pv 1)))
      (pss_cons (ps_asg (pe_op op_fdivV (pe_ix (ix_VK K rfl) (pv 0) pe_int (fun _ _ => rfl)) (pv 1)) (pg_sub (pv 0) pe_int set_list))
      (pss_cons (ps_asg (pe_op op_sub (pe_ix (ix_VK K rfl) (pv 0) pe_int (fun _ _ => rfl)) pe_int) (pg_sub (pv 0) pe_int set_list))
      (pss_one (ps_ret (pv 3)))))) pss_nil)
      (pss_cons (ps_asg pe_int (pg_sub (pv 0) pe_int set_list))
      (pss_cons (ps_asg (pe_op (op_addV K rfl) (pe_ix (ix_VK K rfl) (pv 0) pe_int (fun _ _ => rfl)) pe_int) (pg_sub (pv 0) pe_int set_list))
      (pss_one (ps_ret (pe_op op_modN (pe_callTy call_intV (by rfl) T.z_int (by decide +kernel) (pa_cons (pe_callS G__law_mix (hr.mono (by decide)) (by rfl) T.m__law_mix T.F__law_mix.kp T.b__law_mix (fun σ => passAt (takes_of rfl rfl rfl rfl) σ) (pa_cons (pe_ix (ix_VK K rfl) (pv 0) pe_int (fun _ _ => rfl)) (pa_cons (pe_ix (ix_VK K rfl) (pv 0) pe_int (fun _ _ => rfl)) pa_nil))) pa_nil)) (pv 1)))))))),
    _, run_one (run_assoc (run_seq (ρj := fun (s13 : List PV) => [(.rf 0 (.lst s13)), (.fz a_many), .un, .un]) (run_one (run_if (ts_and (ts_cmp (Pur.vw (pu_op o2_eq (Pur.vw (pu_op o2_ix (vw_rf rfl) (Pur.vw pu_int))) (Pur.vw pu_int)))) (ts_cmp (Pur.vw (pu_op o2_lt (Pur.vw (pu_op o2_ix (vw_rf rfl) (Pur.vw pu_int))) (Pur.vw (pu_cb1 b1_len (Pur.vw (pu_op o2_ix (vw_rf rfl) (Pur.vw pu_int))))))))) (wk_uns rfl) (run_assoc (run_set (i := 2) (pu_op o2_ix (Pur.vw (pu_op o2_ix (vw_rf rfl) (Pur.vw pu_int))) (Pur.vw (pu_op o2_ix (vw_rf rfl) (Pur.vw pu_int)))) rfl (wk_uns rfl) fun x20 => (run_assoc (run_setitem (i := 0) rfl (Or.inr ⟨_, rfl⟩) (pu_op o2_add (Pur.vw (pu_op o2_ix (vw_rf rfl) (Pur.vw pu_int))) (Pur.vw pu_int)) (Pur.vw pu_int) (wk_uns rfl) fun qs27 => (run_assoc (run_setitem (i := 0) rfl (Or.inr ⟨_, rfl⟩) (pu_op o2_mod (Pur.vw (pu_cb1 b1_int (Pur.vw (pu_op o2_add (Pur.vw (pu_op o2_mul (Pur.vw (pu_op o2_ix (vw_rf rfl) (Pur.vw pu_int))) (Pur.vw pu_int))) (Pur.vw (pu_var rfl)))))) (Pur.vw pu_int)) (Pur.vw pu_int) (wk_uns rfl) fun qs38 => (run_if (ts_cmp (Pur.vw (pu_op o2_ge (Pur.vw (pu_var rfl)) (Pur.vw (pu_op o2_pow (Pur.vw pu_int) (Pur.vw pu_int)))))) (wk_uns rfl) (run_assoc (run_setitem (i := 0) rfl (Or.inr ⟨_, rfl⟩) (pu_op o2_sub (Pur.vw (pu_var rfl)) (Pur.vw (pu_op o2_pow (Pur.vw pu_int) (Pur.vw pu_int)))) (Pur.vw pu_int) (wk_uns rfl) fun qs50 => (run_setitem (i := 0) rfl (Or.inr ⟨_, rfl⟩) pu_int (Pur.vw pu_int) (wk_uns rfl) fun qs53 => (run_next (s := qs53) (.keep (.keep (.drop (.keep .nil)))))))) (run_skip (run_next (s := qs38) (.keep (.keep (.drop (.keep .nil))))))))))))) (run_skip (run_next (s := a_box) (.keep (.keep (.keep (.keep .nil)))))))) fun s13 => (run_assoc (run_if (ts_and (ts_cmp (Pur.vw (pu_op o2_gt (Pur.vw (pu_op o2_ix (vw_rf rfl) (Pur.vw pu_int))) (Pur.vw pu_int)))) (ts_cmp (Pur.vw (pu_op o2_gt (Pur.vw (pu_op o2_ix (vw_rf rfl) (Pur.vw pu_int))) (Pur.vw pu_int))))) (wk_uns rfl) (run_assoc (run_set (i := 3) (pu_op o2_mod (Pur.vw (pu_cb1 b1_int (Pur.vw (pu_op o2_ix (vw_rf rfl) (Pur.vw pu_int))))) (Pur.vw (pu_var rfl))) rfl (wk_uns rfl) fun x68 => (run_assoc (run_setitem (i := 0) rfl (Or.inr ⟨_, rfl⟩) (pu_op o2_fdiv (Pur.vw (pu_op o2_ix (vw_rf rfl) (Pur.vw pu_int))) (Pur.vw (pu_var rfl))) (Pur.vw pu_int) (wk_uns rfl) fun qs75 => (run_assoc (run_setitem (i := 0) rfl (Or.inr ⟨_, rfl⟩) (pu_op o2_sub (Pur.vw (pu_op o2_ix (vw_rf rfl) (Pur.vw pu_int))) (Pur.vw pu_int)) (Pur.vw pu_int) (wk_uns rfl) fun qs82 => (run_ret (pu_var rfl) rfl rfl (wk_uns rfl)))))))) (run_skip (run_assoc (run_setitem (i := 0) rfl (Or.inr ⟨_, rfl⟩) pu_int (Pur.vw pu_int) (wk_uns rfl) fun qs86 => (run_assoc (run_setitem (i := 0) rfl (Or.inr ⟨_, rfl⟩) (pu_op o2_add (Pur.vw (pu_op o2_ix (vw_rf rfl) (Pur.vw pu_int))) (Pur.vw pu_int)) (Pur.vw pu_int) (wk_uns rfl) fun qs93 => (run_ret (pu_op o2_mod (Pur.vw (pu_cb1 b1_int (Pur.vw (pu_call2 (pu_op o2_ix (vw_rf rfl) (Pur.vw pu_int)) (pu_op o2_ix (vw_rf rfl) (Pur.vw pu_int)))))) (Pur.vw (pu_var rfl))) rfl rfl (wk_uns rfl))))))))))), rfl⟩
def m__law_order (mo : MO) (a_q : PV) : Res (PV × MO) := match mo with
  | .lst a_box => retR ((((Res.val a_q) >>= rng1) >>= fun ps2 => sized ps2.length >>= fun _ => lcF (fun x => Res.val x) (fun (a1 : PV) => (Res.val true)) (fun (a1 : PV) => (Res.val a1)) ps2) >>= fun l3 => (noX ((fun (s26 : List PV × List PV) => (fun (s5 : List PV × List PV) => noX ((Res.val a_q) >>= rng1) >>= fun z7 => Res.val (z7, s5)) s26 >>= fun ps24 => sized ps24.1.length >>= fun _ => lcE (fun x => Res.val x) (fun (a8 : PV) => (fun (s10 : List PV × List PV) => Res.val (true, s10))) (fun (a8 : PV) => (fun (s11 : List PV × List PV) => (fun (s12 : List PV × List PV) => (fun (s16 : List PV × List PV) => (fun (s13 : List PV × List PV) => noX ((Res.val (PV.lst s13.1)) >>= lenP) >>= fun v14 => Res.val (v14, s13)) s16 >>= fun x17 => (fun (s15 : List PV × List PV) => Res.val (([] : List PV), s15)) x17.2 >>= fun xs18 => Res.val (x17.1 :: xs18.1, xs18.2)) s12 >>= fun x19 => (apR1 m__law_draw) (MO.lst x19.2.2) x19.1 >>= fun r20 => ((fun (s12 : List PV × List PV) (mo : MO) => moL mo >>= fun l => Res.val (s12.1, l)) x19.2 r20.2) >>= fun s21 => Res.val (r20.1, s21)) s11 >>= fun k22 => popL k22.2.1 k22.1 >>= fun r23 => Res.val (r23.1, (r23.2, k22.2.2)))) ps24.1 ps24.2 >>= fun r25 => Res.val (PV.lst r25.1, r25.2)) (l3, a_box)) >>= fun r27 => Res.val (.rt r27.1 ((fun (s28 : List PV × List PV) => [.lst s28.2]) r27.2))))
  | _ => .stuck
theorem ok__law_order (T : Top P K mg) : FnOk P w K mg base (L2.CX P w) 3 T.f__law_order T.d__law_order ["box", "q"] (spR K (clT T) (apR1 m__law_order)) := by
  have G__law_draw := ok__law_draw (P := P) (w := w) (base := base) T
  refine fnR T.F__law_order scLorder rfl taknR1 fun cdv A outer s H E hr mo qs hq => ?_
  match mo, qs, hq with
  | .dct _, [_], _ => exact .inl rfl
  | .ob _ _, [_], _ => exact .inl rfl
  | .lst a_box, [a_q], _ => exact .inr ⟨_, (pss_cons (ps_set (i := 2) scLorder.nd rfl (Or.inr rfl) (pe_lc (own := [("k", 3)]) (g := gName 3) (tt := tYes) rfl scLorder.nd (pi_range1 (by rfl) T.z_range (pa_cons (pv 1) pa_nil)) (blkOk_by (own := [("k", 3)]) (N := ["box", "q", "left", "k"]) (sc := defScope s_Lorder) (by decide +kernel)) (fun _ _ _ _ _ => (pg_name (i := 3) scLorder.nd rfl (Or.inl rfl))) (fun _ _ _ _ _ => pts_nil) (fun _ _ _ _ _ => (pv 3))))
      (pss_one (ps_ret (pe_lc (own := [("k", 3)]) (g := gName 3) (tt := tYes) rfl scLorder.nd (pi_range1 (by rfl) T.z_range (pa_cons (pv 1) pa_nil)) (blkOk_by (own := [("k", 3)]) (N := ["box", "q", "left", "k"]) (sc := defScope s_Lorder) (by decide +kernel)) (fun _ _ _ _ _ => (pg_name (i := 3) scLorder.nd rfl (Or.inl rfl))) (fun _ _ _ _ _ => pts_nil) (fun _ _ _ _ _ => (pe_bm PySem.F.plainAttrs_list PySem.F.slot_list_pop PySem.F.type_list_pop mt_popAt (pv 2) (pa_cons (pe_callS G__law_draw (hr.mono (by decide)) (by rfl) T.m__law_draw T.F__law_draw.kp T.b__law_draw (fun σ => passAt takes0 σ) (pa_cons (pv 0) (pa_cons (pe_callB (call_lenVK K rfl) (by rfl) T.z_len PySem.boot_len (pa_cons (pv 2) pa_nil)) pa_nil))) pa_nil))))))),
    _, run_one (run_assoc (run_setow (i := 2) (nw_lc (ρe := fun (a1 : PV) => [(.rf 0 (.lst a_box)), (.fz a_q), .un, (.fz a1)]) (Iter.view (it_rng1 (Pur.vw (pu_var rfl)))) rfl (by decide) (tg_name (i := 3) rfl (Or.inr (by decide))) (fun a1 => ts_yes) (fun a1 => (pu_var rfl))) rfl (wk_uns rfl) fun l3 => (run_retE (ρs := (fun (s29 : List PV × List PV) => [(.rf 0 (.lst s29.2)), (.fz a_q), (.ow (.lst s29.1)), .un])) (s0 := (l3, a_box)) (r := fun (s28 : List PV × List PV) => [.lst s28.2]) (ef_lc (ρe := fun (a8 : PV) (s9 : List PV × List PV) => [(.rf 0 (.lst s9.2)), (.fz a_q), (.ow (.lst s9.1)), (.fz a8)]) (ei_pure (W := (fun c d _ H' => E c d H')) fun s5 => (it_rng1 (Pur.vw (pu_var rfl)))) (fun _ => rfl) (by decide) (fun _ => (tg_name (i := 3) rfl (Or.inr (by decide)))) (fun _ _ => rfl) (fun _ _ => rfl) (fun a8 => et_yes) (fun a8 => (ef_pop (i := 2) (sl := (fun (s11 : List PV × List PV) => (.ow (.lst s11.1)))) (get := (fun (s11 : List PV × List PV) => s11.1)) (put := (fun (s11 : List PV × List PV) (l : List PV) => (l, s11.2))) (fun _ => rfl) (fun _ => Or.inl rfl) (fun _ _ => rfl) (ef_callR (i := 0) (sl := (fun (s12 : List PV × List PV) => (.rf 0 (.lst s12.2)))) (get := (fun (s12 : List PV × List PV) => MO.lst s12.2)) (put := (fun (s12 : List PV × List PV) (mo : MO) => moL mo >>= fun l => Res.val (s12.1, l))) (fun _ => rfl) (fun _ => Or.inr ⟨_, rfl⟩) (fun s mo s' h => by cases mo <;> first | (cases h; rfl) | cases h) (el_cons (ef_pure (W := (fun _ _ _ _ => False)) fun s13 => (pu_cb1 b1_len (vw_own rfl))) el_nil))))) rfl (fun _ => rfl) (fun _ => rfl)))), rfl⟩
def m__law_table (a_row : PV) : Res PV := retF (((Res.val a_row) >>= lenP) >>= fun x1 => (((((Res.val (PV.int 0)) >>= fun x2 => (Res.val []) >>= fun xs3 => Res.val (x2 :: xs3)) >>= mkL) >>= fun x4 => (Res.val x1) >>= fun x5 => repL x4 x5 >>= asSq) >>= fun l6 => (seqF (S1 := List PV) (((Res.val x1) >>= rng1) >>= fun ps14 => forF (fun (x15 : PV) (s7 : List PV) => (fun x => Res.val x) x15 >>= fun (a8 : PV) => ((Res.val a8) >>= fun x11 => ((Res.val a_row) >>= fun x9 => (Res.val a8) >>= fun x10 => ixP x9 x10) >>= fun k12 => setL s7 k12 x11 >>= fun qs13 => (Res.val (.nx qs13)))) ps14 l6) fun s16 => ((((((Res.val x1) >>= rng1) >>= fun ps31 => sized ps31.length >>= fun _ => lcF (fun x => Res.val x) (fun (a17 : PV) => (Res.val true)) (fun (a17 : PV) => (((((Res.val x1) >>= rng1) >>= fun ps29 => sized ps29.length >>= fun _ => lcF (fun x => Res.val x) (fun (a18 : PV) => (Res.val true)) (fun (a18 : PV) => ((Res.val a_row) >>= fun x27 => (((((Res.val (PV.lst s16)) >>= fun x19 => (Res.val a17) >>= fun x20 => ixP x19 x20) >>= fun x23 => ((Res.val (PV.lst s16)) >>= fun x21 => (Res.val a18) >>= fun x22 => ixP x21 x22) >>= fun x24 => addP x23 x24) >>= intP) >>= fun x25 => (Res.val x1) >>= fun x26 => modP x25 x26) >>= fun x28 => ixP x27 x28)) ps29) >>= fun ps30 => Res.val (PV.lst ps30)) >>= tupleP)) ps31) >>= fun ps32 => Res.val (PV.lst ps32)) >>= tupleP) >>= fun v33 => Res.val (.rt v33 [])))))
theorem ok__law_table (T : Top P K mg) : FnOk P w K mg base (L2.CX P w) 1 T.f__law_table T.d__law_table ["row"] (spP K (clT T) (ap1 m__law_table)) := by
  refine fnP T.F__law_table scLtable rfl takn1 fun cdv A outer s H E hr qs hq => ?_
  match qs, hq with
  | [a_row], _ => exact ⟨_, (pss_cons (ps_set (i := 1) scLtable.nd rfl (Or.inr rfl) (pe_callB (call_lenVK K rfl) (by rfl) T.z_len PySem.boot_len (pa_cons (pv 0) pa_nil)))
      (pss_cons (ps_set (i := 2) scLtable.nd rfl (Or.inr rfl) (pe_op op_mulV (pe_lst (pa_cons pe_int pa_nil)) (pv 1)))
      (pss_cons (ps_for (passes_of rfl) rfl (pi_range1 (by rfl) T.z_range (pa_cons (pv 1) pa_nil)) (pg_name (i := 3) scLtable.nd rfl (Or.inl rfl)) (pss_one (ps_asg (pv 3) (pg_sub (pv 2) (pe_ix (ix_VK K rfl) (pv 0) (pv 3) (fun _ _ => rfl)) set_list))))
      (pss_one (ps_ret (pe_callTy (call_tupleV K rfl) (by rfl) T.z_tuple (by decide +kernel) (pa_cons (pe_lc (own := [("a", 4)]) (g := gName 4) (tt := tYes) rfl scLtable.nd (pi_range1 (by rfl) T.z_range (pa_cons (pv 1) pa_nil)) (blkOk_by (own := [("a", 4)]) (N := ["row", "q", "place", "k", "a", "b"]) (sc := defScope s_Ltable) (by decide +kernel)) (fun _ _ _ _ _ => (pg_name (i := 4) scLtable.nd rfl (Or.inr rfl))) (fun _ _ _ _ _ => pts_nil) (fun _ _ _ _ _ => (pe_callTy (call_tupleV K rfl) (by rfl) T.z_tuple (by decide +kernel) (pa_cons (pe_lc (own := [("b", 5)]) (g := gName 5) (tt := tYes) rfl scLtable.nd (pi_range1 (by rfl) T.z_range (pa_cons (pv 1) pa_nil)) (blkOk_by (own := [("b", 5)]) (N := ["row", "q", "place", "k", "a", "b"]) (sc := relS _ (defScope s_Ltable)) (by decide +kernel)) (fun _ _ _ _ _ => (pg_name (i := 5) scLtable.nd rfl (Or.inl rfl))) (fun _ _ _ _ _ => pts_nil) (fun _ _ _ _ _ => (pe_ix (ix_VK K rfl) (pv 0) (pe_op op_modN (pe_callTy call_intV (by rfl) T.z_int (by decide +kernel) (pa_cons (pe_op (op_addV K rfl) (pe_ix (ix_VK K rfl) (pv 2) (pv 4) (fun _ _ => rfl)) (pe_ix (ix_VK K rfl) (pv 2) (pv 5) (fun _ _ => rfl))) pa_nil)) (pv 1)) (fun _ _ => rfl)))) pa_nil)))) pa_nil))))))),
    _, run_one (run_assoc (run_set (i := 1) (pu_cb1 b1_len (Pur.vw (pu_var rfl))) rfl (wk_uns rfl) fun x1 => (run_assoc (run_setow (i := 2) (nw_rep (Pur.vw (pu_lst (pl_cons pu_int pl_nil))) (Pur.vw (pu_var rfl))) rfl (wk_uns rfl) fun l6 => (run_assoc (run_seq (ρj := fun (s16 : List PV) => [(.fz a_row), (.fz x1), (.ow (.lst s16)), .un, .un, .un]) (run_for (ρs := fun (s7 : List PV) => [(.fz a_row), (.fz x1), (.ow (.lst s7)), .un, .un, .un]) (s0 := l6) (ρe := fun (s7 : List PV) (a8 : PV) => [(.fz a_row), (.fz x1), (.ow (.lst s7)), (.fz a8), .un, .un]) (it_rng1 (Pur.vw (pu_var rfl))) (.keep (.keep (.keep (.keep (.keep (.keep .nil)))))) (wk_uns rfl) (fun s7 => (tg_name (i := 3) rfl (Or.inl rfl))) (fun a8 s7 => run_one (run_setitem (i := 2) rfl (Or.inl rfl) (pu_var rfl) (Pur.vw (pu_op o2_ix (Pur.vw (pu_var rfl)) (Pur.vw (pu_var rfl)))) (wk_uns rfl) fun qs13 => (run_next (s := qs13) (.keep (.keep (.keep (.drop (.keep (.keep .nil)))))))))) fun s16 => (run_ret (pu_cb1 b1_tuple (Pur.vw (New.pur (nw_lc (ρe := fun (a17 : PV) => [(.fz a_row), (.fz x1), (.ow (.lst s16)), .un, (.fz a17), .un]) (Iter.view (it_rng1 (Pur.vw (pu_var rfl)))) rfl (by decide) (tg_name (i := 4) rfl (Or.inr (by decide))) (fun a17 => ts_yes) (fun a17 => (pu_cb1 b1_tuple (Pur.vw (New.pur (nw_lc (ρe := fun (a18 : PV) => [(.fz a_row), (.fz x1), (.ow (.lst s16)), .un, (.fz a17), (.fz a18)]) (Iter.view (it_rng1 (Pur.vw (pu_var rfl)))) rfl (by decide) (tg_name (i := 5) rfl (Or.inr (by decide))) (fun a18 => ts_yes) (fun a18 => (pu_op o2_ix (Pur.vw (pu_var rfl)) (Pur.vw (pu_op o2_mod (Pur.vw (pu_cb1 b1_int (Pur.vw (pu_op o2_add (Pur.vw (pu_op o2_ix (vw_own rfl) (Pur.vw (pu_var rfl)))) (Pur.vw (pu_op o2_ix (vw_own rfl) (Pur.vw (pu_var rfl)))))))) (Pur.vw (pu_var rfl))))))))))))))) rfl rfl (wk_uns rfl)))))))), rfl⟩
def m__law_with (a_table a_a a_b a_value : PV) : Res PV := retF (((((Res.val a_table) >>= fun x2 => (Res.val none) >>= fun lo3 => ((Res.val a_a) >>= partP >>= fun i1 => Res.val (some i1)) >>= fun hi4 => slP x2 lo3 hi4) >>= fun x27 => (((((((Res.val a_table) >>= fun x5 => (Res.val a_a) >>= fun x6 => ixP x5 x6) >>= fun x8 => (Res.val none) >>= fun lo9 => ((Res.val a_b) >>= partP >>= fun i7 => Res.val (some i7)) >>= fun hi10 => slP x8 lo9 hi10) >>= fun x13 => (((Res.val a_value) >>= fun x11 => (Res.val []) >>= fun xs12 => Res.val (x11 :: xs12)) >>= mkT) >>= fun x14 => addP x13 x14) >>= fun x23 => (((Res.val a_table) >>= fun x15 => (Res.val a_a) >>= fun x16 => ixP x15 x16) >>= fun x20 => (((Res.val a_b) >>= fun x17 => (Res.val (PV.int 1)) >>= fun x18 => addP x17 x18) >>= partP >>= fun i19 => Res.val (some i19)) >>= fun lo21 => (Res.val none) >>= fun hi22 => slP x20 lo21 hi22) >>= fun x24 => addP x23 x24) >>= fun x25 => (Res.val []) >>= fun xs26 => Res.val (x25 :: xs26)) >>= mkT) >>= fun x28 => addP x27 x28) >>= fun x35 => ((Res.val a_table) >>= fun x32 => (((Res.val a_a) >>= fun x29 => (Res.val (PV.int 1)) >>= fun x30 => addP x29 x30) >>= partP >>= fun i31 => Res.val (some i31)) >>= fun lo33 => (Res.val none) >>= fun hi34 => slP x32 lo33 hi34) >>= fun x36 => addP x35 x36) >>= fun v37 => Res.val (.rt v37 []))
theorem ok__law_with (T : Top P K mg) : FnOk P w K mg base (L2.CX P w) 1 T.f__law_with T.d__law_with ["table", "a", "b", "value"] (spP K (clT T) (ap4 m__law_with)) := by
  refine fnP T.F__law_with scLwith rfl takn4 fun cdv A outer s H E hr qs hq => ?_
  match qs, hq with
  | [a_table, a_a, a_b, a_value], _ => exact ⟨_, (pss_one (ps_ret (pe_op (op_addV K rfl) (pe_op (op_addV K rfl) (pe_slice (sl_V K rfl) (pv 0) po_none (po_some (pv 1))) (pe_tup (pa_cons (pe_op (op_addV K rfl) (pe_op (op_addV K rfl) (pe_slice (sl_V K rfl) (pe_ix (ix_VK K rfl) (pv 0) (pv 1) (fun _ _ => rfl)) po_none (po_some (pv 2))) (pe_tup (pa_cons (pv 3) pa_nil))) (pe_slice (sl_V K rfl) (pe_ix (ix_VK K rfl) (pv 0) (pv 1) (fun _ _ => rfl)) (po_some (pe_op (op_addV K rfl) (pv 2) pe_int)) po_none)) pa_nil))) (pe_slice (sl_V K rfl) (pv 0) (po_some (pe_op (op_addV K rfl) (pv 1) pe_int)) po_none)))),
    _, run_one (run_ret (pu_op o2_add (Pur.vw (pu_op o2_add (Pur.vw (pu_sl (Pur.vw (pu_var rfl)) pr_none (pr_some (Pur.vw (pu_var rfl))))) (Pur.vw (pu_tup (pl_cons (pu_op o2_add (Pur.vw (pu_op o2_add (Pur.vw (pu_sl (Pur.vw (pu_op o2_ix (Pur.vw (pu_var rfl)) (Pur.vw (pu_var rfl)))) pr_none (pr_some (Pur.vw (pu_var rfl))))) (Pur.vw (pu_tup (pl_cons (pu_var rfl) pl_nil))))) (Pur.vw (pu_sl (Pur.vw (pu_op o2_ix (Pur.vw (pu_var rfl)) (Pur.vw (pu_var rfl)))) (pr_some (Pur.vw (pu_op o2_add (Pur.vw (pu_var rfl)) (Pur.vw pu_int)))) pr_none))) pl_nil))))) (Pur.vw (pu_sl (Pur.vw (pu_var rfl)) (pr_some (Pur.vw (pu_op o2_add (Pur.vw (pu_var rfl)) (Pur.vw pu_int)))) pr_none))) rfl rfl (wk_uns rfl)), rfl⟩
def m__law_named (a_row a_table : PV) : Res PV := retF (((Res.val a_row) >>= lenP) >>= fun x1 => (((((Res.val x1) >>= rng1) >>= fun ps5 => sized ps5.length >>= fun _ => lcF (fun x => Res.val x) (fun (a2 : PV) => (Res.val true)) (fun (a2 : PV) => ((Res.val a_row) >>= asLi >>= fun ps3 => (Res.val a2) >>= fun k4 => idxQ ps3 k4)) ps5) >>= fun ps6 => Res.val (PV.lst ps6)) >>= fun x7 => ((((((Res.val x1) >>= rng1) >>= fun ps22 => sized ps22.length >>= fun _ => lcF (fun x => Res.val x) (fun (a8 : PV) => (Res.val true)) (fun (a8 : PV) => (((((Res.val x1) >>= rng1) >>= fun ps20 => sized ps20.length >>= fun _ => lcF (fun x => Res.val x) (fun (a9 : PV) => (Res.val true)) (fun (a9 : PV) => ((Res.val a_row) >>= fun x18 => (((Res.val a_table) >>= fun x12 => ((Res.val x7) >>= fun x10 => (Res.val a8) >>= fun x11 => ixP x10 x11) >>= fun x13 => ixP x12 x13) >>= fun x16 => ((Res.val x7) >>= fun x14 => (Res.val a9) >>= fun x15 => ixP x14 x15) >>= fun x17 => ixP x16 x17) >>= fun x19 => ixP x18 x19)) ps20) >>= fun ps21 => Res.val (PV.lst ps21)) >>= tupleP)) ps22) >>= fun ps23 => Res.val (PV.lst ps23)) >>= tupleP) >>= fun v24 => Res.val (.rt v24 []))))
theorem ok__law_named (T : Top P K mg) : FnOk P w K mg base (L2.CX P w) 1 T.f__law_named T.d__law_named ["row", "table"] (spP K (clT T) (ap2 m__law_named)) := by
  refine fnP T.F__law_named scLnamed rfl takn2 fun cdv A outer s H E hr qs hq => ?_
  match qs, hq with
  | [a_row, a_table], _ => exact ⟨_, (pss_cons (ps_set (i := 2) scLnamed.nd rfl (Or.inr rfl) (pe_callB (call_lenVK K rfl) (by rfl) T.z_len PySem.boot_len (pa_cons (pv 0) pa_nil)))
      (pss_cons (ps_set (i := 3) scLnamed.nd rfl (Or.inr rfl) (pe_lc (own := [("k", 4)]) (g := gName 4) (tt := tYes) rfl scLnamed.nd (pi_range1 (by rfl) T.z_range (pa_cons (pv 2) pa_nil)) (blkOk_by (own := [("k", 4)]) (N := ["row", "table", "q", "place", "k", "a", "b"]) (sc := defScope s_Lnamed) (by decide +kernel)) (fun _ _ _ _ _ => (pg_name (i := 4) scLnamed.nd rfl (Or.inl rfl))) (fun _ _ _ _ _ => pts_nil) (fun _ _ _ _ _ => (pe_bm PySem.F.plainAttrs_list PySem.F.slot_list_index PySem.F.type_list_index (mt_indexV K rfl) (pv 0) (pa_cons (pv 4) pa_nil)))))
      (pss_one (ps_ret (pe_callTy (call_tupleV K rfl) (by rfl) T.z_tuple (by decide +kernel) (pa_cons (pe_lc (own := [("a", 5)]) (g := gName 5) (tt := tYes) rfl scLnamed.nd (pi_range1 (by rfl) T.z_range (pa_cons (pv 2) pa_nil)) (blkOk_by (own := [("a", 5)]) (N := ["row", "table", "q", "place", "k", "a", "b"]) (sc := defScope s_Lnamed) (by decide +kernel)) (fun _ _ _ _ _ => (pg_name (i := 5) scLnamed.nd rfl (Or.inr rfl))) (fun _ _ _ _ _ => pts_nil) (fun _ _ _ _ _ => (pe_callTy (call_tupleV K rfl) (by rfl) T.z_tuple (by decide +kernel) (pa_cons (pe_lc (own := [("b", 6)]) (g := gName 6) (tt := tYes) rfl scLnamed.nd (pi_range1 (by rfl) T.z_range (pa_cons (pv 2) pa_nil)) (blkOk_by (own := [("b", 6)]) (N := ["row", "table", "q", "place", "k", "a", "b"]) (sc := relS _ (defScope s_Lnamed)) (by decide +kernel)) (fun _ _ _ _ _ => (pg_name (i := 6) scLnamed.nd rfl (Or.inl rfl))) (fun _ _ _ _ _ => pts_nil) (fun _ _ _ _ _ => (pe_ix (ix_VK K rfl) (pv 0) (pe_ix (ix_VK K rfl) (pe_ix (ix_VK K rfl) (pv 1) (pe_ix (ix_VK K rfl) (pv 3) (pv 5) (fun _ _ => rfl)) (fun _ _ => rfl)) (pe_ix (ix_VK K rfl) (pv 3) (pv 6) (fun _ _ => rfl)) (fun _ _ => rfl)) (fun _ _ => rfl)))) pa_nil)))) pa_nil)))))),
    _, run_one (run_assoc (run_set (i := 2) (pu_cb1 b1_len (Pur.vw (pu_var rfl))) rfl (wk_uns rfl) fun x1 => (run_assoc (run_set (i := 3) (New.pur (nw_lc (ρe := fun (a2 : PV) => [(.fz a_row), (.fz a_table), (.fz x1), .un, (.fz a2), .un, .un]) (Iter.view (it_rng1 (Pur.vw (pu_var rfl)))) rfl (by decide) (tg_name (i := 4) rfl (Or.inr (by decide))) (fun a2 => ts_yes) (fun a2 => (pu_index (Pur.vw (pu_var rfl)) (pu_var rfl))))) rfl (wk_uns rfl) fun x7 => (run_ret (pu_cb1 b1_tuple (Pur.vw (New.pur (nw_lc (ρe := fun (a8 : PV) => [(.fz a_row), (.fz a_table), (.fz x1), (.fz x7), .un, (.fz a8), .un]) (Iter.view (it_rng1 (Pur.vw (pu_var rfl)))) rfl (by decide) (tg_name (i := 5) rfl (Or.inr (by decide))) (fun a8 => ts_yes) (fun a8 => (pu_cb1 b1_tuple (Pur.vw (New.pur (nw_lc (ρe := fun (a9 : PV) => [(.fz a_row), (.fz a_table), (.fz x1), (.fz x7), .un, (.fz a8), (.fz a9)]) (Iter.view (it_rng1 (Pur.vw (pu_var rfl)))) rfl (by decide) (tg_name (i := 6) rfl (Or.inr (by decide))) (fun a9 => ts_yes) (fun a9 => (pu_op o2_ix (Pur.vw (pu_var rfl)) (Pur.vw (pu_op o2_ix (Pur.vw (pu_op o2_ix (Pur.vw (pu_var rfl)) (Pur.vw (pu_op o2_ix (Pur.vw (pu_var rfl)) (Pur.vw (pu_var rfl)))))) (Pur.vw (pu_op o2_ix (Pur.vw (pu_var rfl)) (Pur.vw (pu_var rfl))))))))))))))))) rfl rfl (wk_uns rfl)))))), rfl⟩
def m__law_alone (mo : MO) (a_row : PV) : Res (PV × MO) := match mo with
  | .lst a_box => retR (((Res.val a_row) >>= m__law_table) >>= fun x2 => (((Res.val a_row) >>= lenP) >>= fun x3 => (noX ((fun (s4 : List PV) => (fun (s5 : List PV) => noX (Res.val a_row) >>= fun v6 => Res.val (v6, s5)) s4 >>= fun x25 => (fun (s7 : List PV) => (fun (s8 : List PV) => noX (Res.val (PV.int 1)) >>= fun v9 => Res.val (v9, s8)) s7 >>= fun x22 => (fun (s10 : List PV) => (fun (s16 : List PV) => (fun (s11 : List PV) => noX ((Res.val x3) >>= fun x12 => (Res.val (PV.int 1)) >>= fun x13 => subP x12 x13) >>= fun v14 => Res.val (v14, s11)) s16 >>= fun x17 => (fun (s15 : List PV) => Res.val (([] : List PV), s15)) x17.2 >>= fun xs18 => Res.val (x17.1 :: xs18.1, xs18.2)) s10 >>= fun x19 => (apR1 m__law_draw) (MO.lst x19.2) x19.1 >>= fun r20 => ((fun (s10 : List PV) (mo : MO) => moL mo >>= fun l => Res.val l) x19.2 r20.2) >>= fun s21 => Res.val (r20.1, s21)) x22.2 >>= fun x23 => noX (addP x22.1 x23.1) >>= fun z24 => Res.val (z24, x23.2)) x25.2 >>= fun x26 => noX (ixP x25.1 x26.1) >>= fun z27 => Res.val (z27, x26.2)) a_box) >>= fun r30 => (fun (x28 : PV) (s29 : List PV) => ((((Res.val x3) >>= rng1) >>= fun ps36 => sized ps36.length >>= fun _ => lcF (fun x => Res.val x) (fun (a31 : PV) => (((Res.val a31) >>= fun x34 => ((Res.val a_row) >>= fun x32 => (Res.val (PV.int 0)) >>= fun x33 => ixP x32 x33) >>= fun x35 => neP x34 x35) >>= asB)) (fun (a31 : PV) => (Res.val a31)) ps36) >>= fun l37 => (noX ((fun (s38 : List PV × List PV) => (fun (s39 : List PV × List PV) => (fun (s43 : List PV × List PV) => (fun (s40 : List PV × List PV) => noX ((Res.val (PV.lst s40.1)) >>= lenP) >>= fun v41 => Res.val (v41, s40)) s43 >>= fun x44 => (fun (s42 : List PV × List PV) => Res.val (([] : List PV), s42)) x44.2 >>= fun xs45 => Res.val (x44.1 :: xs45.1, xs45.2)) s39 >>= fun x46 => (apR1 m__law_draw) (MO.lst x46.2.2) x46.1 >>= fun r47 => ((fun (s39 : List PV × List PV) (mo : MO) => moL mo >>= fun l => Res.val (s39.1, l)) x46.2 r47.2) >>= fun s48 => Res.val (r47.1, s48)) s38 >>= fun k49 => popL k49.2.1 k49.1 >>= fun r50 => Res.val (r50.1, (r50.2, k49.2.2))) (l37, s29)) >>= fun r53 => (fun (x51 : PV) (s52 : List PV × List PV) => (noX ((fun (s54 : List PV) => (fun (s55 : List PV) => noX (Res.val (PV.lst s52.1)) >>= fun v56 => Res.val (v56, s55)) s54 >>= fun x67 => (fun (s57 : List PV) => (fun (s61 : List PV) => (fun (s58 : List PV) => noX ((Res.val (PV.lst s52.1)) >>= lenP) >>= fun v59 => Res.val (v59, s58)) s61 >>= fun x62 => (fun (s60 : List PV) => Res.val (([] : List PV), s60)) x62.2 >>= fun xs63 => Res.val (x62.1 :: xs63.1, xs63.2)) s57 >>= fun x64 => (apR1 m__law_draw) (MO.lst x64.2) x64.1 >>= fun r65 => ((fun (s57 : List PV) (mo : MO) => moL mo >>= fun l => Res.val l) x64.2 r65.2) >>= fun s66 => Res.val (r65.1, s66)) x67.2 >>= fun x68 => noX (ixP x67.1 x68.1) >>= fun z69 => Res.val (z69, x68.2)) s52.2) >>= fun r72 => (fun (x70 : PV) (s71 : List PV) => ((((((Res.val x2) >>= fun x77 => (Res.val x28) >>= fun x78 => (Res.val x51) >>= fun x79 => (((Res.val x2) >>= fun x73 => (Res.val x28) >>= fun x74 => ixP x73 x74) >>= fun x75 => (Res.val x70) >>= fun x76 => ixP x75 x76) >>= fun x80 => m__law_with x77 x78 x79 x80) >>= fun x85 => (Res.val x28) >>= fun x86 => (Res.val x70) >>= fun x87 => (((Res.val x2) >>= fun x81 => (Res.val x28) >>= fun x82 => ixP x81 x82) >>= fun x83 => (Res.val x51) >>= fun x84 => ixP x83 x84) >>= fun x88 => m__law_with x85 x86 x87 x88) >>= fun x89 => (Res.val []) >>= fun xs90 => Res.val (x89 :: xs90)) >>= mkN) >>= fun l91 => ((((((Res.val x3) >>= rng1) >>= fun ps96 => sized ps96.length >>= fun _ => lcF (fun x => Res.val x) (fun (a92 : PV) => (Res.val true)) (fun (a92 : PV) => (((((Res.val x3) >>= rng1) >>= fun ps94 => sized ps94.length >>= fun _ => lcF (fun x => Res.val x) (fun (a93 : PV) => (Res.val true)) (fun (a93 : PV) => (Res.val a93)) ps94) >>= fun ps95 => Res.val (PV.lst ps95)) >>= tupleP)) ps96) >>= fun ps97 => Res.val (PV.lst ps97)) >>= tupleP) >>= fun x98 => sized (l91.length + 1) >>= fun _ => (((((Res.val x3) >>= rng1) >>= fun ps102 => sized ps102.length >>= fun _ => lcF (fun x => Res.val x) (fun (a99 : PV) => (Res.val true)) (fun (a99 : PV) => ((Res.val a_row) >>= asLi >>= fun ps100 => (Res.val a99) >>= fun k101 => idxQ ps100 k101)) ps102) >>= fun ps103 => Res.val (PV.lst ps103)) >>= fun x104 => ((((((Res.val x3) >>= rng1) >>= fun ps118 => sized ps118.length >>= fun _ => lcF (fun x => Res.val x) (fun (a105 : PV) => (Res.val true)) (fun (a105 : PV) => (((((Res.val x3) >>= rng1) >>= fun ps116 => sized ps116.length >>= fun _ => lcF (fun x => Res.val x) (fun (a106 : PV) => (Res.val true)) (fun (a106 : PV) => ((Res.val a_row) >>= fun x114 => (((Res.val x104) >>= fun x107 => (Res.val a105) >>= fun x108 => ixP x107 x108) >>= fun x111 => ((Res.val x104) >>= fun x109 => (Res.val a106) >>= fun x110 => ixP x109 x110) >>= fun x112 => (Res.val (PV.int 0)) >>= fun x113 => max3P x111 x112 x113) >>= fun x115 => ixP x114 x115)) ps116) >>= fun ps117 => Res.val (PV.lst ps117)) >>= tupleP)) ps118) >>= fun ps119 => Res.val (PV.lst ps119)) >>= tupleP) >>= fun x120 => sized ((l91 ++ [x98]).length + 1) >>= fun _ => (((Res.val a_row) >>= fun x131 => (((((Res.val x3) >>= rng1) >>= fun ps129 => sized ps129.length >>= fun _ => lcF (fun x => Res.val x) (fun (a121 : PV) => (Res.val true)) (fun (a121 : PV) => (((((Res.val x3) >>= rng1) >>= fun ps127 => sized ps127.length >>= fun _ => lcF (fun x => Res.val x) (fun (a122 : PV) => (Res.val true)) (fun (a122 : PV) => ((((Res.val a121) >>= fun x123 => (Res.val a122) >>= fun x124 => mulP x123 x124) >>= intP) >>= fun x125 => (Res.val x3) >>= fun x126 => modP x125 x126)) ps127) >>= fun ps128 => Res.val (PV.lst ps128)) >>= tupleP)) ps129) >>= fun ps130 => Res.val (PV.lst ps130)) >>= tupleP) >>= fun x132 => m__law_named x131 x132) >>= fun x133 => sized (((l91 ++ [x98]) ++ [x120]).length + 1) >>= fun _ => (noX ((fun (s134 : List PV × List PV) => (fun (s184 : List PV × List PV) => (fun (s135 : List PV × List PV) => noX (Res.val x2) >>= fun v136 => Res.val (v136, s135)) s184 >>= fun x185 => (fun (s181 : List PV × List PV) => (fun (s137 : List PV × List PV) => noX (Res.val x28) >>= fun v138 => Res.val (v138, s137)) s181 >>= fun x182 => (fun (s178 : List PV × List PV) => (fun (s139 : List PV × List PV) => noX (Res.val x51) >>= fun v140 => Res.val (v140, s139)) s178 >>= fun x179 => (fun (s175 : List PV × List PV) => (fun (s141 : List PV × List PV) => (fun (s142 : List PV × List PV) => (fun (s143 : List PV × List PV) => (fun (s144 : List PV × List PV) => noX ((((Res.val x2) >>= fun x145 => (Res.val x28) >>= fun x146 => ixP x145 x146) >>= fun x147 => (Res.val x51) >>= fun x148 => ixP x147 x148) >>= fun x149 => (Res.val (PV.int 1)) >>= fun x150 => addP x149 x150) >>= fun v151 => Res.val (v151, s144)) s143 >>= fun x164 => (fun (s152 : List PV × List PV) => (fun (s158 : List PV × List PV) => (fun (s153 : List PV × List PV) => noX ((Res.val x3) >>= fun x154 => (Res.val (PV.int 1)) >>= fun x155 => subP x154 x155) >>= fun v156 => Res.val (v156, s153)) s158 >>= fun x159 => (fun (s157 : List PV × List PV) => Res.val (([] : List PV), s157)) x159.2 >>= fun xs160 => Res.val (x159.1 :: xs160.1, xs160.2)) s152 >>= fun x161 => (apR1 m__law_draw) (MO.lst x161.2.1) x161.1 >>= fun r162 => ((fun (s152 : List PV × List PV) (mo : MO) => moL mo >>= fun l => Res.val (l, s152.2)) x161.2 r162.2) >>= fun s163 => Res.val (r162.1, s163)) x164.2 >>= fun x165 => noX (addP x164.1 x165.1) >>= fun z166 => Res.val (z166, x165.2)) s142 >>= fun x167 => noX (intP x167.1) >>= fun z168 => Res.val (z168, x167.2)) s141 >>= fun x171 => (fun (s169 : List PV × List PV) => noX (Res.val x3) >>= fun v170 => Res.val (v170, s169)) x171.2 >>= fun x172 => noX (modP x171.1 x172.1) >>= fun z173 => Res.val (z173, x172.2)) s175 >>= fun x176 => (fun (s174 : List PV × List PV) => Res.val (([] : List PV), s174)) x176.2 >>= fun xs177 => Res.val (x176.1 :: xs177.1, xs177.2)) x179.2 >>= fun xs180 => Res.val (x179.1 :: xs180.1, xs180.2)) x182.2 >>= fun xs183 => Res.val (x182.1 :: xs183.1, xs183.2)) x185.2 >>= fun xs186 => Res.val (x185.1 :: xs186.1, xs186.2)) s134 >>= fun x187 => noX (ap4 m__law_with x187.1) >>= fun z188 => Res.val (z188, x187.2)) (s71, (((l91 ++ [x98]) ++ [x120]) ++ [x133]))) >>= fun r191 => sized ((r191.2.2).length + 1) >>= fun _ => (fun (s190 : List PV × List PV) (x189 : PV) => ((((Res.val x2) >>= listP) >>= asLi >>= fun ps192 => Res.val (PV.tup ps192.reverse)) >>= fun x193 => sized ((s190.2 ++ [x189]).length + 1) >>= fun _ => (((Res.val (PV.lst ((s190.2 ++ [x189]) ++ [x193]))) >>= fun x212 => (((((((Res.val x2) >>= asSq) >>= fun ps208 => sized ps208.length >>= fun _ => lcF (fun x => Res.val x) (fun (a206 : PV) => (Res.val true)) (fun (a206 : PV) => (((Res.val a206) >>= listP) >>= asLi >>= fun ps207 => Res.val (PV.tup ps207.reverse))) ps208) >>= fun ps209 => Res.val (PV.lst ps209)) >>= tupleP) >>= fun x210 => ((((Res.val x2) >>= fun x195 => ((Res.val (PV.int 1)) >>= partP >>= fun i194 => Res.val (some i194)) >>= fun lo196 => (Res.val none) >>= fun hi197 => slP x195 lo196 hi197) >>= fun x202 => ((Res.val x2) >>= fun x199 => (Res.val none) >>= fun lo200 => ((Res.val (PV.int 1)) >>= partP >>= fun i198 => Res.val (some i198)) >>= fun hi201 => slP x199 lo200 hi201) >>= fun x203 => addP x202 x203) >>= fun x204 => (Res.val []) >>= fun xs205 => Res.val (x204 :: xs205)) >>= fun xs211 => Res.val (x210 :: xs211)) >>= mkL) >>= fun x213 => addP x212 x213) >>= fun v214 => Res.val (.rt v214 [.lst s190.1])))) r191.2 r191.1))))))) r72.1 r72.2)) r53.1 r53.2))) r30.1 r30.2)))
  | _ => .stuck
theorem ok__law_alone (T : Top P K mg) : FnOk P w K mg base (L2.CX P w) 3 T.f__law_alone T.d__law_alone ["box", "row"] (spR K (clT T) (apR1 m__law_alone)) := by
  have G__law_table := ok__law_table (P := P) (w := w) (base := base) T
  have G__law_draw := ok__law_draw (P := P) (w := w) (base := base) T
  have G__law_with := ok__law_with (P := P) (w := w) (base := base) T
  have G__law_named := ok__law_named (P := P) (w := w) (base := base) T
  refine fnR T.F__law_alone scLalone rfl taknR1 fun cdv A outer s H E hr mo qs hq => ?_
  match mo, qs, hq with
  | .dct _, [_], _ => exact .inl rfl
  | .ob _ _, [_], _ => exact .inl rfl
  | .lst a_box, [a_row], _ => exact .inr ⟨_, (pss_cons (ps_set (i := 2) scLalone.nd rfl (Or.inl rfl) (pe_callS G__law_table (hr.mono (by decide)) (by rfl) T.m__law_table T.F__law_table.kp T.b__law_table (fun σ => passAt (takes_of rfl rfl rfl rfl) σ) (pa_cons (pv 1) pa_nil)))
      (pss_cons (ps_set (i := 3) scLalone.nd rfl (Or.inr rfl) (pe_callB (call_lenVK K rfl) (by rfl) T.z_len PySem.boot_len (pa_cons (pv 1) pa_nil)))
      (pss_cons (ps_set (i := 4) scLalone.nd rfl (Or.inl rfl) (pe_ix (ix_VK K rfl) (pv 1) (pe_op (op_addV K rfl) pe_int (pe_callS G__law_draw (hr.mono (by decide)) (by rfl) T.m__law_draw T.F__law_draw.kp T.b__law_draw (fun σ => passAt (takes_of rfl rfl rfl rfl) σ) (pa_cons (pv 0) (pa_cons (pe_op op_sub (pv 3) pe_int) pa_nil)))) (fun _ _ => rfl)))
      (pss_cons (ps_setLc (i := 5) (own := [("b", 6)]) (g := gName 6)  rfl scLalone.nd rfl rfl (sw_true rfl rfl rfl (by decide +kernel)) (pi_range1 (by rfl) T.z_range (pa_cons (pv 3) pa_nil)) (blkOk_by (own := [("b", 6)]) (N := ["box", "row", "table", "q", "a", "places", "b", "c", "found", "line", "k", "place", "x", "y"]) (sc := defScope s_Lalone) (by decide +kernel)) (fun _ _ _ _ _ => (pg_name (i := 6) scLalone.nd rfl (Or.inl rfl))) (fun _ _ _ _ _ => (pts_one (pt_cmpR (op_neV K rfl hr.units) (pv 6) (pe_ix (ix_VK K rfl) (pv 1) pe_int (fun _ _ => rfl)) (nomark _)))) (fun _ _ _ _ _ => (pv 6)))
      (pss_cons (ps_set (i := 6) scLalone.nd rfl (Or.inl rfl) (pe_bm PySem.F.plainAttrs_list PySem.F.slot_list_pop PySem.F.type_list_pop mt_popAt (pv 5) (pa_cons (pe_callS G__law_draw (hr.mono (by decide)) (by rfl) T.m__law_draw T.F__law_draw.kp T.b__law_draw (fun σ => passAt (takes_of rfl rfl rfl rfl) σ) (pa_cons (pv 0) (pa_cons (pe_callB (call_lenVK K rfl) (by rfl) T.z_len PySem.boot_len (pa_cons (pv 5) pa_nil)) pa_nil))) pa_nil)))
      (pss_cons (ps_set (i := 7) scLalone.nd rfl (Or.inl rfl) (pe_ix (ix_VK K rfl) (pv 5) (pe_callS G__law_draw (hr.mono (by decide)) (by rfl) T.m__law_draw T.F__law_draw.kp T.b__law_draw (fun σ => passAt (takes_of rfl rfl rfl rfl) σ) (pa_cons (pv 0) (pa_cons (pe_callB (call_lenVK K rfl) (by rfl) T.z_len PySem.boot_len (pa_cons (pv 5) pa_nil)) pa_nil))) (fun _ _ => rfl)))
      (pss_cons (ps_set (i := 8) scLalone.nd rfl (Or.inl rfl) (pe_lst (pa_cons (pe_callS G__law_with (hr.mono (by decide)) (by rfl) T.m__law_with T.F__law_with.kp T.b__law_with (fun σ => passAt (takes_of rfl rfl rfl rfl) σ) (pa_cons (pe_callS G__law_with (hr.mono (by decide)) (by rfl) T.m__law_with T.F__law_with.kp T.b__law_with (fun σ => passAt (takes_of rfl rfl rfl rfl) σ) (pa_cons (pv 2) (pa_cons (pv 4) (pa_cons (pv 6) (pa_cons (pe_ix (ix_VK K rfl) (pe_ix (ix_VK K rfl) (pv 2) (pv 4) (fun _ _ => rfl)) (pv 7) (fun _ _ => rfl)) pa_nil))))) (pa_cons (pv 4) (pa_cons (pv 7) (pa_cons (pe_ix (ix_VK K rfl) (pe_ix (ix_VK K rfl) (pv 2) (pv 4) (fun _ _ => rfl)) (pv 6) (fun _ _ => rfl)) pa_nil))))) pa_nil)))
      (pss_cons (ps_expr (pe_bm PySem.F.plainAttrs_list PySem.F.slot_list_append PySem.F.type_list_append mt_append (pv 8) (pa_cons (pe_callTy (call_tupleV K rfl) (by rfl) T.z_tuple (by decide +kernel) (pa_cons (pe_lc (own := [("line", 9)]) (g := gName 9) (tt := tYes) rfl scLalone.nd (pi_range1 (by rfl) T.z_range (pa_cons (pv 3) pa_nil)) (blkOk_by (own := [("line", 9)]) (N := ["box", "row", "table", "q", "a", "places", "b", "c", "found", "line", "k", "place", "x", "y"]) (sc := defScope s_Lalone) (by decide +kernel)) (fun _ _ _ _ _ => (pg_name (i := 9) scLalone.nd rfl (Or.inl rfl))) (fun _ _ _ _ _ => pts_nil) (fun _ _ _ _ _ => (pe_callTy (call_tupleV K rfl) (by rfl) T.z_tuple (by decide +kernel) (pa_cons (pe_lc (own := [("k", 10)]) (g := gName 10) (tt := tYes) rfl scLalone.nd (pi_range1 (by rfl) T.z_range (pa_cons (pv 3) pa_nil)) (blkOk_by (own := [("k", 10)]) (N := ["box", "row", "table", "q", "a", "places", "b", "c", "found", "line", "k", "place", "x", "y"]) (sc := relS _ (defScope s_Lalone)) (by decide +kernel)) (fun _ _ _ _ _ => (pg_name (i := 10) scLalone.nd rfl (Or.inl rfl))) (fun _ _ _ _ _ => pts_nil) (fun _ _ _ _ _ => (pv 10))) pa_nil)))) pa_nil)) pa_nil)))
      (pss_cons (ps_set (i := 11) scLalone.nd rfl (Or.inr rfl) (pe_lc (own := [("k", 10)]) (g := gName 10) (tt := tYes) rfl scLalone.nd (pi_range1 (by rfl) T.z_range (pa_cons (pv 3) pa_nil)) (blkOk_by (own := [("k", 10)]) (N := ["box", "row", "table", "q", "a", "places", "b", "c", "found", "line", "k", "place", "x", "y"]) (sc := defScope s_Lalone) (by decide +kernel)) (fun _ _ _ _ _ => (pg_name (i := 10) scLalone.nd rfl (Or.inl rfl))) (fun _ _ _ _ _ => pts_nil) (fun _ _ _ _ _ => (pe_bm PySem.F.plainAttrs_list PySem.F.slot_list_index PySem.F.type_list_index (mt_indexV K rfl) (pv 1) (pa_cons (pv 10) pa_nil)))))
      (pss_cons (ps_expr (pe_bm PySem.F.plainAttrs_list PySem.F.slot_list_append PySem.F.type_list_append mt_append (pv 8) (pa_cons (pe_callTy (call_tupleV K rfl) (by rfl) T.z_tuple (by decide +kernel) (pa_cons (pe_lc (own := [("x", 12)]) (g := gName 12) (tt := tYes) rfl scLalone.nd (pi_range1 (by rfl) T.z_range (pa_cons (pv 3) pa_nil)) (blkOk_by (own := [("x", 12)]) (N := ["box", "row", "table", "q", "a", "places", "b", "c", "found", "line", "k", "place", "x", "y"]) (sc := defScope s_Lalone) (by decide +kernel)) (fun _ _ _ _ _ => (pg_name (i := 12) scLalone.nd rfl (Or.inr rfl))) (fun _ _ _ _ _ => pts_nil) (fun _ _ _ _ _ => (pe_callTy (call_tupleV K rfl) (by rfl) T.z_tuple (by decide +kernel) (pa_cons (pe_lc (own := [("y", 13)]) (g := gName 13) (tt := tYes) rfl scLalone.nd (pi_range1 (by rfl) T.z_range (pa_cons (pv 3) pa_nil)) (blkOk_by (own := [("y", 13)]) (N := ["box", "row", "table", "q", "a", "places", "b", "c", "found", "line", "k", "place", "x", "y"]) (sc := relS _ (defScope s_Lalone)) (by decide +kernel)) (fun _ _ _ _ _ => (pg_name (i := 13) scLalone.nd rfl (Or.inl rfl))) (fun _ _ _ _ _ => pts_nil) (fun _ _ _ _ _ => (pe_ix (ix_VK K rfl) (pv 1) (pe_callB (call_max3 rfl) (by rfl) T.z_max (by decide +kernel) (pa_cons (pe_ix (ix_VK K rfl) (pv 11) (pv 12) (fun _ _ => rfl)) (pa_cons (pe_ix (ix_VK K rfl) (pv 11) (pv 13) (fun _ _ => rfl)) (pa_cons pe_int pa_nil)))) (fun _ _ => rfl)))) pa_nil)))) pa_nil)) pa_nil)))
      (pss_cons (ps_expr (pe_bm PySem.F.plainAttrs_list PySem.F.slot_list_append PySem.F.type_list_append mt_append (pv 8) (pa_cons (pe_callS G__law_named (hr.mono (by decide)) (by rfl) T.m__law_named T.F__law_named.kp T.b__law_named (fun σ => passAt (takes_of rfl rfl rfl rfl) σ) (pa_cons (pv 1) (pa_cons (pe_callTy (call_tupleV K rfl) (by rfl) T.z_tuple (by decide +kernel) (pa_cons (pe_lc (own := [("x", 12)]) (g := gName 12) (tt := tYes) rfl scLalone.nd (pi_range1 (by rfl) T.z_range (pa_cons (pv 3) pa_nil)) (blkOk_by (own := [("x", 12)]) (N := ["box", "row", "table", "q", "a", "places", "b", "c", "found", "line", "k", "place", "x", "y"]) (sc := defScope s_Lalone) (by decide +kernel)) (fun _ _ _ _ _ => (pg_name (i := 12) scLalone.nd rfl (Or.inr rfl))) (fun _ _ _ _ _ => pts_nil) (fun _ _ _ _ _ => (pe_callTy (call_tupleV K rfl) (by rfl) T.z_tuple (by decide +kernel) (pa_cons (pe_lc (own := [("y", 13)]) (g := gName 13) (tt := tYes) rfl scLalone.nd (pi_range1 (by rfl) T.z_range (pa_cons (pv 3) pa_nil)) (blkOk_by (own := [("y", 13)]) (N := ["box", "row", "table", "q", "a", "places", "b", "c", "found", "line", "k", "place", "x", "y"]) (sc := relS _ (defScope s_Lalone)) (by decide +kernel)) (fun _ _ _ _ _ => (pg_name (i := 13) scLalone.nd rfl (Or.inl rfl))) (fun _ _ _ _ _ => pts_nil) (fun _ _ _ _ _ => (pe_op op_modN (pe_callTy call_intV (by rfl) T.z_int (by decide +kernel) (pa_cons (pe_op op_mulV (pv 12) (pv 13)) pa_nil)) (pv 3)))) pa_nil)))) pa_nil)) pa_nil))) pa_nil)))
      (pss_cons (ps_expr (pe_bm PySem.F.plainAttrs_list PySem.F.slot_list_append PySem.F.type_list_append mt_append (pv 8) (pa_cons (pe_callS G__law_with (hr.mono (by decide)) (by rfl) T.m__law_with T.F__law_with.kp T.b__law_with (fun σ => passAt (takes_of rfl rfl rfl rfl) σ) (pa_cons (pv 2) (pa_cons (pv 4) (pa_cons (pv 6) (pa_cons (pe_op op_modN (pe_callTy call_intV (by rfl) T.z_int (by decide +kernel) (pa_cons (pe_op (op_addV K rfl) (pe_op (op_addV K rfl) (pe_ix (ix_VK K rfl) (pe_ix (ix_VK K rfl) (pv 2) (pv 4) (fun _ _ => rfl)) (pv 6) (fun _ _ => rfl)) pe_int) (pe_callS G__law_draw (hr.mono (by decide)) (by rfl) T.m__law_draw T.F__law_draw.kp T.b__law_draw (fun σ => passAt (takes_of rfl rfl rfl rfl) σ) (pa_cons (pv 0) (pa_cons (pe_op op_sub (pv 3) pe_int) pa_nil)))) pa_nil)) (pv 3)) pa_nil))))) pa_nil)))
      (pss_cons (ps_expr (pe_bm PySem.F.plainAttrs_list PySem.F.slot_list_append PySem.F.type_list_append mt_append (pv 8) (pa_cons (pe_tupRevK K rfl rfl (by rfl) T.z_tuple (by rfl) T.z_reversed (pe_callTy (call_listV K rfl) (by rfl) T.z_list (by decide +kernel) (pa_cons (pv 2) pa_nil))) pa_nil)))
      (pss_one (ps_ret (pe_op (op_addV K rfl) (pv 8) (pe_lst (pa_cons (pe_callTy (call_tupleV K rfl) (by rfl) T.z_tuple (by decide +kernel) (pa_cons (pe_lc (own := [("line", 9)]) (g := gName 9) (tt := tYes) rfl scLalone.nd (pi_seqV K rfl (pv 2)) (blkOk_by (own := [("line", 9)]) (N := ["box", "row", "table", "q", "a", "places", "b", "c", "found", "line", "k", "place", "x", "y"]) (sc := defScope s_Lalone) (by decide +kernel)) (fun _ _ _ _ _ => (pg_name (i := 9) scLalone.nd rfl (Or.inl rfl))) (fun _ _ _ _ _ => pts_nil) (fun _ _ _ _ _ => (pe_tupRevK K rfl rfl (by rfl) T.z_tuple (by rfl) T.z_reversed (pe_callTy (call_listV K rfl) (by rfl) T.z_list (by decide +kernel) (pa_cons (pv 9) pa_nil))))) pa_nil)) (pa_cons (pe_op (op_addV K rfl) (pe_slice (sl_V K rfl) (pv 2) (po_some pe_int) po_none) (pe_slice (sl_V K rfl) (pv 2) po_none (po_some pe_int))) pa_nil))))))))))))))))))),
    _, run_one (run_assoc (run_set (i := 2) (pu_call1 (pu_var rfl)) rfl (wk_uns rfl) fun x2 => (run_assoc (run_set (i := 3) (pu_cb1 b1_len (Pur.vw (pu_var rfl))) rfl (wk_uns rfl) fun x3 => (run_assoc (run_setE (i := 4) (ρs := (fun (s218 : List PV) => [(.rf 0 (.lst s218)), (.fz a_row), (.fz x2), (.fz x3), .un, .un, .un, .un, .un, .un, .un, .un, .un, .un])) (s0 := a_box) (ef_op o2_ix (ef_pure (W := (fun c d _ H' => E c d H')) fun s5 => (pu_var rfl)) (ef_op o2_add (ef_pure (W := (fun c d _ H' => E c d H')) fun s8 => pu_int) (ef_callR (i := 0) (sl := (fun (s10 : List PV) => (.rf 0 (.lst s10)))) (get := (fun (s10 : List PV) => MO.lst s10)) (put := (fun (s10 : List PV) (mo : MO) => moL mo >>= fun l => Res.val l)) (fun _ => rfl) (fun _ => Or.inr ⟨_, rfl⟩) (fun s mo s' h => by cases mo <;> first | (cases h; rfl) | cases h) (el_cons (ef_pure (W := (fun c d _ H' => E c d H')) fun s11 => (pu_op o2_sub (Pur.vw (pu_var rfl)) (Pur.vw pu_int))) el_nil)))) rfl (fun _ => rfl) fun x28 s29 => (run_assoc (run_setow (i := 5) (nw_lc (ρe := fun (a31 : PV) => [(.rf 0 (.lst s29)), (.fz a_row), (.fz x2), (.fz x3), (.fz x28), .un, (.fz a31), .un, .un, .un, .un, .un, .un, .un]) (Iter.view (it_rng1 (Pur.vw (pu_var rfl)))) rfl (by decide) (tg_name (i := 6) rfl (Or.inr (by decide))) (fun a31 => (ts_cmp (Pur.vw (pu_op o2_ne (Pur.vw (pu_var rfl)) (Pur.vw (pu_op o2_ix (Pur.vw (pu_var rfl)) (Pur.vw pu_int))))))) (fun a31 => (pu_var rfl))) rfl (wk_uns rfl) fun l37 => (run_assoc (run_setE (i := 6) (ρs := (fun (s217 : List PV × List PV) => [(.rf 0 (.lst s217.2)), (.fz a_row), (.fz x2), (.fz x3), (.fz x28), (.ow (.lst s217.1)), .un, .un, .un, .un, .un, .un, .un, .un])) (s0 := (l37, s29)) (ef_pop (i := 5) (sl := (fun (s38 : List PV × List PV) => (.ow (.lst s38.1)))) (get := (fun (s38 : List PV × List PV) => s38.1)) (put := (fun (s38 : List PV × List PV) (l : List PV) => (l, s38.2))) (fun _ => rfl) (fun _ => Or.inl rfl) (fun _ _ => rfl) (ef_callR (i := 0) (sl := (fun (s39 : List PV × List PV) => (.rf 0 (.lst s39.2)))) (get := (fun (s39 : List PV × List PV) => MO.lst s39.2)) (put := (fun (s39 : List PV × List PV) (mo : MO) => moL mo >>= fun l => Res.val (s39.1, l))) (fun _ => rfl) (fun _ => Or.inr ⟨_, rfl⟩) (fun s mo s' h => by cases mo <;> first | (cases h; rfl) | cases h) (el_cons (ef_pure (W := (fun c d _ H' => E c d H')) fun s40 => (pu_cb1 b1_len (vw_own rfl))) el_nil))) rfl (fun _ => rfl) fun x51 s52 => (run_assoc (run_wk (.keep (.keep (.keep (.keep (.keep (.ice (.keep (.keep (.keep (.keep (.keep (.keep (.keep (.keep .nil)))))))))))))) (run_setE (i := 7) (ρs := (fun (s216 : List PV) => [(.rf 0 (.lst s216)), (.fz a_row), (.fz x2), (.fz x3), (.fz x28), (.fz (PV.lst s52.1)), (.fz x51), .un, .un, .un, .un, .un, .un, .un])) (s0 := s52.2) (ef_op o2_ix (ef_pure (W := (fun c d _ H' => E c d H')) fun s55 => (pu_var rfl)) (ef_callR (i := 0) (sl := (fun (s57 : List PV) => (.rf 0 (.lst s57)))) (get := (fun (s57 : List PV) => MO.lst s57)) (put := (fun (s57 : List PV) (mo : MO) => moL mo >>= fun l => Res.val l)) (fun _ => rfl) (fun _ => Or.inr ⟨_, rfl⟩) (fun s mo s' h => by cases mo <;> first | (cases h; rfl) | cases h) (el_cons (ef_pure (W := (fun c d _ H' => E c d H')) fun s58 => (pu_cb1 b1_len (Pur.vw (pu_var rfl)))) el_nil))) rfl (fun _ => rfl) fun x70 s71 => (run_assoc (run_setow (i := 8) (nw_lst (pl_cons (pu_call4 (pu_call4 (pu_var rfl) (pu_var rfl) (pu_var rfl) (pu_op o2_ix (Pur.vw (pu_op o2_ix (Pur.vw (pu_var rfl)) (Pur.vw (pu_var rfl)))) (Pur.vw (pu_var rfl)))) (pu_var rfl) (pu_var rfl) (pu_op o2_ix (Pur.vw (pu_op o2_ix (Pur.vw (pu_var rfl)) (Pur.vw (pu_var rfl)))) (Pur.vw (pu_var rfl)))) pl_nil)) rfl (wk_uns rfl) fun l91 => (run_assoc (run_append (i := 8) rfl (Or.inl rfl) (pu_cb1 b1_tuple (Pur.vw (New.pur (nw_lc (ρe := fun (a92 : PV) => [(.rf 0 (.lst s71)), (.fz a_row), (.fz x2), (.fz x3), (.fz x28), (.fz (PV.lst s52.1)), (.fz x51), (.fz x70), (.ow (.lst l91)), (.fz a92), .un, .un, .un, .un]) (Iter.view (it_rng1 (Pur.vw (pu_var rfl)))) rfl (by decide) (tg_name (i := 9) rfl (Or.inr (by decide))) (fun a92 => ts_yes) (fun a92 => (pu_cb1 b1_tuple (Pur.vw (New.pur (nw_lc (ρe := fun (a93 : PV) => [(.rf 0 (.lst s71)), (.fz a_row), (.fz x2), (.fz x3), (.fz x28), (.fz (PV.lst s52.1)), (.fz x51), (.fz x70), (.ow (.lst l91)), (.fz a92), (.fz a93), .un, .un, .un]) (Iter.view (it_rng1 (Pur.vw (pu_var rfl)))) rfl (by decide) (tg_name (i := 10) rfl (Or.inr (by decide))) (fun a93 => ts_yes) (fun a93 => (pu_var rfl))))))))))) (wk_uns rfl) fun x98 => (run_assoc (run_set (i := 11) (New.pur (nw_lc (ρe := fun (a99 : PV) => [(.rf 0 (.lst s71)), (.fz a_row), (.fz x2), (.fz x3), (.fz x28), (.fz (PV.lst s52.1)), (.fz x51), (.fz x70), (.ow (.lst (l91 ++ [x98]))), .un, (.fz a99), .un, .un, .un]) (Iter.view (it_rng1 (Pur.vw (pu_var rfl)))) rfl (by decide) (tg_name (i := 10) rfl (Or.inr (by decide))) (fun a99 => ts_yes) (fun a99 => (pu_index (Pur.vw (pu_var rfl)) (pu_var rfl))))) rfl (wk_uns rfl) fun x104 => (run_assoc (run_append (i := 8) rfl (Or.inl rfl) (pu_cb1 b1_tuple (Pur.vw (New.pur (nw_lc (ρe := fun (a105 : PV) => [(.rf 0 (.lst s71)), (.fz a_row), (.fz x2), (.fz x3), (.fz x28), (.fz (PV.lst s52.1)), (.fz x51), (.fz x70), (.ow (.lst (l91 ++ [x98]))), .un, .un, (.fz x104), (.fz a105), .un]) (Iter.view (it_rng1 (Pur.vw (pu_var rfl)))) rfl (by decide) (tg_name (i := 12) rfl (Or.inr (by decide))) (fun a105 => ts_yes) (fun a105 => (pu_cb1 b1_tuple (Pur.vw (New.pur (nw_lc (ρe := fun (a106 : PV) => [(.rf 0 (.lst s71)), (.fz a_row), (.fz x2), (.fz x3), (.fz x28), (.fz (PV.lst s52.1)), (.fz x51), (.fz x70), (.ow (.lst (l91 ++ [x98]))), .un, .un, (.fz x104), (.fz a105), (.fz a106)]) (Iter.view (it_rng1 (Pur.vw (pu_var rfl)))) rfl (by decide) (tg_name (i := 13) rfl (Or.inr (by decide))) (fun a106 => ts_yes) (fun a106 => (pu_op o2_ix (Pur.vw (pu_var rfl)) (Pur.vw (pu_max3 (Pur.vw (pu_op o2_ix (Pur.vw (pu_var rfl)) (Pur.vw (pu_var rfl)))) (Pur.vw (pu_op o2_ix (Pur.vw (pu_var rfl)) (Pur.vw (pu_var rfl)))) (Pur.vw pu_int)))))))))))))) (wk_uns rfl) fun x120 => (run_assoc (run_append (i := 8) rfl (Or.inl rfl) (pu_call2 (pu_var rfl) (pu_cb1 b1_tuple (Pur.vw (New.pur (nw_lc (ρe := fun (a121 : PV) => [(.rf 0 (.lst s71)), (.fz a_row), (.fz x2), (.fz x3), (.fz x28), (.fz (PV.lst s52.1)), (.fz x51), (.fz x70), (.ow (.lst ((l91 ++ [x98]) ++ [x120]))), .un, .un, (.fz x104), (.fz a121), .un]) (Iter.view (it_rng1 (Pur.vw (pu_var rfl)))) rfl (by decide) (tg_name (i := 12) rfl (Or.inr (by decide))) (fun a121 => ts_yes) (fun a121 => (pu_cb1 b1_tuple (Pur.vw (New.pur (nw_lc (ρe := fun (a122 : PV) => [(.rf 0 (.lst s71)), (.fz a_row), (.fz x2), (.fz x3), (.fz x28), (.fz (PV.lst s52.1)), (.fz x51), (.fz x70), (.ow (.lst ((l91 ++ [x98]) ++ [x120]))), .un, .un, (.fz x104), (.fz a121), (.fz a122)]) (Iter.view (it_rng1 (Pur.vw (pu_var rfl)))) rfl (by decide) (tg_name (i := 13) rfl (Or.inr (by decide))) (fun a122 => ts_yes) (fun a122 => (pu_op o2_mod (Pur.vw (pu_cb1 b1_int (Pur.vw (pu_op o2_mul (Pur.vw (pu_var rfl)) (Pur.vw (pu_var rfl)))))) (Pur.vw (pu_var rfl)))))))))))))) (wk_uns rfl) fun x133 => (run_assoc (run_appendE (i := 8) (ρs := (fun (s215 : List PV × List PV) => [(.rf 0 (.lst s215.1)), (.fz a_row), (.fz x2), (.fz x3), (.fz x28), (.fz (PV.lst s52.1)), (.fz x51), (.fz x70), (.ow (.lst s215.2)), .un, .un, (.fz x104), .un, .un])) (s0 := (s71, (((l91 ++ [x98]) ++ [x120]) ++ [x133]))) (sl := (fun (s190 : List PV × List PV) => (.ow (.lst s190.2)))) (get := (fun (s190 : List PV × List PV) => s190.2)) (fun _ => rfl) (fun _ => Or.inl rfl) (ef_call (el_cons (ef_pure (W := (fun c d _ H' => E c d H')) fun s135 => (pu_var rfl)) (el_cons (ef_pure (W := (fun c d _ H' => E c d H')) fun s137 => (pu_var rfl)) (el_cons (ef_pure (W := (fun c d _ H' => E c d H')) fun s139 => (pu_var rfl)) (el_cons (ef_op o2_mod (ef_cb1 b1_int (ef_op o2_add (ef_pure (W := (fun c d _ H' => E c d H')) fun s144 => (pu_op o2_add (Pur.vw (pu_op o2_ix (Pur.vw (pu_op o2_ix (Pur.vw (pu_var rfl)) (Pur.vw (pu_var rfl)))) (Pur.vw (pu_var rfl)))) (Pur.vw pu_int))) (ef_callR (i := 0) (sl := (fun (s152 : List PV × List PV) => (.rf 0 (.lst s152.1)))) (get := (fun (s152 : List PV × List PV) => MO.lst s152.1)) (put := (fun (s152 : List PV × List PV) (mo : MO) => moL mo >>= fun l => Res.val (l, s152.2))) (fun _ => rfl) (fun _ => Or.inr ⟨_, rfl⟩) (fun s mo s' h => by cases mo <;> first | (cases h; rfl) | cases h) (el_cons (ef_pure (W := (fun c d _ H' => E c d H')) fun s153 => (pu_op o2_sub (Pur.vw (pu_var rfl)) (Pur.vw pu_int))) el_nil)))) (ef_pure (W := (fun c d _ H' => E c d H')) fun s169 => (pu_var rfl))) el_nil))))) rfl fun s190 x189 => (run_assoc (run_append (i := 8) rfl (Or.inl rfl) (pu_tupRev (pu_cb1 b1_list (Pur.vw (pu_var rfl)))) (wk_uns rfl) fun x193 => (run_ret (pu_op o2_add (vw_own rfl) (Pur.vw (pu_lst (pl_cons (pu_cb1 b1_tuple (Pur.vw (New.pur (nw_lc (ρe := fun (a206 : PV) => [(.rf 0 (.lst s190.1)), (.fz a_row), (.fz x2), (.fz x3), (.fz x28), (.fz (PV.lst s52.1)), (.fz x51), (.fz x70), (.ow (.lst ((s190.2 ++ [x189]) ++ [x193]))), (.fz a206), .un, (.fz x104), .un, .un]) (Iter.view (it_seq (pu_var rfl))) rfl (by decide) (tg_name (i := 9) rfl (Or.inr (by decide))) (fun a206 => ts_yes) (fun a206 => (pu_tupRev (pu_cb1 b1_list (Pur.vw (pu_var rfl))))))))) (pl_cons (pu_op o2_add (Pur.vw (pu_sl (Pur.vw (pu_var rfl)) (pr_some (Pur.vw pu_int)) pr_none)) (Pur.vw (pu_sl (Pur.vw (pu_var rfl)) pr_none (pr_some (Pur.vw pu_int))))) pl_nil))))) rfl rfl (wk_uns rfl))))))))))))))))))))))))))))), rfl⟩
def m__law_forms (mo : MO) (a_table : PV) : Res (PV × MO) := match mo with
  | .lst a_box => retR (((Res.val a_table) >>= lenP) >>= fun x1 => (noX ((fun (s2 : List PV) => (fun (s6 : List PV) => (fun (s3 : List PV) => noX (Res.val x1) >>= fun v4 => Res.val (v4, s3)) s6 >>= fun x7 => (fun (s5 : List PV) => Res.val (([] : List PV), s5)) x7.2 >>= fun xs8 => Res.val (x7.1 :: xs8.1, xs8.2)) s2 >>= fun x9 => (apR1 m__law_draw) (MO.lst x9.2) x9.1 >>= fun r10 => ((fun (s2 : List PV) (mo : MO) => moL mo >>= fun l => Res.val l) x9.2 r10.2) >>= fun s11 => Res.val (r10.1, s11)) a_box) >>= fun r14 => (fun (x12 : PV) (s13 : List PV) => (noX ((fun (s15 : List PV) => (fun (s19 : List PV) => (fun (s16 : List PV) => noX (Res.val x1) >>= fun v17 => Res.val (v17, s16)) s19 >>= fun x20 => (fun (s18 : List PV) => Res.val (([] : List PV), s18)) x20.2 >>= fun xs21 => Res.val (x20.1 :: xs21.1, xs21.2)) s15 >>= fun x22 => (apR1 m__law_draw) (MO.lst x22.2) x22.1 >>= fun r23 => ((fun (s15 : List PV) (mo : MO) => moL mo >>= fun l => Res.val l) x22.2 r23.2) >>= fun s24 => Res.val (r23.1, s24)) s13) >>= fun r27 => (fun (x25 : PV) (s26 : List PV) => (((((Res.val []) >>= mkT) >>= fun x82 => (((((Res.val []) >>= mkT) >>= fun x78 => (Res.val []) >>= fun xs79 => Res.val (x78 :: xs79)) >>= mkT) >>= fun x80 => ((Res.val (PV.int 0)) >>= fun x76 => ((Res.val (PV.int 5)) >>= fun x74 => ((((Res.val (PV.int 0)) >>= fun x70 => ((Res.val (PV.int 1)) >>= fun x68 => ((Res.val (PV.int 2)) >>= fun x66 => (Res.val []) >>= fun xs67 => Res.val (x66 :: xs67)) >>= fun xs69 => Res.val (x68 :: xs69)) >>= fun xs71 => Res.val (x70 :: xs71)) >>= mkT) >>= fun x72 => (((Res.val a_table) >>= fun x61 => ((Res.val (PV.int 1)) >>= partP >>= fun i60 => Res.val (some i60)) >>= fun lo62 => (Res.val none) >>= fun hi63 => slP x61 lo62 hi63) >>= fun x64 => (((Res.val a_table) >>= fun x56 => ((((Res.val a_table) >>= fun x52 => (Res.val (PV.int 0)) >>= fun x53 => ixP x52 x53) >>= fun x54 => (Res.val []) >>= fun xs55 => Res.val (x54 :: xs55)) >>= mkT) >>= fun x57 => addP x56 x57) >>= fun x58 => (((((Res.val a_table) >>= fun x29 => (Res.val none) >>= fun lo30 => ((Res.val x12) >>= partP >>= fun i28 => Res.val (some i28)) >>= fun hi31 => slP x29 lo30 hi31) >>= fun x40 => (((((Res.val a_table) >>= fun x32 => (Res.val x12) >>= fun x33 => ixP x32 x33) >>= fun x35 => ((Res.val (PV.int 1)) >>= partP >>= fun i34 => Res.val (some i34)) >>= fun lo36 => (Res.val none) >>= fun hi37 => slP x35 lo36 hi37) >>= fun x38 => (Res.val []) >>= fun xs39 => Res.val (x38 :: xs39)) >>= mkT) >>= fun x41 => addP x40 x41) >>= fun x48 => ((Res.val a_table) >>= fun x45 => (((Res.val x12) >>= fun x42 => (Res.val (PV.int 1)) >>= fun x43 => addP x42 x43) >>= partP >>= fun i44 => Res.val (some i44)) >>= fun lo46 => (Res.val none) >>= fun hi47 => slP x45 lo46 hi47) >>= fun x49 => addP x48 x49) >>= fun x50 => (Res.val []) >>= fun xs51 => Res.val (x50 :: xs51)) >>= fun xs59 => Res.val (x58 :: xs59)) >>= fun xs65 => Res.val (x64 :: xs65)) >>= fun xs73 => Res.val (x72 :: xs73)) >>= fun xs75 => Res.val (x74 :: xs75)) >>= fun xs77 => Res.val (x76 :: xs77)) >>= fun xs81 => Res.val (x80 :: xs81)) >>= fun xs83 => Res.val (x82 :: xs83)) >>= mkL) >>= fun x84 => (((Res.val x84) >>= fun x131 => ((((((Res.val a_table) >>= fun x108 => (Res.val none) >>= fun lo109 => ((Res.val x12) >>= partP >>= fun i107 => Res.val (some i107)) >>= fun hi110 => slP x108 lo109 hi110) >>= fun x119 => (((((Res.val a_table) >>= fun x111 => (Res.val x12) >>= fun x112 => ixP x111 x112) >>= fun x115 => (((Res.val (PV.int 0)) >>= fun x113 => (Res.val []) >>= fun xs114 => Res.val (x113 :: xs114)) >>= mkT) >>= fun x116 => addP x115 x116) >>= fun x117 => (Res.val []) >>= fun xs118 => Res.val (x117 :: xs118)) >>= mkT) >>= fun x120 => addP x119 x120) >>= fun x127 => ((Res.val a_table) >>= fun x124 => (((Res.val x12) >>= fun x121 => (Res.val (PV.int 1)) >>= fun x122 => addP x121 x122) >>= partP >>= fun i123 => Res.val (some i123)) >>= fun lo125 => (Res.val none) >>= fun hi126 => slP x124 lo125 hi126) >>= fun x128 => addP x127 x128) >>= fun x129 => (((((Res.val a_table) >>= fun x90 => (Res.val none) >>= fun lo91 => ((Res.val x12) >>= partP >>= fun i89 => Res.val (some i89)) >>= fun hi92 => slP x90 lo91 hi92) >>= fun x95 => (((Res.val (PV.int 3)) >>= fun x93 => (Res.val []) >>= fun xs94 => Res.val (x93 :: xs94)) >>= mkT) >>= fun x96 => addP x95 x96) >>= fun x103 => ((Res.val a_table) >>= fun x100 => (((Res.val x12) >>= fun x97 => (Res.val (PV.int 1)) >>= fun x98 => addP x97 x98) >>= partP >>= fun i99 => Res.val (some i99)) >>= fun lo101 => (Res.val none) >>= fun hi102 => slP x100 lo101 hi102) >>= fun x104 => addP x103 x104) >>= fun x105 => ((((Res.val a_table) >>= fun x85 => (Res.val []) >>= fun xs86 => Res.val (x85 :: xs86)) >>= mkT) >>= fun x87 => (Res.val []) >>= fun xs88 => Res.val (x87 :: xs88)) >>= fun xs106 => Res.val (x105 :: xs106)) >>= fun xs130 => Res.val (x129 :: xs130)) >>= mkL) >>= fun x132 => addP x131 x132) >>= fun x133 => (((Res.val x133) >>= fun x154 => ((((Res.val a_table) >>= fun x148 => (Res.val x12) >>= fun x149 => (Res.val x25) >>= fun x150 => (Res.val x1) >>= fun x151 => m__law_with x148 x149 x150 x151) >>= fun x152 => (((Res.val a_table) >>= fun x142 => (Res.val x12) >>= fun x143 => (Res.val x25) >>= fun x144 => ((Res.val (PV.int 1)) >>= negP) >>= fun x145 => m__law_with x142 x143 x144 x145) >>= fun x146 => (((Res.val a_table) >>= fun x136 => (Res.val x12) >>= fun x137 => (Res.val x25) >>= fun x138 => (((Res.val (PV.int 0)) >>= fun x134 => (Res.val []) >>= fun xs135 => Res.val (x134 :: xs135)) >>= mkT) >>= fun x139 => m__law_with x136 x137 x138 x139) >>= fun x140 => (Res.val []) >>= fun xs141 => Res.val (x140 :: xs141)) >>= fun xs147 => Res.val (x146 :: xs147)) >>= fun xs153 => Res.val (x152 :: xs153)) >>= mkL) >>= fun x155 => addP x154 x155) >>= fun x156 => (((Res.val x156) >>= fun x181 => ((((Res.val a_table) >>= fun x175 => (Res.val x12) >>= fun x176 => (Res.val x25) >>= fun x177 => ((((Res.val a_table) >>= fun x169 => (Res.val x12) >>= fun x170 => ixP x169 x170) >>= fun x171 => (Res.val x25) >>= fun x172 => ixP x171 x172) >>= fun x173 => (Res.val x1) >>= fun x174 => addP x173 x174) >>= fun x178 => m__law_with x175 x176 x177 x178) >>= fun x179 => (((Res.val a_table) >>= fun x163 => (Res.val x12) >>= fun x164 => (Res.val x25) >>= fun x165 => ((((Res.val a_table) >>= fun x157 => (Res.val x12) >>= fun x158 => ixP x157 x158) >>= fun x159 => (Res.val x25) >>= fun x160 => ixP x159 x160) >>= fun x161 => (Res.val x1) >>= fun x162 => subP x161 x162) >>= fun x166 => m__law_with x163 x164 x165 x166) >>= fun x167 => (Res.val []) >>= fun xs168 => Res.val (x167 :: xs168)) >>= fun xs180 => Res.val (x179 :: xs180)) >>= mkL) >>= fun x182 => addP x181 x182) >>= fun x183 => (noX ((fun (s184 : List PV) => (fun (s185 : List PV) => noX (((Res.val (PV.int 1)) >>= fun x206 => ((Res.val (PV.int 2)) >>= fun x204 => ((Res.val (PV.int 4)) >>= fun x202 => ((Res.val (PV.int 6)) >>= fun x200 => ((Res.val (PV.int 8)) >>= fun x198 => ((Res.val (PV.int 9)) >>= fun x196 => ((Res.val (PV.int 10)) >>= fun x194 => ((Res.val (PV.int 12)) >>= fun x192 => ((Res.val (PV.int 14)) >>= fun x190 => ((Res.val (PV.int 15)) >>= fun x188 => ((Res.val (PV.int 17)) >>= fun x186 => (Res.val []) >>= fun xs187 => Res.val (x186 :: xs187)) >>= fun xs189 => Res.val (x188 :: xs189)) >>= fun xs191 => Res.val (x190 :: xs191)) >>= fun xs193 => Res.val (x192 :: xs193)) >>= fun xs195 => Res.val (x194 :: xs195)) >>= fun xs197 => Res.val (x196 :: xs197)) >>= fun xs199 => Res.val (x198 :: xs199)) >>= fun xs201 => Res.val (x200 :: xs201)) >>= fun xs203 => Res.val (x202 :: xs203)) >>= fun xs205 => Res.val (x204 :: xs205)) >>= fun xs207 => Res.val (x206 :: xs207)) >>= mkL) >>= fun v208 => Res.val (v208, s185)) s184 >>= fun x219 => (fun (s209 : List PV) => (fun (s213 : List PV) => (fun (s210 : List PV) => noX (Res.val (PV.int 11)) >>= fun v211 => Res.val (v211, s210)) s213 >>= fun x214 => (fun (s212 : List PV) => Res.val (([] : List PV), s212)) x214.2 >>= fun xs215 => Res.val (x214.1 :: xs215.1, xs215.2)) s209 >>= fun x216 => (apR1 m__law_draw) (MO.lst x216.2) x216.1 >>= fun r217 => ((fun (s209 : List PV) (mo : MO) => moL mo >>= fun l => Res.val l) x216.2 r217.2) >>= fun s218 => Res.val (r217.1, s218)) x219.2 >>= fun x220 => noX (ixP x219.1 x220.1) >>= fun z221 => Res.val (z221, x220.2)) s26) >>= fun r224 => (fun (x222 : PV) (s223 : List PV) => (((Res.val x183) >>= fun x231 => (((((((Res.val x222) >>= rng1) >>= fun ps226 => sized ps226.length >>= fun _ => lcF (fun x => Res.val x) (fun (a225 : PV) => (Res.val true)) (fun (a225 : PV) => (Res.val a225)) ps226) >>= fun ps227 => Res.val (PV.lst ps227)) >>= m__law_table) >>= fun x229 => (Res.val []) >>= fun xs230 => Res.val (x229 :: xs230)) >>= mkL) >>= fun x232 => addP x231 x232) >>= fun v233 => Res.val (.rt v233 [.lst s223]))) r224.1 r224.2)))))) r27.1 r27.2)) r14.1 r14.2))
  | _ => .stuck
theorem ok__law_forms (T : Top P K mg) : FnOk P w K mg base (L2.CX P w) 3 T.f__law_forms T.d__law_forms ["box", "table"] (spR K (clT T) (apR1 m__law_forms)) := by
  have G__law_draw := ok__law_draw (P := P) (w := w) (base := base) T
  have G__law_with := ok__law_with (P := P) (w := w) (base := base) T
  have G__law_table := ok__law_table (P := P) (w := w) (base := base) T
  refine fnR T.F__law_forms scLforms rfl taknR1 fun cdv A outer s H E hr mo qs hq => ?_
  match mo, qs, hq with
  | .dct _, [_], _ => exact .inl rfl
  | .ob _ _, [_], _ => exact .inl rfl
  | .lst a_box, [a_table], _ => exact .inr ⟨_, (pss_cons (ps_set (i := 2) scLforms.nd rfl (Or.inl rfl) (pe_callB (call_lenVK K rfl) (by rfl) T.z_len PySem.boot_len (pa_cons (pv 1) pa_nil)))
      (pss_cons (ps_set (i := 3) scLforms.nd rfl (Or.inl rfl) (pe_callS G__law_draw (hr.mono (by decide)) (by rfl) T.m__law_draw T.F__law_draw.kp T.b__law_draw (fun σ => passAt (takes_of rfl rfl rfl rfl) σ) (pa_cons (pv 0) (pa_cons (pv 2) pa_nil))))
      (pss_cons (ps_set (i := 4) scLforms.nd rfl (Or.inl rfl) (pe_callS G__law_draw (hr.mono (by decide)) (by rfl) T.m__law_draw T.F__law_draw.kp T.b__law_draw (fun σ => passAt (takes_of rfl rfl rfl rfl) σ) (pa_cons (pv 0) (pa_cons (pv 2) pa_nil))))
      (pss_cons (ps_set (i := 5) scLforms.nd rfl (Or.inl rfl) (pe_lst (pa_cons (pe_tup pa_nil) (pa_cons (pe_tup (pa_cons (pe_tup pa_nil) pa_nil)) (pa_cons pe_int (pa_cons pe_int (pa_cons (pe_tup (pa_cons pe_int (pa_cons pe_int (pa_cons pe_int pa_nil)))) (pa_cons (pe_slice (sl_V K rfl) (pv 1) (po_some pe_int) po_none) (pa_cons (pe_op (op_addV K rfl) (pv 1) (pe_tup (pa_cons (pe_ix (ix_VK K rfl) (pv 1) pe_int (fun _ _ => rfl)) pa_nil))) (pa_cons (pe_op (op_addV K rfl) (pe_op (op_addV K rfl) (pe_slice (sl_V K rfl) (pv 1) po_none (po_some (pv 3))) (pe_tup (pa_cons (pe_slice (sl_V K rfl) (pe_ix (ix_VK K rfl) (pv 1) (pv 3) (fun _ _ => rfl)) (po_some pe_int) po_none) pa_nil))) (pe_slice (sl_V K rfl) (pv 1) (po_some (pe_op (op_addV K rfl) (pv 3) pe_int)) po_none)) pa_nil))))))))))
      (pss_cons (ps_set (i := 5) scLforms.nd rfl (Or.inl rfl) (pe_op (op_addV K rfl) (pv 5) (pe_lst (pa_cons (pe_op (op_addV K rfl) (pe_op (op_addV K rfl) (pe_slice (sl_V K rfl) (pv 1) po_none (po_some (pv 3))) (pe_tup (pa_cons (pe_op (op_addV K rfl) (pe_ix (ix_VK K rfl) (pv 1) (pv 3) (fun _ _ => rfl)) (pe_tup (pa_cons pe_int pa_nil))) pa_nil))) (pe_slice (sl_V K rfl) (pv 1) (po_some (pe_op (op_addV K rfl) (pv 3) pe_int)) po_none)) (pa_cons (pe_op (op_addV K rfl) (pe_op (op_addV K rfl) (pe_slice (sl_V K rfl) (pv 1) po_none (po_some (pv 3))) (pe_tup (pa_cons pe_int pa_nil))) (pe_slice (sl_V K rfl) (pv 1) (po_some (pe_op (op_addV K rfl) (pv 3) pe_int)) po_none)) (pa_cons (pe_tup (pa_cons (pv 1) pa_nil)) pa_nil))))))
      (pss_cons (ps_set (i := 5) scLforms.nd rfl (Or.inl rfl) (pe_op (op_addV K rfl) (pv 5) (pe_lst (pa_cons (pe_callS G__law_with (hr.mono (by decide)) (by rfl) T.m__law_with T.F__law_with.kp T.b__law_with (fun σ => passAt (takes_of rfl rfl rfl rfl) σ) (pa_cons (pv 1) (pa_cons (pv 3) (pa_cons (pv 4) (pa_cons (pv 2) pa_nil))))) (pa_cons (pe_callS G__law_with (hr.mono (by decide)) (by rfl) T.m__law_with T.F__law_with.kp T.b__law_with (fun σ => passAt (takes_of rfl rfl rfl rfl) σ) (pa_cons (pv 1) (pa_cons (pv 3) (pa_cons (pv 4) (pa_cons (pe_un un_neg pe_int) pa_nil))))) (pa_cons (pe_callS G__law_with (hr.mono (by decide)) (by rfl) T.m__law_with T.F__law_with.kp T.b__law_with (fun σ => passAt (takes_of rfl rfl rfl rfl) σ) (pa_cons (pv 1) (pa_cons (pv 3) (pa_cons (pv 4) (pa_cons (pe_tup (pa_cons pe_int pa_nil)) pa_nil))))) pa_nil))))))
      (pss_cons (ps_set (i := 5) scLforms.nd rfl (Or.inl rfl) (pe_op (op_addV K rfl) (pv 5) (pe_lst (pa_cons (pe_callS G__law_with (hr.mono (by decide)) (by rfl) T.m__law_with T.F__law_with.kp T.b__law_with (fun σ => passAt (takes_of rfl rfl rfl rfl) σ) (pa_cons (pv 1) (pa_cons (pv 3) (pa_cons (pv 4) (pa_cons (pe_op (op_addV K rfl) (pe_ix (ix_VK K rfl) (pe_ix (ix_VK K rfl) (pv 1) (pv 3) (fun _ _ => rfl)) (pv 4) (fun _ _ => rfl)) (pv 2)) pa_nil))))) (pa_cons (pe_callS G__law_with (hr.mono (by decide)) (by rfl) T.m__law_with T.F__law_with.kp T.b__law_with (fun σ => passAt (takes_of rfl rfl rfl rfl) σ) (pa_cons (pv 1) (pa_cons (pv 3) (pa_cons (pv 4) (pa_cons (pe_op op_sub (pe_ix (ix_VK K rfl) (pe_ix (ix_VK K rfl) (pv 1) (pv 3) (fun _ _ => rfl)) (pv 4) (fun _ _ => rfl)) (pv 2)) pa_nil))))) pa_nil)))))
      (pss_cons (ps_set (i := 6) scLforms.nd rfl (Or.inl rfl) (pe_ix (ix_VK K rfl) (pe_lst (pa_cons pe_int (pa_cons pe_int (pa_cons pe_int (pa_cons pe_int (pa_cons pe_int (pa_cons pe_int (pa_cons pe_int (pa_cons pe_int (pa_cons pe_int (pa_cons pe_int (pa_cons pe_int pa_nil)))))))))))) (pe_callS G__law_draw (hr.mono (by decide)) (by rfl) T.m__law_draw T.F__law_draw.kp T.b__law_draw (fun σ => passAt (takes_of rfl rfl rfl rfl) σ) (pa_cons (pv 0) (pa_cons pe_int pa_nil))) (fun _ _ => rfl)))
      (pss_one (ps_ret (pe_op (op_addV K rfl) (pv 5) (pe_lst (pa_cons (pe_callS G__law_table (hr.mono (by decide)) (by rfl) T.m__law_table T.F__law_table.kp T.b__law_table (fun σ => passAt (takes_of rfl rfl rfl rfl) σ) (pa_cons (pe_lc (own := [("k", 7)]) (g := gName 7) (tt := tYes) rfl scLforms.nd (pi_range1 (by rfl) T.z_range (pa_cons (pv 6) pa_nil)) (blkOk_by (own := [("k", 7)]) (N := ["box", "table", "q", "a", "b", "found", "size", "k"]) (sc := defScope s_Lforms) (by decide +kernel)) (fun _ _ _ _ _ => (pg_name (i := 7) scLforms.nd rfl (Or.inl rfl))) (fun _ _ _ _ _ => pts_nil) (fun _ _ _ _ _ => (pv 7))) pa_nil)) pa_nil))))))))))))),
    _, run_one (run_assoc (run_set (i := 2) (pu_cb1 b1_len (Pur.vw (pu_var rfl))) rfl (wk_uns rfl) fun x1 => (run_assoc (run_setE (i := 3) (ρs := (fun (s236 : List PV) => [(.rf 0 (.lst s236)), (.fz a_table), (.fz x1), .un, .un, .un, .un, .un])) (s0 := a_box) (ef_callR (i := 0) (sl := (fun (s2 : List PV) => (.rf 0 (.lst s2)))) (get := (fun (s2 : List PV) => MO.lst s2)) (put := (fun (s2 : List PV) (mo : MO) => moL mo >>= fun l => Res.val l)) (fun _ => rfl) (fun _ => Or.inr ⟨_, rfl⟩) (fun s mo s' h => by cases mo <;> first | (cases h; rfl) | cases h) (el_cons (ef_pure (W := (fun c d _ H' => E c d H')) fun s3 => (pu_var rfl)) el_nil)) rfl (fun _ => rfl) fun x12 s13 => (run_assoc (run_setE (i := 4) (ρs := (fun (s235 : List PV) => [(.rf 0 (.lst s235)), (.fz a_table), (.fz x1), (.fz x12), .un, .un, .un, .un])) (s0 := s13) (ef_callR (i := 0) (sl := (fun (s15 : List PV) => (.rf 0 (.lst s15)))) (get := (fun (s15 : List PV) => MO.lst s15)) (put := (fun (s15 : List PV) (mo : MO) => moL mo >>= fun l => Res.val l)) (fun _ => rfl) (fun _ => Or.inr ⟨_, rfl⟩) (fun s mo s' h => by cases mo <;> first | (cases h; rfl) | cases h) (el_cons (ef_pure (W := (fun c d _ H' => E c d H')) fun s16 => (pu_var rfl)) el_nil)) rfl (fun _ => rfl) fun x25 s26 => (run_assoc (run_set (i := 5) (pu_lst (pl_cons (pu_tup pl_nil) (pl_cons (pu_tup (pl_cons (pu_tup pl_nil) pl_nil)) (pl_cons pu_int (pl_cons pu_int (pl_cons (pu_tup (pl_cons pu_int (pl_cons pu_int (pl_cons pu_int pl_nil)))) (pl_cons (pu_sl (Pur.vw (pu_var rfl)) (pr_some (Pur.vw pu_int)) pr_none) (pl_cons (pu_op o2_add (Pur.vw (pu_var rfl)) (Pur.vw (pu_tup (pl_cons (pu_op o2_ix (Pur.vw (pu_var rfl)) (Pur.vw pu_int)) pl_nil)))) (pl_cons (pu_op o2_add (Pur.vw (pu_op o2_add (Pur.vw (pu_sl (Pur.vw (pu_var rfl)) pr_none (pr_some (Pur.vw (pu_var rfl))))) (Pur.vw (pu_tup (pl_cons (pu_sl (Pur.vw (pu_op o2_ix (Pur.vw (pu_var rfl)) (Pur.vw (pu_var rfl)))) (pr_some (Pur.vw pu_int)) pr_none) pl_nil))))) (Pur.vw (pu_sl (Pur.vw (pu_var rfl)) (pr_some (Pur.vw (pu_op o2_add (Pur.vw (pu_var rfl)) (Pur.vw pu_int)))) pr_none))) pl_nil))))))))) rfl (wk_uns rfl) fun x84 => (run_assoc (run_set (i := 5) (pu_op o2_add (Pur.vw (pu_var rfl)) (Pur.vw (pu_lst (pl_cons (pu_op o2_add (Pur.vw (pu_op o2_add (Pur.vw (pu_sl (Pur.vw (pu_var rfl)) pr_none (pr_some (Pur.vw (pu_var rfl))))) (Pur.vw (pu_tup (pl_cons (pu_op o2_add (Pur.vw (pu_op o2_ix (Pur.vw (pu_var rfl)) (Pur.vw (pu_var rfl)))) (Pur.vw (pu_tup (pl_cons pu_int pl_nil)))) pl_nil))))) (Pur.vw (pu_sl (Pur.vw (pu_var rfl)) (pr_some (Pur.vw (pu_op o2_add (Pur.vw (pu_var rfl)) (Pur.vw pu_int)))) pr_none))) (pl_cons (pu_op o2_add (Pur.vw (pu_op o2_add (Pur.vw (pu_sl (Pur.vw (pu_var rfl)) pr_none (pr_some (Pur.vw (pu_var rfl))))) (Pur.vw (pu_tup (pl_cons pu_int pl_nil))))) (Pur.vw (pu_sl (Pur.vw (pu_var rfl)) (pr_some (Pur.vw (pu_op o2_add (Pur.vw (pu_var rfl)) (Pur.vw pu_int)))) pr_none))) (pl_cons (pu_tup (pl_cons (pu_var rfl) pl_nil)) pl_nil)))))) rfl (wk_uns rfl) fun x133 => (run_assoc (run_set (i := 5) (pu_op o2_add (Pur.vw (pu_var rfl)) (Pur.vw (pu_lst (pl_cons (pu_call4 (pu_var rfl) (pu_var rfl) (pu_var rfl) (pu_var rfl)) (pl_cons (pu_call4 (pu_var rfl) (pu_var rfl) (pu_var rfl) (pu_un o1_neg (Pur.vw pu_int))) (pl_cons (pu_call4 (pu_var rfl) (pu_var rfl) (pu_var rfl) (pu_tup (pl_cons pu_int pl_nil))) pl_nil)))))) rfl (wk_uns rfl) fun x156 => (run_assoc (run_set (i := 5) (pu_op o2_add (Pur.vw (pu_var rfl)) (Pur.vw (pu_lst (pl_cons (pu_call4 (pu_var rfl) (pu_var rfl) (pu_var rfl) (pu_op o2_add (Pur.vw (pu_op o2_ix (Pur.vw (pu_op o2_ix (Pur.vw (pu_var rfl)) (Pur.vw (pu_var rfl)))) (Pur.vw (pu_var rfl)))) (Pur.vw (pu_var rfl)))) (pl_cons (pu_call4 (pu_var rfl) (pu_var rfl) (pu_var rfl) (pu_op o2_sub (Pur.vw (pu_op o2_ix (Pur.vw (pu_op o2_ix (Pur.vw (pu_var rfl)) (Pur.vw (pu_var rfl)))) (Pur.vw (pu_var rfl)))) (Pur.vw (pu_var rfl)))) pl_nil))))) rfl (wk_uns rfl) fun x183 => (run_assoc (run_setE (i := 6) (ρs := (fun (s234 : List PV) => [(.rf 0 (.lst s234)), (.fz a_table), (.fz x1), (.fz x12), (.fz x25), (.fz x183), .un, .un])) (s0 := s26) (ef_op o2_ix (ef_pure (W := (fun c d _ H' => E c d H')) fun s185 => (pu_lst (pl_cons pu_int (pl_cons pu_int (pl_cons pu_int (pl_cons pu_int (pl_cons pu_int (pl_cons pu_int (pl_cons pu_int (pl_cons pu_int (pl_cons pu_int (pl_cons pu_int (pl_cons pu_int pl_nil))))))))))))) (ef_callR (i := 0) (sl := (fun (s209 : List PV) => (.rf 0 (.lst s209)))) (get := (fun (s209 : List PV) => MO.lst s209)) (put := (fun (s209 : List PV) (mo : MO) => moL mo >>= fun l => Res.val l)) (fun _ => rfl) (fun _ => Or.inr ⟨_, rfl⟩) (fun s mo s' h => by cases mo <;> first | (cases h; rfl) | cases h) (el_cons (ef_pure (W := (fun c d _ H' => E c d H')) fun s210 => pu_int) el_nil))) rfl (fun _ => rfl) fun x222 s223 => (run_ret (pu_op o2_add (Pur.vw (pu_var rfl)) (Pur.vw (pu_lst (pl_cons (pu_call1 (New.pur (nw_lc (ρe := fun (a225 : PV) => [(.rf 0 (.lst s223)), (.fz a_table), (.fz x1), (.fz x12), (.fz x25), (.fz x183), (.fz x222), (.fz a225)]) (Iter.view (it_rng1 (Pur.vw (pu_var rfl)))) rfl (by decide) (tg_name (i := 7) rfl (Or.inr (by decide))) (fun a225 => ts_yes) (fun a225 => (pu_var rfl))))) pl_nil)))) rfl rfl (wk_uns rfl)))))))))))))))))), rfl⟩
def m__law_is_prime (a_n : PV) : Res PV := retF ((((Res.val a_n) >>= fun x1 => (Res.val (PV.int 2)) >>= fun x2 => ltP x1 x2) >>= asB) >>= fun b3 => if b3 = true then ((Res.val (PV.bl false)) >>= fun v4 => Res.val (.rt v4 [])) else (seqF (S1 := Unit) (((Res.val (PV.int 2)) >>= fun x5 => (Res.val (PV.int 40)) >>= fun x6 => rng2 x5 x6) >>= fun ps21 => forF (fun (x22 : PV) (s7 : Unit) => (fun x => Res.val x) x22 >>= fun (a8 : PV) => (((((Res.val a8) >>= fun x9 => (Res.val a8) >>= fun x10 => mulP x9 x10) >>= fun x11 => (Res.val a_n) >>= fun x12 => gtP x11 x12) >>= asB) >>= fun b13 => if b13 = true then ((Res.val (PV.bl true)) >>= fun v14 => Res.val (.rt v14 [])) else ((((((Res.val a_n) >>= intP) >>= fun x15 => (Res.val a8) >>= fun x16 => modP x15 x16) >>= fun x17 => (Res.val (PV.int 0)) >>= fun x18 => eqP x17 x18) >>= asB) >>= fun b19 => if b19 = true then ((Res.val (PV.bl false)) >>= fun v20 => Res.val (.rt v20 [])) else (Res.val (.nx ()))))) ps21 ()) fun s23 => ((Res.val (PV.bl true)) >>= fun v24 => Res.val (.rt v24 []))))
theorem ok__law_is_prime (T : Top P K mg) : FnOk P w K mg base (L2.CX P w) 1 T.f__law_is_prime T.d__law_is_prime ["n"] (spP K (clT T) (ap1 m__law_is_prime)) := by
  refine fnP T.F__law_is_prime scLis_prime rfl takn1 fun cdv A outer s H E hr qs hq => ?_
  match qs, hq with
  | [a_n], _ => exact ⟨_, (pss_cons (ps_if (pt_cmpR op_lt (pv 0) pe_int (nomark _)) (pss_one (ps_ret pe_bl)) pss_nil)
      (pss_cons (ps_for (passes_of rfl) rfl (pi_range2 (by rfl) T.z_range (pa_cons pe_int (pa_cons pe_int pa_nil))) (pg_name (i := 1) scLis_prime.nd rfl (Or.inl rfl)) (pss_cons (ps_if (pt_cmpR op_gt (pe_op op_mulV (pv 1) (pv 1)) (pv 0) (nomark _)) (pss_one (ps_ret pe_bl)) pss_nil)
      (pss_one (ps_if (pt_cmpR (op_eqV K rfl hr.units) (pe_op op_modN (pe_callTy call_intV (by rfl) T.z_int (by decide +kernel) (pa_cons (pv 0) pa_nil)) (pv 1)) pe_int (nomark _)) (pss_one (ps_ret pe_bl)) pss_nil))))
      (pss_one (ps_ret pe_bl)))),
    _, run_one (run_assoc (run_if (ts_cmp (Pur.vw (pu_op o2_lt (Pur.vw (pu_var rfl)) (Pur.vw pu_int)))) (wk_uns rfl) (run_ret pu_bl rfl rfl (wk_uns rfl)) (run_skip (run_assoc (run_seq (ρj := fun (s23 : Unit) => [(.fz a_n), .un]) (run_for (ρs := fun (s7 : Unit) => [(.fz a_n), .un]) (s0 := ()) (ρe := fun (s7 : Unit) (a8 : PV) => [(.fz a_n), (.fz a8)]) (it_rng2 (Pur.vw pu_int) (Pur.vw pu_int)) (.keep (.keep .nil)) (wk_uns rfl) (fun s7 => (tg_name (i := 1) rfl (Or.inl rfl))) (fun a8 s7 => run_one (run_assoc (run_if (ts_cmp (Pur.vw (pu_op o2_gt (Pur.vw (pu_op o2_mul (Pur.vw (pu_var rfl)) (Pur.vw (pu_var rfl)))) (Pur.vw (pu_var rfl))))) (wk_uns rfl) (run_ret pu_bl rfl rfl (wk_uns rfl)) (run_skip (run_if (ts_cmp (Pur.vw (pu_op o2_eq (Pur.vw (pu_op o2_mod (Pur.vw (pu_cb1 b1_int (Pur.vw (pu_var rfl)))) (Pur.vw (pu_var rfl)))) (Pur.vw pu_int)))) (wk_uns rfl) (run_ret pu_bl rfl rfl (wk_uns rfl)) (run_skip (run_next (s := ()) (.keep (.drop .nil)))))))))) fun s23 => (run_ret pu_bl rfl rfl (wk_uns rfl))))))), rfl⟩
def m__law_prime (mo : MO) (a_low : PV) (a_high : PV) : Res (PV × MO) := match mo with
  | .lst a_box => retR (noX ((fun (s1 : List PV) => (fun (s9 : List PV) => (fun (s2 : List PV) => noX (((Res.val a_high) >>= fun x3 => (Res.val a_low) >>= fun x4 => subP x3 x4) >>= fun x5 => (Res.val (PV.int 1)) >>= fun x6 => addP x5 x6) >>= fun v7 => Res.val (v7, s2)) s9 >>= fun x10 => (fun (s8 : List PV) => Res.val (([] : List PV), s8)) x10.2 >>= fun xs11 => Res.val (x10.1 :: xs11.1, xs11.2)) s1 >>= fun x12 => (apR1 m__law_draw) (MO.lst x12.2) x12.1 >>= fun r13 => ((fun (s1 : List PV) (mo : MO) => moL mo >>= fun l => Res.val l) x12.2 r13.2) >>= fun s14 => Res.val (r13.1, s14)) a_box) >>= fun r17 => (fun (x15 : PV) (s16 : List PV) => (seqF (S1 := Unit) (((((Res.val a_high) >>= fun x18 => (Res.val a_low) >>= fun x19 => subP x18 x19) >>= fun x20 => (Res.val (PV.int 1)) >>= fun x21 => addP x20 x21) >>= rng1) >>= fun ps38 => forF (fun (x39 : PV) (s22 : Unit) => (fun x => Res.val x) x39 >>= fun (a23 : PV) => (((Res.val a_low) >>= fun x32 => ((((Res.val x15) >>= fun x24 => (Res.val a23) >>= fun x25 => addP x24 x25) >>= intP) >>= fun x30 => (((Res.val a_high) >>= fun x26 => (Res.val a_low) >>= fun x27 => subP x26 x27) >>= fun x28 => (Res.val (PV.int 1)) >>= fun x29 => addP x28 x29) >>= fun x31 => modP x30 x31) >>= fun x33 => addP x32 x33) >>= fun x34 => ((((Res.val x34) >>= m__law_is_prime) >>= asB) >>= fun b36 => if b36 = true then ((Res.val x34) >>= fun v37 => Res.val (.rt v37 [.lst s16])) else (Res.val (.nx ()))))) ps38 ()) fun s40 => ((Res.val (PV.int 3)) >>= fun v41 => Res.val (.rt v41 [.lst s16])))) r17.1 r17.2)
  | _ => .stuck
theorem ok__law_prime (T : Top P K mg) : FnOk P w K mg base (L2.CX P w) 3 T.f__law_prime T.d__law_prime ["box", "low", "high"] (spR K (clT T) (apR2 m__law_prime)) := by
  have G__law_draw := ok__law_draw (P := P) (w := w) (base := base) T
  have G__law_is_prime := ok__law_is_prime (P := P) (w := w) (base := base) T
  refine fnR T.F__law_prime scLprime rfl taknR2 fun cdv A outer s H E hr mo qs hq => ?_
  match mo, qs, hq with
  | .dct _, [_, _], _ => exact .inl rfl
  | .ob _ _, [_, _], _ => exact .inl rfl
  | .lst a_box, [a_low, a_high], _ => exact .inr ⟨_, (pss_cons (ps_set (i := 3) scLprime.nd rfl (Or.inl rfl) (pe_callS G__law_draw (hr.mono (by decide)) (by rfl) T.m__law_draw T.F__law_draw.kp T.b__law_draw (fun σ => passAt (takes_of rfl rfl rfl rfl) σ) (pa_cons (pv 0) (pa_cons (pe_op (op_addV K rfl) (pe_op op_sub (pv 2) (pv 1)) pe_int) pa_nil))))
      (pss_cons (ps_for (passes_of rfl) rfl (pi_range1 (by rfl) T.z_range (pa_cons (pe_op (op_addV K rfl) (pe_op op_sub (pv 2) (pv 1)) pe_int) pa_nil)) (pg_name (i := 4) scLprime.nd rfl (Or.inl rfl)) (pss_cons (ps_set (i := 5) scLprime.nd rfl (Or.inl rfl) (pe_op (op_addV K rfl) (pv 1) (pe_op op_modN (pe_callTy call_intV (by rfl) T.z_int (by decide +kernel) (pa_cons (pe_op (op_addV K rfl) (pv 3) (pv 4)) pa_nil)) (pe_op (op_addV K rfl) (pe_op op_sub (pv 2) (pv 1)) pe_int))))
      (pss_one (ps_if (pt_val (pe_callS G__law_is_prime (hr.mono (by decide)) (by rfl) T.m__law_is_prime T.F__law_is_prime.kp T.b__law_is_prime (fun σ => passAt (takes_of rfl rfl rfl rfl) σ) (pa_cons (pv 5) pa_nil))) (pss_one (ps_ret (pv 5))) pss_nil))))
      (pss_one (ps_ret pe_int)))),
    _, run_one (run_assoc (run_setE (i := 3) (ρs := (fun (s42 : List PV) => [(.rf 0 (.lst s42)), (.fz a_low), (.fz a_high), .un, .un, .un])) (s0 := a_box) (ef_callR (i := 0) (sl := (fun (s1 : List PV) => (.rf 0 (.lst s1)))) (get := (fun (s1 : List PV) => MO.lst s1)) (put := (fun (s1 : List PV) (mo : MO) => moL mo >>= fun l => Res.val l)) (fun _ => rfl) (fun _ => Or.inr ⟨_, rfl⟩) (fun s mo s' h => by cases mo <;> first | (cases h; rfl) | cases h) (el_cons (ef_pure (W := (fun c d _ H' => E c d H')) fun s2 => (pu_op o2_add (Pur.vw (pu_op o2_sub (Pur.vw (pu_var rfl)) (Pur.vw (pu_var rfl)))) (Pur.vw pu_int))) el_nil)) rfl (fun _ => rfl) fun x15 s16 => (run_assoc (run_seq (ρj := fun (s40 : Unit) => [(.rf 0 (.lst s16)), (.fz a_low), (.fz a_high), (.fz x15), .un, .un]) (run_for (ρs := fun (s22 : Unit) => [(.rf 0 (.lst s16)), (.fz a_low), (.fz a_high), (.fz x15), .un, .un]) (s0 := ()) (ρe := fun (s22 : Unit) (a23 : PV) => [(.rf 0 (.lst s16)), (.fz a_low), (.fz a_high), (.fz x15), (.fz a23), .un]) (it_rng1 (Pur.vw (pu_op o2_add (Pur.vw (pu_op o2_sub (Pur.vw (pu_var rfl)) (Pur.vw (pu_var rfl)))) (Pur.vw pu_int)))) (.keep (.keep (.keep (.keep (.keep (.keep .nil)))))) (wk_uns rfl) (fun s22 => (tg_name (i := 4) rfl (Or.inl rfl))) (fun a23 s22 => run_one (run_assoc (run_set (i := 5) (pu_op o2_add (Pur.vw (pu_var rfl)) (Pur.vw (pu_op o2_mod (Pur.vw (pu_cb1 b1_int (Pur.vw (pu_op o2_add (Pur.vw (pu_var rfl)) (Pur.vw (pu_var rfl)))))) (Pur.vw (pu_op o2_add (Pur.vw (pu_op o2_sub (Pur.vw (pu_var rfl)) (Pur.vw (pu_var rfl)))) (Pur.vw pu_int)))))) rfl (wk_uns rfl) fun x34 => (run_if (ts_val (Pur.vw (pu_call1 (pu_var rfl)))) (wk_uns rfl) (run_ret (pu_var rfl) rfl rfl (wk_uns rfl)) (run_skip (run_next (s := ()) (.keep (.keep (.keep (.keep (.drop (.drop .nil))))))))))))) fun s40 => (run_ret pu_int rfl rfl (wk_uns rfl)))))), rfl⟩
def m__law_is_square (a_table : PV) : Res PV := retF ((((((Res.val a_table) >>= fun x13 => (Res.val (PV.ty "tuple")) >>= fun x14 => isiP x13 x14) >>= asB) >>= fun b15 => Res.val (!b15)) >>= fun b16 => if b16 = true then Res.val true else ((((Res.val a_table) >>= lenP) >>= fun x11 => (((Res.val (PV.int 3)) >>= fun x9 => ((Res.val (PV.int 5)) >>= fun x7 => ((Res.val (PV.int 7)) >>= fun x5 => ((Res.val (PV.int 11)) >>= fun x3 => ((Res.val (PV.int 13)) >>= fun x1 => (Res.val []) >>= fun xs2 => Res.val (x1 :: xs2)) >>= fun xs4 => Res.val (x3 :: xs4)) >>= fun xs6 => Res.val (x5 :: xs6)) >>= fun xs8 => Res.val (x7 :: xs8)) >>= fun xs10 => Res.val (x9 :: xs10)) >>= mkL) >>= fun x12 => (inP true) x11 x12) >>= asB)) >>= fun b17 => if b17 = true then ((Res.val (PV.bl false)) >>= fun v18 => Res.val (.rt v18 [])) else (seqF (S1 := Unit) (((Res.val a_table) >>= asSq) >>= fun ps45 => forF (fun (x46 : PV) (s19 : Unit) => (fun x => Res.val x) x46 >>= fun (a20 : PV) => ((((((Res.val a20) >>= fun x23 => (Res.val (PV.ty "tuple")) >>= fun x24 => isiP x23 x24) >>= asB) >>= fun b25 => Res.val (!b25)) >>= fun b26 => if b26 = true then Res.val true else ((((Res.val a20) >>= lenP) >>= fun x21 => ((Res.val a_table) >>= lenP) >>= fun x22 => neP x21 x22) >>= asB)) >>= fun b27 => if b27 = true then ((Res.val (PV.bl false)) >>= fun v28 => Res.val (.rt v28 [])) else (seqF (S1 := Unit) (((Res.val a20) >>= asSq) >>= fun ps42 => forF (fun (x43 : PV) (s29 : Unit) => (fun x => Res.val x) x43 >>= fun (a30 : PV) => ((((((Res.val a30) >>= fun x36 => (Res.val (PV.ty "int")) >>= fun x37 => isiP x36 x37) >>= asB) >>= fun b38 => Res.val (!b38)) >>= fun b39 => if b39 = true then Res.val true else ((((Res.val a30) >>= fun x33 => (Res.val (PV.int 0)) >>= fun x34 => ltP x33 x34) >>= asB) >>= fun b35 => if b35 = true then Res.val true else (((Res.val a30) >>= fun x31 => ((Res.val a_table) >>= lenP) >>= fun x32 => geP x31 x32) >>= asB))) >>= fun b40 => if b40 = true then ((Res.val (PV.bl false)) >>= fun v41 => Res.val (.rt v41 [])) else (Res.val (.nx ())))) ps42 ()) fun s44 => (Res.val (.nx ()))))) ps45 ()) fun s47 => ((Res.val (PV.bl true)) >>= fun v48 => Res.val (.rt v48 []))))
theorem ok__law_is_square (T : Top P K mg) : FnOk P w K mg base (L2.CX P w) 1 T.f__law_is_square T.d__law_is_square ["table"] (spP K (clT T) (ap1 m__law_is_square)) := by
  refine fnP T.F__law_is_square scLis_square rfl takn1 fun cdv A outer s H E hr qs hq => ?_
  match qs, hq with
  | [a_table], _ => exact ⟨_, (pss_cons (ps_if (PW.pt (pw_or (pt_not (pt_val (pe_callB (call_isiV K rfl) (by rfl) T.z_isinstance (by decide +kernel) (pa_cons (pv 0) (pa_cons (pe_bltn (v := .ty "tuple") (by rfl) T.z_tuple (by decide +kernel) rfl) pa_nil))))) (pw_or1 (pt_cmpR (op_notInV K rfl) (pe_callB (call_lenVK K rfl) (by rfl) T.z_len PySem.boot_len (pa_cons (pv 0) pa_nil)) (pe_lst (pa_cons pe_int (pa_cons pe_int (pa_cons pe_int (pa_cons pe_int (pa_cons pe_int pa_nil)))))) (by rfl))))) (pss_one (ps_ret pe_bl)) pss_nil)
      (pss_cons (ps_for (passes_of rfl) rfl (pi_seqV K rfl (pv 0)) (pg_name (i := 1) scLis_square.nd rfl (Or.inl rfl)) (pss_cons (ps_if (PW.pt (pw_or (pt_not (pt_val (pe_callB (call_isiV K rfl) (by rfl) T.z_isinstance (by decide +kernel) (pa_cons (pv 1) (pa_cons (pe_bltn (v := .ty "tuple") (by rfl) T.z_tuple (by decide +kernel) rfl) pa_nil))))) (pw_or1 (pt_cmpR (op_neV K rfl hr.units) (pe_callB (call_lenVK K rfl) (by rfl) T.z_len PySem.boot_len (pa_cons (pv 1) pa_nil)) (pe_callB (call_lenVK K rfl) (by rfl) T.z_len PySem.boot_len (pa_cons (pv 0) pa_nil)) (nomark _))))) (pss_one (ps_ret pe_bl)) pss_nil)
      (pss_one (ps_for (passes_of rfl) rfl (pi_seqV K rfl (pv 1)) (pg_name (i := 2) scLis_square.nd rfl (Or.inl rfl)) (pss_one (ps_if (PW.pt (pw_or (pt_not (pt_val (pe_callB (call_isiV K rfl) (by rfl) T.z_isinstance (by decide +kernel) (pa_cons (pv 2) (pa_cons (pe_bltn (v := .ty "int") (by rfl) T.z_int (by decide +kernel) rfl) pa_nil))))) (pw_or (pt_cmpR op_lt (pv 2) pe_int (nomark _)) (pw_or1 (pt_cmpR op_ge (pv 2) (pe_callB (call_lenVK K rfl) (by rfl) T.z_len PySem.boot_len (pa_cons (pv 0) pa_nil)) (nomark _)))))) (pss_one (ps_ret pe_bl)) pss_nil))))))
      (pss_one (ps_ret pe_bl)))),
    _, run_one (run_assoc (run_if (ts_or (ts_not (ts_val (Pur.vw (pu_cb2 b2_isi (Pur.vw (pu_var rfl)) (Pur.vw pu_ty))))) (ts_cmp (Pur.vw (pu_op o2_in (Pur.vw (pu_cb1 b1_len (Pur.vw (pu_var rfl)))) (Pur.vw (pu_lst (pl_cons pu_int (pl_cons pu_int (pl_cons pu_int (pl_cons pu_int (pl_cons pu_int pl_nil))))))))))) (wk_uns rfl) (run_ret pu_bl rfl rfl (wk_uns rfl)) (run_skip (run_assoc (run_seq (ρj := fun (s47 : Unit) => [(.fz a_table), .un, .un]) (run_for (ρs := fun (s19 : Unit) => [(.fz a_table), .un, .un]) (s0 := ()) (ρe := fun (s19 : Unit) (a20 : PV) => [(.fz a_table), (.fz a20), .un]) (it_seq (pu_var rfl)) (.keep (.keep (.keep .nil))) (wk_uns rfl) (fun s19 => (tg_name (i := 1) rfl (Or.inl rfl))) (fun a20 s19 => run_one (run_assoc (run_if (ts_or (ts_not (ts_val (Pur.vw (pu_cb2 b2_isi (Pur.vw (pu_var rfl)) (Pur.vw pu_ty))))) (ts_cmp (Pur.vw (pu_op o2_ne (Pur.vw (pu_cb1 b1_len (Pur.vw (pu_var rfl)))) (Pur.vw (pu_cb1 b1_len (Pur.vw (pu_var rfl)))))))) (wk_uns rfl) (run_ret pu_bl rfl rfl (wk_uns rfl)) (run_skip (run_seq (ρj := fun (s44 : Unit) => [(.fz a_table), (.fz a20), .un]) (run_for (ρs := fun (s29 : Unit) => [(.fz a_table), (.fz a20), .un]) (s0 := ()) (ρe := fun (s29 : Unit) (a30 : PV) => [(.fz a_table), (.fz a20), (.fz a30)]) (it_seq (pu_var rfl)) (.keep (.keep (.keep .nil))) (wk_uns rfl) (fun s29 => (tg_name (i := 2) rfl (Or.inl rfl))) (fun a30 s29 => run_one (run_if (ts_or (ts_not (ts_val (Pur.vw (pu_cb2 b2_isi (Pur.vw (pu_var rfl)) (Pur.vw pu_ty))))) (ts_or (ts_cmp (Pur.vw (pu_op o2_lt (Pur.vw (pu_var rfl)) (Pur.vw pu_int)))) (ts_cmp (Pur.vw (pu_op o2_ge (Pur.vw (pu_var rfl)) (Pur.vw (pu_cb1 b1_len (Pur.vw (pu_var rfl))))))))) (wk_uns rfl) (run_ret pu_bl rfl rfl (wk_uns rfl)) (run_skip (run_next (s := ()) (.keep (.keep (.drop .nil)))))))) fun s44 => (run_next (s := ()) (.keep (.drop (.keep .nil)))))))))) fun s47 => (run_ret pu_bl rfl rfl (wk_uns rfl))))))), rfl⟩
def m__law_units (a_table : PV) : Res PV := retF (((Res.val a_table) >>= lenP) >>= fun x1 => (((Res.val []) >>= mkN) >>= fun l2 => (seqF (S1 := List PV) (((Res.val x1) >>= rng1) >>= fun ps23 => forF (fun (x24 : PV) (s3 : List PV) => (fun x => Res.val x) x24 >>= fun (a4 : PV) => (((((((Res.val x1) >>= rng1) >>= fun ps19 => sized ps19.length >>= fun _ => lcF (fun x => Res.val x) (fun (a5 : PV) => (Res.val true)) (fun (a5 : PV) => (((((Res.val a_table) >>= fun x12 => (Res.val a4) >>= fun x13 => ixP x12 x13) >>= fun x14 => (Res.val a5) >>= fun x15 => ixP x14 x15) >>= fun x16 => (Res.val a5) >>= fun x17 => eqP x16 x17) >>= asB >>= fun b18 => if b18 = true then ((((Res.val a_table) >>= fun x6 => (Res.val a5) >>= fun x7 => ixP x6 x7) >>= fun x8 => (Res.val a4) >>= fun x9 => ixP x8 x9) >>= fun x10 => (Res.val a5) >>= fun x11 => eqP x10 x11) else Res.val (PV.bl false))) ps19) >>= fun ps20 => Res.val (PV.lst ps20)) >>= allP) >>= asB) >>= fun b21 => if b21 = true then ((Res.val a4) >>= fun x22 => sized (s3.length + 1) >>= fun _ => (Res.val (.nx (s3 ++ [x22])))) else (Res.val (.nx s3)))) ps23 l2) fun s25 => ((Res.val (PV.lst s25)) >>= fun v26 => Res.val (.rt v26 [])))))
theorem ok__law_units (T : Top P K mg) : FnOk P w K mg base (L2.CX P w) 1 T.f__law_units T.d__law_units ["table"] (spP K (clT T) (ap1 m__law_units)) := by
  refine fnP T.F__law_units scLunits rfl takn1 fun cdv A outer s H E hr qs hq => ?_
  match qs, hq with
  | [a_table], _ => exact ⟨_, (pss_cons (ps_set (i := 1) scLunits.nd rfl (Or.inl rfl) (pe_callB (call_lenVK K rfl) (by rfl) T.z_len PySem.boot_len (pa_cons (pv 0) pa_nil)))
      (pss_cons (ps_set (i := 2) scLunits.nd rfl (Or.inl rfl) (pe_lst pa_nil))
      (pss_cons (ps_for (passes_of rfl) rfl (pi_range1 (by rfl) T.z_range (pa_cons (pv 1) pa_nil)) (pg_name (i := 3) scLunits.nd rfl (Or.inr rfl)) (pss_one (ps_if (pt_val (pe_callB (cr_allV K rfl rfl) (by rfl) T.z_all (by decide +kernel) (pa_cons (pe_lc (own := [("a", 4)]) (g := gName 4) (tt := tYes) rfl scLunits.nd (pi_range1 (by rfl) T.z_range (pa_cons (pv 1) pa_nil)) (blkOk_by (own := [("a", 4)]) (N := ["table", "q", "found", "e", "a"]) (sc := defScope s_Lunits) (by decide +kernel)) (fun _ _ _ _ _ => (pg_name (i := 4) scLunits.nd rfl (Or.inl rfl))) (fun _ _ _ _ _ => pts_nil) (fun _ _ _ _ _ => (pe_and (pe_cmpR (op_eqV K rfl hr.units) (pe_ix (ix_VK K rfl) (pe_ix (ix_VK K rfl) (pv 0) (pv 3) (fun _ _ => rfl)) (pv 4) (fun _ _ => rfl)) (pv 4) (nomark _)) (pe_one (pe_cmpR (op_eqV K rfl hr.units) (pe_ix (ix_VK K rfl) (pe_ix (ix_VK K rfl) (pv 0) (pv 4) (fun _ _ => rfl)) (pv 3) (fun _ _ => rfl)) (pv 4) (nomark _)))))) pa_nil))) (pss_one (ps_expr (pe_bm PySem.F.plainAttrs_list PySem.F.slot_list_append PySem.F.type_list_append mt_append (pv 2) (pa_cons (pv 3) pa_nil)))) pss_nil)))
      (pss_one (ps_ret (pv 2)))))),
    _, run_one (run_assoc (run_set (i := 1) (pu_cb1 b1_len (Pur.vw (pu_var rfl))) rfl (wk_uns rfl) fun x1 => (run_assoc (run_setow (i := 2) (nw_lst pl_nil) rfl (wk_uns rfl) fun l2 => (run_assoc (run_seq (ρj := fun (s25 : List PV) => [(.fz a_table), (.fz x1), (.ow (.lst s25)), .un, .un]) (run_for (ρs := fun (s3 : List PV) => [(.fz a_table), (.fz x1), (.ow (.lst s3)), .un, .un]) (s0 := l2) (ρe := fun (s3 : List PV) (a4 : PV) => [(.fz a_table), (.fz x1), (.ow (.lst s3)), (.fz a4), .un]) (it_rng1 (Pur.vw (pu_var rfl))) (.keep (.keep (.keep (.keep (.keep .nil))))) (wk_uns rfl) (fun s3 => (tg_name (i := 3) rfl (Or.inl rfl))) (fun a4 s3 => run_one (run_if (ts_val (Pur.vw (pu_cb1 b1_all (Pur.vw (New.pur (nw_lc (ρe := fun (a5 : PV) => [(.fz a_table), (.fz x1), (.ow (.lst s3)), (.fz a4), (.fz a5)]) (Iter.view (it_rng1 (Pur.vw (pu_var rfl)))) rfl (by decide) (tg_name (i := 4) rfl (Or.inr (by decide))) (fun a5 => ts_yes) (fun a5 => (pu_andV (Pur.vw (pu_op o2_eq (Pur.vw (pu_op o2_ix (Pur.vw (pu_op o2_ix (Pur.vw (pu_var rfl)) (Pur.vw (pu_var rfl)))) (Pur.vw (pu_var rfl)))) (Pur.vw (pu_var rfl)))) (pu_op o2_eq (Pur.vw (pu_op o2_ix (Pur.vw (pu_op o2_ix (Pur.vw (pu_var rfl)) (Pur.vw (pu_var rfl)))) (Pur.vw (pu_var rfl)))) (Pur.vw (pu_var rfl))))))))))) (wk_uns rfl) (run_append (i := 2) rfl (Or.inl rfl) (pu_var rfl) (wk_uns rfl) fun x22 => (run_next (s := (s3 ++ [x22])) (.keep (.keep (.keep (.drop (.keep .nil))))))) (run_skip (run_next (s := s3) (.keep (.keep (.keep (.drop (.keep .nil)))))))))) fun s25 => (run_wk (.keep (.keep (.ice (.keep (.keep .nil))))) (run_ret (pu_var rfl) rfl rfl (wk_uns rfl))))))))), rfl⟩
def m__law_is_group (a_table : PV) : Res PV := retF ((((((Res.val a_table) >>= m__law_is_square) >>= asB) >>= fun b5 => Res.val (!b5)) >>= fun b6 => if b6 = true then Res.val true else (((((Res.val a_table) >>= m__law_units) >>= lenP) >>= fun x2 => (Res.val (PV.int 0)) >>= fun x3 => eqP x2 x3) >>= asB)) >>= fun b7 => if b7 = true then ((Res.val (PV.bl false)) >>= fun v8 => Res.val (.rt v8 [])) else (((Res.val a_table) >>= lenP) >>= fun x9 => ((((((((Res.val a_table) >>= asSq) >>= fun ps13 => sized ps13.length >>= fun _ => lcF (fun x => Res.val x) (fun (a10 : PV) => (Res.val true)) (fun (a10 : PV) => (((Res.val a10) >>= lenSetP) >>= fun x11 => (Res.val x9) >>= fun x12 => eqP x11 x12)) ps13) >>= fun ps14 => Res.val (PV.lst ps14)) >>= allP) >>= asB) >>= fun b15 => Res.val (!b15)) >>= fun b16 => if b16 = true then ((Res.val (PV.bl false)) >>= fun v17 => Res.val (.rt v17 [])) else (seqF (S1 := Unit) (((Res.val x9) >>= rng1) >>= fun ps51 => forF (fun (x52 : PV) (s18 : Unit) => (fun x => Res.val x) x52 >>= fun (a19 : PV) => (seqF (S1 := Unit) (((Res.val x9) >>= rng1) >>= fun ps48 => forF (fun (x49 : PV) (s20 : Unit) => (fun x => Res.val x) x49 >>= fun (a21 : PV) => ((((Res.val a_table) >>= fun x22 => (Res.val a19) >>= fun x23 => ixP x22 x23) >>= fun x24 => (Res.val a21) >>= fun x25 => ixP x24 x25) >>= fun x26 => (seqF (S1 := Unit) (((Res.val x9) >>= rng1) >>= fun ps45 => forF (fun (x46 : PV) (s27 : Unit) => (fun x => Res.val x) x46 >>= fun (a28 : PV) => ((((((Res.val a_table) >>= fun x29 => (Res.val x26) >>= fun x30 => ixP x29 x30) >>= fun x31 => (Res.val a28) >>= fun x32 => ixP x31 x32) >>= fun x41 => (((Res.val a_table) >>= fun x33 => (Res.val a19) >>= fun x34 => ixP x33 x34) >>= fun x39 => (((Res.val a_table) >>= fun x35 => (Res.val a21) >>= fun x36 => ixP x35 x36) >>= fun x37 => (Res.val a28) >>= fun x38 => ixP x37 x38) >>= fun x40 => ixP x39 x40) >>= fun x42 => neP x41 x42) >>= asB) >>= fun b43 => if b43 = true then ((Res.val (PV.bl false)) >>= fun v44 => Res.val (.rt v44 [])) else (Res.val (.nx ())))) ps45 ()) fun s47 => (Res.val (.nx ()))))) ps48 ()) fun s50 => (Res.val (.nx ())))) ps51 ()) fun s53 => ((Res.val (PV.bl true)) >>= fun v54 => Res.val (.rt v54 []))))))
theorem ok__law_is_group (T : Top P K mg) : FnOk P w K mg base (L2.CX P w) 2 T.f__law_is_group T.d__law_is_group ["table"] (spP K (clT T) (ap1 m__law_is_group)) := by
  have G__law_is_square := ok__law_is_square (P := P) (w := w) (base := base) T
  have G__law_units := ok__law_units (P := P) (w := w) (base := base) T
  refine fnP T.F__law_is_group scLis_group rfl takn1 fun cdv A outer s H E hr qs hq => ?_
  match qs, hq with
  | [a_table], _ => exact ⟨_, (pss_cons (ps_if (PW.pt (pw_or (pt_not (pt_val (pe_callS G__law_is_square (hr.mono (by decide)) (by rfl) T.m__law_is_square T.F__law_is_square.kp T.b__law_is_square (fun σ => passAt (takes_of rfl rfl rfl rfl) σ) (pa_cons (pv 0) pa_nil)))) (pw_or1 (pt_cmpR (op_eqV K rfl hr.units) (pe_callB (call_lenVK K rfl) (by rfl) T.z_len PySem.boot_len (pa_cons (pe_callS G__law_units (hr.mono (by decide)) (by rfl) T.m__law_units T.F__law_units.kp T.b__law_units (fun σ => passAt (takes_of rfl rfl rfl rfl) σ) (pa_cons (pv 0) pa_nil)) pa_nil)) pe_int (nomark _))))) (pss_one (ps_ret pe_bl)) pss_nil)
      (pss_cons (ps_set (i := 1) scLis_group.nd rfl (Or.inr rfl) (pe_callB (call_lenVK K rfl) (by rfl) T.z_len PySem.boot_len (pa_cons (pv 0) pa_nil)))
      (pss_cons (ps_if (pt_not (pt_val (pe_callB (cr_allV K rfl rfl) (by rfl) T.z_all (by decide +kernel) (pa_cons (pe_lc (own := [("line", 2)]) (g := gName 2) (tt := tYes) rfl scLis_group.nd (pi_seqV K rfl (pv 0)) (blkOk_by (own := [("line", 2)]) (N := ["table", "q", "line", "a", "b", "ab", "c"]) (sc := defScope s_Lis_group) (by decide +kernel)) (fun _ _ _ _ _ => (pg_name (i := 2) scLis_group.nd rfl (Or.inl rfl))) (fun _ _ _ _ _ => pts_nil) (fun _ _ _ _ _ => (pe_cmpR (op_eqV K rfl hr.units) (pe_lenSetT K rfl rfl (by rfl) T.z_len (by rfl) T.z_set (pv 2)) (pv 1) (nomark _)))) pa_nil)))) (pss_one (ps_ret pe_bl)) pss_nil)
      (pss_cons (ps_for (passes_of rfl) rfl (pi_range1 (by rfl) T.z_range (pa_cons (pv 1) pa_nil)) (pg_name (i := 3) scLis_group.nd rfl (Or.inl rfl)) (pss_one (ps_for (passes_of rfl) rfl (pi_range1 (by rfl) T.z_range (pa_cons (pv 1) pa_nil)) (pg_name (i := 4) scLis_group.nd rfl (Or.inl rfl)) (pss_cons (ps_set (i := 5) scLis_group.nd rfl (Or.inl rfl) (pe_ix (ix_VK K rfl) (pe_ix (ix_VK K rfl) (pv 0) (pv 3) (fun _ _ => rfl)) (pv 4) (fun _ _ => rfl)))
      (pss_one (ps_for (passes_of rfl) rfl (pi_range1 (by rfl) T.z_range (pa_cons (pv 1) pa_nil)) (pg_name (i := 6) scLis_group.nd rfl (Or.inl rfl)) (pss_one (ps_if (pt_cmpR (op_neV K rfl hr.units) (pe_ix (ix_VK K rfl) (pe_ix (ix_VK K rfl) (pv 0) (pv 5) (fun _ _ => rfl)) (pv 6) (fun _ _ => rfl)) (pe_ix (ix_VK K rfl) (pe_ix (ix_VK K rfl) (pv 0) (pv 3) (fun _ _ => rfl)) (pe_ix (ix_VK K rfl) (pe_ix (ix_VK K rfl) (pv 0) (pv 4) (fun _ _ => rfl)) (pv 6) (fun _ _ => rfl)) (fun _ _ => rfl)) (nomark _)) (pss_one (ps_ret pe_bl)) pss_nil))))))))
      (pss_one (ps_ret pe_bl)))))),
    _, run_one (run_assoc (run_if (ts_or (ts_not (ts_val (Pur.vw (pu_call1 (pu_var rfl))))) (ts_cmp (Pur.vw (pu_op o2_eq (Pur.vw (pu_cb1 b1_len (Pur.vw (pu_call1 (pu_var rfl))))) (Pur.vw pu_int))))) (wk_uns rfl) (run_ret pu_bl rfl rfl (wk_uns rfl)) (run_skip (run_assoc (run_set (i := 1) (pu_cb1 b1_len (Pur.vw (pu_var rfl))) rfl (wk_uns rfl) fun x9 => (run_assoc (run_if (ts_not (ts_val (Pur.vw (pu_cb1 b1_all (Pur.vw (New.pur (nw_lc (ρe := fun (a10 : PV) => [(.fz a_table), (.fz x9), (.fz a10), .un, .un, .un, .un]) (Iter.view (it_seq (pu_var rfl))) rfl (by decide) (tg_name (i := 2) rfl (Or.inr (by decide))) (fun a10 => ts_yes) (fun a10 => (pu_op o2_eq (Pur.vw (pu_lenSet (pu_var rfl))) (Pur.vw (pu_var rfl))))))))))) (wk_uns rfl) (run_ret pu_bl rfl rfl (wk_uns rfl)) (run_skip (run_assoc (run_seq (ρj := fun (s53 : Unit) => [(.fz a_table), (.fz x9), .un, .un, .un, .un, .un]) (run_for (ρs := fun (s18 : Unit) => [(.fz a_table), (.fz x9), .un, .un, .un, .un, .un]) (s0 := ()) (ρe := fun (s18 : Unit) (a19 : PV) => [(.fz a_table), (.fz x9), .un, (.fz a19), .un, .un, .un]) (it_rng1 (Pur.vw (pu_var rfl))) (.keep (.keep (.keep (.keep (.keep (.keep (.keep .nil))))))) (wk_uns rfl) (fun s18 => (tg_name (i := 3) rfl (Or.inl rfl))) (fun a19 s18 => run_one (run_seq (ρj := fun (s50 : Unit) => [(.fz a_table), (.fz x9), .un, (.fz a19), .un, .un, .un]) (run_for (ρs := fun (s20 : Unit) => [(.fz a_table), (.fz x9), .un, (.fz a19), .un, .un, .un]) (s0 := ()) (ρe := fun (s20 : Unit) (a21 : PV) => [(.fz a_table), (.fz x9), .un, (.fz a19), (.fz a21), .un, .un]) (it_rng1 (Pur.vw (pu_var rfl))) (.keep (.keep (.keep (.keep (.keep (.keep (.keep .nil))))))) (wk_uns rfl) (fun s20 => (tg_name (i := 4) rfl (Or.inl rfl))) (fun a21 s20 => run_one (run_assoc (run_set (i := 5) (pu_op o2_ix (Pur.vw (pu_op o2_ix (Pur.vw (pu_var rfl)) (Pur.vw (pu_var rfl)))) (Pur.vw (pu_var rfl))) rfl (wk_uns rfl) fun x26 => (run_seq (ρj := fun (s47 : Unit) => [(.fz a_table), (.fz x9), .un, (.fz a19), (.fz a21), (.fz x26), .un]) (run_for (ρs := fun (s27 : Unit) => [(.fz a_table), (.fz x9), .un, (.fz a19), (.fz a21), (.fz x26), .un]) (s0 := ()) (ρe := fun (s27 : Unit) (a28 : PV) => [(.fz a_table), (.fz x9), .un, (.fz a19), (.fz a21), (.fz x26), (.fz a28)]) (it_rng1 (Pur.vw (pu_var rfl))) (.keep (.keep (.keep (.keep (.keep (.keep (.keep .nil))))))) (wk_uns rfl) (fun s27 => (tg_name (i := 6) rfl (Or.inl rfl))) (fun a28 s27 => run_one (run_if (ts_cmp (Pur.vw (pu_op o2_ne (Pur.vw (pu_op o2_ix (Pur.vw (pu_op o2_ix (Pur.vw (pu_var rfl)) (Pur.vw (pu_var rfl)))) (Pur.vw (pu_var rfl)))) (Pur.vw (pu_op o2_ix (Pur.vw (pu_op o2_ix (Pur.vw (pu_var rfl)) (Pur.vw (pu_var rfl)))) (Pur.vw (pu_op o2_ix (Pur.vw (pu_op o2_ix (Pur.vw (pu_var rfl)) (Pur.vw (pu_var rfl)))) (Pur.vw (pu_var rfl))))))))) (wk_uns rfl) (run_ret pu_bl rfl rfl (wk_uns rfl)) (run_skip (run_next (s := ()) (.keep (.keep (.keep (.keep (.keep (.keep (.drop .nil)))))))))))) fun s47 => (run_next (s := ()) (.keep (.keep (.keep (.keep (.drop (.drop (.keep .nil))))))))))))) fun s50 => (run_next (s := ()) (.keep (.keep (.keep (.drop (.keep (.keep (.keep .nil))))))))))) fun s53 => (run_ret pu_bl rfl rfl (wk_uns rfl)))))))))))), rfl⟩
def m__law_alike : Nat → PV → PV → Res PV
  | 0, _, _ => .stuck
  | n + 1, a_told, a_due => retF ((((Res.val a_due) >>= (isiP2 "tuple" "list")) >>= asB) >>= fun b1 => if b1 = true then ((((((Res.val a_told) >>= fun x8 => (Res.val (PV.ty "tuple")) >>= fun x9 => isiP x8 x9) >>= fun x12 => ((Res.val a_due) >>= fun x10 => (Res.val (PV.ty "tuple")) >>= fun x11 => isiP x10 x11) >>= fun x13 => neP x12 x13) >>= asB) >>= fun b14 => if b14 = true then Res.val true else ((((Res.val a_told) >>= fun x2 => (Res.val (PV.ty "list")) >>= fun x3 => isiP x2 x3) >>= fun x6 => ((Res.val a_due) >>= fun x4 => (Res.val (PV.ty "list")) >>= fun x5 => isiP x4 x5) >>= fun x7 => neP x6 x7) >>= asB)) >>= fun b15 => if b15 = true then ((Res.val (PV.bl false)) >>= fun v16 => Res.val (.rt v16 [])) else (((((Res.val a_told) >>= lenP) >>= fun x17 => ((Res.val a_due) >>= lenP) >>= fun x18 => neP x17 x18) >>= asB) >>= fun b19 => if b19 = true then ((Res.val (PV.bl false)) >>= fun v20 => Res.val (.rt v20 [])) else (seqF (S1 := Unit) ((((Res.val a_due) >>= lenP) >>= rng1) >>= fun ps32 => forF (fun (x33 : PV) (s21 : Unit) => (fun x => Res.val x) x33 >>= fun (a22 : PV) => ((((((Res.val a_told) >>= fun x23 => (Res.val a22) >>= fun x24 => ixP x23 x24) >>= fun x27 => ((Res.val a_due) >>= fun x25 => (Res.val a22) >>= fun x26 => ixP x25 x26) >>= fun x28 => (m__law_alike n) x27 x28) >>= asB) >>= fun b29 => Res.val (!b29)) >>= fun b30 => if b30 = true then ((Res.val (PV.bl false)) >>= fun v31 => Res.val (.rt v31 [])) else (Res.val (.nx ())))) ps32 ()) fun s34 => ((Res.val (PV.bl true)) >>= fun v35 => Res.val (.rt v35 []))))) else ((((Res.val a_due) >>= fun x36 => (Res.val PV.non) >>= fun x37 => isP x36 x37) >>= asB) >>= fun b38 => if b38 = true then (((Res.val a_told) >>= fun x39 => (Res.val PV.non) >>= fun x40 => isP x39 x40) >>= fun v41 => Res.val (.rt v41 [])) else ((((Res.val a_due) >>= fun x42 => (Res.val (PV.ty "bool")) >>= fun x43 => isiP x42 x43) >>= asB) >>= fun b44 => if b44 = true then ((((Res.val a_told) >>= fun x47 => (Res.val (PV.ty "bool")) >>= fun x48 => isiP x47 x48) >>= asB >>= fun b49 => if b49 = true then ((Res.val a_told) >>= fun x45 => (Res.val a_due) >>= fun x46 => eqP x45 x46) else Res.val (PV.bl false)) >>= fun v50 => Res.val (.rt v50 [])) else ((((Res.val a_due) >>= fun x51 => (Res.val (PV.ty "str")) >>= fun x52 => isiP x51 x52) >>= asB) >>= fun b53 => if b53 = true then ((((Res.val a_told) >>= fun x56 => (Res.val (PV.ty "str")) >>= fun x57 => isiP x56 x57) >>= asB >>= fun b58 => if b58 = true then ((Res.val a_told) >>= fun x54 => (Res.val a_due) >>= fun x55 => eqP x54 x55) else Res.val (PV.bl false)) >>= fun v59 => Res.val (.rt v59 [])) else ((((Res.val a_told) >>= fun x66 => (Res.val (PV.ty "int")) >>= fun x67 => isiP x66 x67) >>= asB >>= fun b68 => if b68 = true then ((((Res.val a_told) >>= fun x62 => (Res.val (PV.ty "bool")) >>= fun x63 => isiP x62 x63) >>= asB >>= fun b64 => Res.val (PV.bl (!b64))) >>= asB >>= fun b65 => if b65 = true then ((Res.val a_told) >>= fun x60 => (Res.val a_due) >>= fun x61 => eqP x60 x61) else Res.val (PV.bl false)) else Res.val (PV.bl false)) >>= fun v69 => Res.val (.rt v69 []))))))
theorem ok__law_alike (T : Top P K mg) : ∀ n : Nat, FnOk P w K mg base (L2.CX P w) (1 + n) T.f__law_alike T.d__law_alike ["told", "due"] (spP K (clT T) (ap2 (m__law_alike n)))
  | 0 => fn_stuck stuck2
  | n + 1 => by
    have G__law_alike := ok__law_alike T n
  
    refine fnP (k := 1 + n) T.F__law_alike scLalike rfl takn2 fun cdv A outer s H E hr qs hq => ?_
    match qs, hq with
    | [a_told, a_due], _ => exact ⟨_, (pss_cons (ps_if (pt_val (pe_callB (call_isiTV K rfl) (by rfl) T.z_isinstance (by decide +kernel) (pa_cons (pv 1) (pa_cons (pe_tup (pa_cons (pe_bltn (v := .ty "tuple") (by rfl) T.z_tuple (by decide +kernel) rfl) (pa_cons (pe_bltn (v := .ty "list") (by rfl) T.z_list (by decide +kernel) rfl) pa_nil))) pa_nil)))) (pss_cons (ps_if (PW.pt (pw_or (pt_cmpR (op_neV K rfl hr.units) (pe_callB (call_isiV K rfl) (by rfl) T.z_isinstance (by decide +kernel) (pa_cons (pv 0) (pa_cons (pe_bltn (v := .ty "tuple") (by rfl) T.z_tuple (by decide +kernel) rfl) pa_nil))) (pe_callB (call_isiV K rfl) (by rfl) T.z_isinstance (by decide +kernel) (pa_cons (pv 1) (pa_cons (pe_bltn (v := .ty "tuple") (by rfl) T.z_tuple (by decide +kernel) rfl) pa_nil))) (nomark _)) (pw_or1 (pt_cmpR (op_neV K rfl hr.units) (pe_callB (call_isiV K rfl) (by rfl) T.z_isinstance (by decide +kernel) (pa_cons (pv 0) (pa_cons (pe_bltn (v := .ty "list") (by rfl) T.z_list (by decide +kernel) rfl) pa_nil))) (pe_callB (call_isiV K rfl) (by rfl) T.z_isinstance (by decide +kernel) (pa_cons (pv 1) (pa_cons (pe_bltn (v := .ty "list") (by rfl) T.z_list (by decide +kernel) rfl) pa_nil))) (nomark _))))) (pss_one (ps_ret pe_bl)) pss_nil)
        (pss_cons (ps_if (pt_cmpR (op_neV K rfl hr.units) (pe_callB (call_lenVK K rfl) (by rfl) T.z_len PySem.boot_len (pa_cons (pv 0) pa_nil)) (pe_callB (call_lenVK K rfl) (by rfl) T.z_len PySem.boot_len (pa_cons (pv 1) pa_nil)) (nomark _)) (pss_one (ps_ret pe_bl)) pss_nil)
        (pss_cons (ps_for (passes_of rfl) rfl (pi_range1 (by rfl) T.z_range (pa_cons (pe_callB (call_lenVK K rfl) (by rfl) T.z_len PySem.boot_len (pa_cons (pv 1) pa_nil)) pa_nil)) (pg_name (i := 2) scLalike.nd rfl (Or.inl rfl)) (pss_one (ps_if (pt_not (pt_val (pe_callS G__law_alike hr (by rfl) T.m__law_alike T.F__law_alike.kp T.b__law_alike (fun σ => passAt (takes_of rfl rfl rfl rfl) σ) (pa_cons (pe_ix (ix_VK K rfl) (pv 0) (pv 2) (fun _ _ => rfl)) (pa_cons (pe_ix (ix_VK K rfl) (pv 1) (pv 2) (fun _ _ => rfl)) pa_nil))))) (pss_one (ps_ret pe_bl)) pss_nil)))
        (pss_one (ps_ret pe_bl))))) pss_nil)
        (pss_cons (ps_if (pt_cmpR op_isN (pv 1) pe_non (nomark _)) (pss_one (ps_ret (pe_cmpR op_isN (pv 0) pe_non (nomark _)))) pss_nil)
        (pss_cons (ps_if (pt_val (pe_callB (call_isiV K rfl) (by rfl) T.z_isinstance (by decide +kernel) (pa_cons (pv 1) (pa_cons (pe_bltn (v := .ty "bool") (by rfl) T.z_bool (by decide +kernel) rfl) pa_nil)))) (pss_one (ps_ret (pe_and (pe_callB (call_isiV K rfl) (by rfl) T.z_isinstance (by decide +kernel) (pa_cons (pv 0) (pa_cons (pe_bltn (v := .ty "bool") (by rfl) T.z_bool (by decide +kernel) rfl) pa_nil))) (pe_one (pe_cmpR (op_eqV K rfl hr.units) (pv 0) (pv 1) (nomark _)))))) pss_nil)
        (pss_cons (ps_if (pt_val (pe_callB (call_isiV K rfl) (by rfl) T.z_isinstance (by decide +kernel) (pa_cons (pv 1) (pa_cons (pe_bltn (v := .ty "str") (by rfl) T.z_str (by decide +kernel) rfl) pa_nil)))) (pss_one (ps_ret (pe_and (pe_callB (call_isiV K rfl) (by rfl) T.z_isinstance (by decide +kernel) (pa_cons (pv 0) (pa_cons (pe_bltn (v := .ty "str") (by rfl) T.z_str (by decide +kernel) rfl) pa_nil))) (pe_one (pe_cmpR (op_eqV K rfl hr.units) (pv 0) (pv 1) (nomark _)))))) pss_nil)
        (pss_one (ps_ret (pe_and (pe_callB (call_isiV K rfl) (by rfl) T.z_isinstance (by decide +kernel) (pa_cons (pv 0) (pa_cons (pe_bltn (v := .ty "int") (by rfl) T.z_int (by decide +kernel) rfl) pa_nil))) (pe_and (pe_not (pe_callB (call_isiV K rfl) (by rfl) T.z_isinstance (by decide +kernel) (pa_cons (pv 0) (pa_cons (pe_bltn (v := .ty "bool") (by rfl) T.z_bool (by decide +kernel) rfl) pa_nil)))) (pe_one (pe_cmpR (op_eqV K rfl hr.units) (pv 0) (pv 1) (nomark _))))))))))),
      _, run_one (run_assoc (run_if (ts_val (Pur.vw (pu_isi2 (Pur.vw (pu_var rfl))))) (wk_uns rfl) (run_assoc (run_if (ts_or (ts_cmp (Pur.vw (pu_op o2_ne (Pur.vw (pu_cb2 b2_isi (Pur.vw (pu_var rfl)) (Pur.vw pu_ty))) (Pur.vw (pu_cb2 b2_isi (Pur.vw (pu_var rfl)) (Pur.vw pu_ty)))))) (ts_cmp (Pur.vw (pu_op o2_ne (Pur.vw (pu_cb2 b2_isi (Pur.vw (pu_var rfl)) (Pur.vw pu_ty))) (Pur.vw (pu_cb2 b2_isi (Pur.vw (pu_var rfl)) (Pur.vw pu_ty))))))) (wk_uns rfl) (run_ret pu_bl rfl rfl (wk_uns rfl)) (run_skip (run_assoc (run_if (ts_cmp (Pur.vw (pu_op o2_ne (Pur.vw (pu_cb1 b1_len (Pur.vw (pu_var rfl)))) (Pur.vw (pu_cb1 b1_len (Pur.vw (pu_var rfl))))))) (wk_uns rfl) (run_ret pu_bl rfl rfl (wk_uns rfl)) (run_skip (run_assoc (run_seq (ρj := fun (s34 : Unit) => [(.fz a_told), (.fz a_due), .un]) (run_for (ρs := fun (s21 : Unit) => [(.fz a_told), (.fz a_due), .un]) (s0 := ()) (ρe := fun (s21 : Unit) (a22 : PV) => [(.fz a_told), (.fz a_due), (.fz a22)]) (it_rng1 (Pur.vw (pu_cb1 b1_len (Pur.vw (pu_var rfl))))) (.keep (.keep (.keep .nil))) (wk_uns rfl) (fun s21 => (tg_name (i := 2) rfl (Or.inl rfl))) (fun a22 s21 => run_one (run_if (ts_not (ts_val (Pur.vw (pu_call2 (pu_op o2_ix (Pur.vw (pu_var rfl)) (Pur.vw (pu_var rfl))) (pu_op o2_ix (Pur.vw (pu_var rfl)) (Pur.vw (pu_var rfl))))))) (wk_uns rfl) (run_ret pu_bl rfl rfl (wk_uns rfl)) (run_skip (run_next (s := ()) (.keep (.keep (.drop .nil)))))))) fun s34 => (run_ret pu_bl rfl rfl (wk_uns rfl)))))))))) (run_skip (run_assoc (run_if (ts_cmp (Pur.vw (pu_op o2_is (Pur.vw (pu_var rfl)) (Pur.vw pu_non)))) (wk_uns rfl) (run_ret (pu_op o2_is (Pur.vw (pu_var rfl)) (Pur.vw pu_non)) rfl rfl (wk_uns rfl)) (run_skip (run_assoc (run_if (ts_val (Pur.vw (pu_cb2 b2_isi (Pur.vw (pu_var rfl)) (Pur.vw pu_ty)))) (wk_uns rfl) (run_ret (pu_andV (Pur.vw (pu_cb2 b2_isi (Pur.vw (pu_var rfl)) (Pur.vw pu_ty))) (pu_op o2_eq (Pur.vw (pu_var rfl)) (Pur.vw (pu_var rfl)))) rfl rfl (wk_uns rfl)) (run_skip (run_assoc (run_if (ts_val (Pur.vw (pu_cb2 b2_isi (Pur.vw (pu_var rfl)) (Pur.vw pu_ty)))) (wk_uns rfl) (run_ret (pu_andV (Pur.vw (pu_cb2 b2_isi (Pur.vw (pu_var rfl)) (Pur.vw pu_ty))) (pu_op o2_eq (Pur.vw (pu_var rfl)) (Pur.vw (pu_var rfl)))) rfl rfl (wk_uns rfl)) (run_skip (run_ret (pu_andV (Pur.vw (pu_cb2 b2_isi (Pur.vw (pu_var rfl)) (Pur.vw pu_ty))) (pu_andV (Pur.vw (pu_notV (Pur.vw (pu_cb2 b2_isi (Pur.vw (pu_var rfl)) (Pur.vw pu_ty))))) (pu_op o2_eq (Pur.vw (pu_var rfl)) (Pur.vw (pu_var rfl))))) rfl rfl (wk_uns rfl)))))))))))))), rfl⟩
def m_TableGroup_multiply (a_self a_first a_second : PV) : Res PV := retF (((((Res.val a_self) >>= (fldP cs_table "table")) >>= fun x1 => (Res.val a_first) >>= fun x2 => ixP x1 x2) >>= fun x3 => (Res.val a_second) >>= fun x4 => ixP x3 x4) >>= fun v5 => Res.val (.rt v5 []))
theorem ok_TableGroup_multiply (T : Top P K mg) : FnOk P w K mg base (L2.CX P w) 1 T.f_TableGroup_multiply T.d_TableGroup_multiply ["self", "first", "second"] (spP K (clT T) (ap3 m_TableGroup_multiply)) := by
  refine fnP T.F_TableGroup_multiply scTableGroup_multiply rfl takn3 fun cdv A outer s H E hr qs hq => ?_
  match qs, hq with
  | [a_self, a_first, a_second], _ => exact ⟨_, (pss_one (ps_ret (pe_ix (ix_VK K rfl) (pe_ix (ix_VK K rfl) (pe_fldV K rfl (pv 0) rfl) (pv 1) (fun _ _ => rfl)) (pv 2) (fun _ _ => rfl)))),
    _, run_one (run_ret (pu_op o2_ix (Pur.vw (pu_op o2_ix (Pur.vw (pu_fld T.fl_table (Pur.vw (pu_var rfl)))) (Pur.vw (pu_var rfl)))) (Pur.vw (pu_var rfl))) rfl rfl (wk_uns rfl)), rfl⟩
def m_Group__powers_of (a_self a_element : PV) : Res PV := retF (((((Res.val a_self) >>= (fldP cs_unit "unit")) >>= fun x1 => (Res.val []) >>= fun xs2 => Res.val (x1 :: xs2)) >>= mkN) >>= fun l3 => (seqF (S1 := List PV) (((((Res.val a_self) >>= (fldP cs_order "order")) >>= fun x4 => (Res.val (PV.int 1)) >>= fun x5 => subP x4 x5) >>= rng1) >>= fun ps18 => forF (fun (x19 : PV) (s6 : List PV) => (fun x => Res.val x) x19 >>= fun (a7 : PV) => (((Res.val a_self) >>= fun x14 => sel [("TableGroup", ap3 m_TableGroup_multiply)] "multiply" x14 >>= fun g15 => (((Res.val (PV.lst s6)) >>= fun x10 => ((Res.val (PV.int 1)) >>= negP) >>= fun x11 => ixP x10 x11) >>= fun x12 => ((Res.val a_element) >>= fun x8 => (Res.val []) >>= fun xs9 => Res.val (x8 :: xs9)) >>= fun xs13 => Res.val (x12 :: xs13)) >>= fun ps16 => g15 (x14 :: ps16)) >>= fun x17 => sized (s6.length + 1) >>= fun _ => (Res.val (.nx (s6 ++ [x17]))))) ps18 l3) fun s20 => (((Res.val (PV.lst s20)) >>= tupleP) >>= fun v21 => Res.val (.rt v21 []))))
theorem ok_Group__powers_of (T : Top P K mg) : FnOk P w K mg base (L2.CX P w) 2 T.f_Group__powers_of T.d_Group__powers_of ["self", "element"] (spP K (clT T) (ap2 m_Group__powers_of)) := by
  have G_TableGroup_multiply := ok_TableGroup_multiply (P := P) (w := w) (base := base) T
  refine fnP T.F_Group__powers_of scGroup__powers_of rfl takn2 fun cdv A outer s H E hr qs hq => ?_
  match qs, hq with
  | [a_self, a_element], _ => exact ⟨_, (pss_cons (ps_set (i := 2) scGroup__powers_of.nd rfl (Or.inl rfl) (pe_lst (pa_cons (pe_fldV K rfl (pv 0) rfl) pa_nil)))
      (pss_cons (ps_for (passes_of rfl) rfl (pi_range1 (by rfl) T.z_range (pa_cons (pe_op op_sub (pe_fldV K rfl (pv 0) rfl) pe_int) pa_nil)) (pg_name (i := 3) scGroup__powers_of.nd rfl (Or.inl rfl)) (pss_one (ps_expr (pe_bm PySem.F.plainAttrs_list PySem.F.slot_list_append PySem.F.type_list_append mt_append (pv 2) (pa_cons (pe_methT (pv 0) T.cls_TableGroup T.me_TableGroup_multiply G_TableGroup_multiply (hr.mono (by decide)) T.b_TableGroup_multiply (fun σ => passAt (takes_of rfl rfl rfl rfl) σ) (pa_cons (pe_ix (ix_VK K rfl) (pv 2) (pe_un un_neg pe_int) (fun _ _ => rfl)) (pa_cons (pv 1) pa_nil))) pa_nil)))))
      (pss_one (ps_ret (pe_callTy (call_tupleV K rfl) (by rfl) T.z_tuple (by decide +kernel) (pa_cons (pv 2) pa_nil)))))),
    _, run_one (run_assoc (run_setow (i := 2) (nw_lst (pl_cons (pu_fld T.fl_unit (Pur.vw (pu_var rfl))) pl_nil)) rfl (wk_uns rfl) fun l3 => (run_assoc (run_seq (ρj := fun (s20 : List PV) => [(.fz a_self), (.fz a_element), (.ow (.lst s20)), .un]) (run_for (ρs := fun (s6 : List PV) => [(.fz a_self), (.fz a_element), (.ow (.lst s6)), .un]) (s0 := l3) (ρe := fun (s6 : List PV) (a7 : PV) => [(.fz a_self), (.fz a_element), (.ow (.lst s6)), (.fz a7)]) (it_rng1 (Pur.vw (pu_op o2_sub (Pur.vw (pu_fld T.fl_order (Pur.vw (pu_var rfl)))) (Pur.vw pu_int)))) (.keep (.keep (.keep (.keep .nil)))) (wk_uns rfl) (fun s6 => (tg_name (i := 3) rfl (Or.inl rfl))) (fun a7 s6 => run_one (run_append (i := 2) rfl (Or.inl rfl) (pu_meth T.ce_TableGroup (pu_var rfl) (pl_cons (pu_op o2_ix (vw_own rfl) (Pur.vw (pu_un o1_neg (Pur.vw pu_int)))) (pl_cons (pu_var rfl) pl_nil))) (wk_uns rfl) fun x17 => (run_next (s := (s6 ++ [x17])) (.keep (.keep (.keep (.drop .nil)))))))) fun s20 => (run_ret (pu_cb1 b1_tuple (vw_own rfl)) rfl rfl (wk_uns rfl)))))), rfl⟩
def m_Group___init__ (mo : MO) (a_order : PV) (a_unit : PV) (a_members : PV) : Res (PV × MO) := match mo with
  | .ob a_C a_self => retR ((Res.val a_order) >>= fun x1 => setF cs_order a_C a_self "order" x1 >>= fun gs2 => ((Res.val a_unit) >>= fun x3 => setF cs_unit a_C gs2 "unit" x3 >>= fun gs4 => ((Res.val a_members) >>= fun x5 => setF cs_members a_C gs4 "members" x5 >>= fun gs6 => ((((((Res.val a_members) >>= fun x7 => (Res.val (PV.int 0)) >>= fun x8 => ixP x7 x8) >>= fun x9 => (Res.val a_unit) >>= fun x10 => eqP x9 x10) >>= asB) >>= fun b15 => if b15 = true then ((Res.val a_members) >>= fun x11 => (Res.val (PV.int 1)) >>= fun x12 => ixP x11 x12) else ((Res.val a_members) >>= fun x13 => (Res.val (PV.int 0)) >>= fun x14 => ixP x13 x14)) >>= fun x16 => setF cs_generator a_C gs6 "generator" x16 >>= fun gs17 => (((Res.val (.ins a_C gs17)) >>= fun x20 => sel [("TableGroup", ap2 m_Group__powers_of)] "_powers_of" x20 >>= fun g21 => ((fldP cs_generator "generator" (.ins a_C gs17)) >>= fun x18 => (Res.val []) >>= fun xs19 => Res.val (x18 :: xs19)) >>= fun ps22 => g21 (x20 :: ps22) >>= flR) >>= fun x23 => setF cs__powers a_C gs17 "_powers" x23 >>= fun gs24 => (((((fldP cs__powers "_powers" (.ins a_C gs24)) >>= asTu >>= fun ps25 => Res.val (enumP ps25)) >>= fun ps27 => sized ps27.length >>= fun _ => dcF un2 (fun (a26 : PV × PV) => (Res.val true)) (fun (a26 : PV × PV) => (Res.val a26.2)) (fun (a26 : PV × PV) => (Res.val a26.1)) ps27 []) >>= fun ps28 => Res.val (PV.dct ps28)) >>= fun x29 => setF cs__exponents a_C gs24 "_exponents" x29 >>= fun gs30 => (Res.val (.nx (MO.ob a_C gs30)))))))))
  | _ => .stuck
theorem ok_Group___init__ (T : Top P K mg) : FnOk P w K mg base (L2.CX P w) 3 T.f_Group___init__ T.d_Group___init__ ["self", "order", "unit", "members"] (spI K (clT T) (apR3 m_Group___init__)) := by
  have G_Group__powers_of := ok_Group__powers_of (P := P) (w := w) (base := base) T
  refine fnI T.F_Group___init__ scGroup___init__ rfl taknR3 fun cdv A outer s H E hr mo qs hq => ?_
  match mo, qs, hq with
  | .lst _, [_, _, _], _ => exact .inl rfl
  | .dct _, [_, _, _], _ => exact .inl rfl
  | .ob a_C a_self, [a_order, a_unit, a_members], _ => exact .inr ⟨_, (pss_cons (ps_fld (pv 0) (pv 1) rfl)
      (pss_cons (ps_fld (pv 0) (pv 2) rfl)
      (pss_cons (ps_fld (pv 0) (pv 3) rfl)
      (pss_cons (ps_fld (pv 0) (pe_ifExp (pt_cmpR (op_eqV K rfl hr.units) (pe_ix (ix_VK K rfl) (pv 3) pe_int (fun _ _ => rfl)) (pv 2) (nomark _)) (pe_ix (ix_VK K rfl) (pv 3) pe_int (fun _ _ => rfl)) (pe_ix (ix_VK K rfl) (pv 3) pe_int (fun _ _ => rfl))) rfl)
      (pss_cons (ps_fld (pv 0) (pe_methT (pv 0) T.cls_TableGroup T.me_TableGroup__powers_of G_Group__powers_of (hr.mono (by decide)) T.b_Group__powers_of (fun σ => passAt (takes_of rfl rfl rfl rfl) σ) (pa_cons (pe_fldV K rfl (pv 0) rfl) pa_nil)) rfl)
      (pss_one (ps_fld (pv 0) (pe_dc (own := [("exponent", 4), ("member", 5)]) (g := gTup K 2 (gCons (gName 4) (gCons (gName 5) gNil))) (tt := tYes) rfl scGroup___init__.nd (pi_enTV K rfl (by rfl) T.z_enumerate (pa_cons (pe_fldV K rfl (pv 0) rfl) pa_nil)) (blkOk_by (own := [("exponent", 4), ("member", 5)]) (N := ["self", "order", "unit", "members", "exponent", "member"]) (sc := defScope s_Group___init__) (by decide +kernel)) (fun _ _ _ _ _ => (pg_tup (by rfl) (pgs_cons (pg_name (i := 4) scGroup___init__.nd rfl (Or.inl rfl)) (pgs_cons (pg_name (i := 5) scGroup___init__.nd rfl (Or.inl rfl)) pgs_nil)))) (fun _ _ _ _ _ => pts_nil) (fun _ _ _ _ _ => (pv 5)) (fun _ _ _ _ _ => (pv 4))) rfl))))))),
    _, run_one (run_assoc (run_setfld (i := 0) T.fl_order rfl (.inr ⟨_, rfl⟩) (pu_var rfl) (wk_uns rfl) fun gs2 => (run_assoc (run_setfld (i := 0) T.fl_unit rfl (.inr ⟨_, rfl⟩) (pu_var rfl) (wk_uns rfl) fun gs4 => (run_assoc (run_setfld (i := 0) T.fl_members rfl (.inr ⟨_, rfl⟩) (pu_var rfl) (wk_uns rfl) fun gs6 => (run_assoc (run_setfld (i := 0) T.fl_generator rfl (.inr ⟨_, rfl⟩) (pu_if (ts_cmp (Pur.vw (pu_op o2_eq (Pur.vw (pu_op o2_ix (Pur.vw (pu_var rfl)) (Pur.vw pu_int))) (Pur.vw (pu_var rfl))))) (pu_op o2_ix (Pur.vw (pu_var rfl)) (Pur.vw pu_int)) (pu_op o2_ix (Pur.vw (pu_var rfl)) (Pur.vw pu_int))) (wk_uns rfl) fun gs17 => (run_assoc (run_setfld (i := 0) T.fl__powers rfl (.inr ⟨_, rfl⟩) (pu_methO (i := 0) T.ce_TableGroup rfl (.inr ⟨_, rfl⟩) (pl_cons (pu_fldO (i := 0) T.fl_generator rfl (.inr ⟨_, rfl⟩)) pl_nil)) (wk_uns rfl) fun gs24 => (run_setfld (i := 0) T.fl__exponents rfl (.inr ⟨_, rfl⟩) (NewD.pur (nd_dc (ρe := fun (a26 : PV × PV) => [(.rf 0 (.ob a_C gs24)), (.fz a_order), (.fz a_unit), (.fz a_members), (.fz a26.1), (.fz a26.2)]) (Iter.view (it_enT (pu_fldO (i := 0) T.fl__powers rfl (.inr ⟨_, rfl⟩)))) rfl (by decide) (tg_2 (i := 4) (j := 5) rfl rfl (Or.inr (by decide))) (fun a26 => ts_yes) (fun a26 => (pu_var rfl)) (fun a26 => (pu_var rfl)))) (wk_uns rfl) fun gs30 => (run_next (s := MO.ob a_C gs30) (.keep (.drop (.drop (.drop (.keep (.keep .nil)))))))))))))))))), rfl⟩
def m__is_associative (a_table : PV) : Res PV := retF (((((Res.val a_table) >>= lenP) >>= partP >>= fun i1 => Res.val ((0 : Int), i1)) >>= fun x3 => rgL x3.1 x3.2 >>= fun l4 => Res.val (PV.lst l4)) >>= fun x5 => (seqF (S1 := Unit) (((Res.val x5) >>= asSq) >>= fun ps37 => forF (fun (x38 : PV) (s6 : Unit) => (fun x => Res.val x) x38 >>= fun (a7 : PV) => (seqF (S1 := Unit) (((Res.val x5) >>= asSq) >>= fun ps34 => forF (fun (x35 : PV) (s8 : Unit) => (fun x => Res.val x) x35 >>= fun (a9 : PV) => ((((((((Res.val x5) >>= asSq) >>= fun ps29 => sized ps29.length >>= fun _ => lcF (fun x => Res.val x) (fun (a10 : PV) => (Res.val true)) (fun (a10 : PV) => ((((Res.val a_table) >>= fun x15 => (((Res.val a_table) >>= fun x11 => (Res.val a7) >>= fun x12 => ixP x11 x12) >>= fun x13 => (Res.val a9) >>= fun x14 => ixP x13 x14) >>= fun x16 => ixP x15 x16) >>= fun x17 => (Res.val a10) >>= fun x18 => ixP x17 x18) >>= fun x27 => (((Res.val a_table) >>= fun x19 => (Res.val a7) >>= fun x20 => ixP x19 x20) >>= fun x25 => (((Res.val a_table) >>= fun x21 => (Res.val a9) >>= fun x22 => ixP x21 x22) >>= fun x23 => (Res.val a10) >>= fun x24 => ixP x23 x24) >>= fun x26 => ixP x25 x26) >>= fun x28 => eqP x27 x28)) ps29) >>= fun ps30 => Res.val (PV.lst ps30)) >>= allP) >>= asB) >>= fun b31 => Res.val (!b31)) >>= fun b32 => if b32 = true then ((Res.val (PV.bl false)) >>= fun v33 => Res.val (.rt v33 [])) else (Res.val (.nx ())))) ps34 ()) fun s36 => (Res.val (.nx ())))) ps37 ()) fun s39 => ((Res.val (PV.bl true)) >>= fun v40 => Res.val (.rt v40 []))))
theorem ok__is_associative (T : Top P K mg) : FnOk P w K mg base (L2.CX P w) 1 T.f__is_associative T.d__is_associative ["table"] (spP K (clT T) (ap1 m__is_associative)) := by
  refine fnP T.F__is_associative sc_is_associative rfl takn1 fun cdv A outer s H E hr qs hq => ?_
  match qs, hq with
  | [a_table], _ => exact ⟨_, (pss_cons (ps_set (i := 1) sc_is_associative.nd rfl (Or.inl rfl) (pe_listRg rfl (by rfl) T.z_list (prg_1 (by rfl) T.z_range (pe_callB (call_lenVK K rfl) (by rfl) T.z_len PySem.boot_len (pa_cons (pv 0) pa_nil)))))
      (pss_cons (ps_for (passes_of rfl) rfl (pi_seqV K rfl (pv 1)) (pg_name (i := 2) sc_is_associative.nd rfl (Or.inr rfl)) (pss_one (ps_for (passes_of rfl) rfl (pi_seqV K rfl (pv 1)) (pg_name (i := 3) sc_is_associative.nd rfl (Or.inr rfl)) (pss_one (ps_if (pt_not (pt_val (pe_callB (cr_allV K rfl rfl) (by rfl) T.z_all (by decide +kernel) (pa_cons (pe_lc (own := [("c", 4)]) (g := gName 4) (tt := tYes) rfl sc_is_associative.nd (pi_seqV K rfl (pv 1)) (blkOk_by (own := [("c", 4)]) (N := ["table", "everyone", "a", "b", "c"]) (sc := defScope s__is_associative) (by decide +kernel)) (fun _ _ _ _ _ => (pg_name (i := 4) sc_is_associative.nd rfl (Or.inl rfl))) (fun _ _ _ _ _ => pts_nil) (fun _ _ _ _ _ => (pe_cmpR (op_eqV K rfl hr.units) (pe_ix (ix_VK K rfl) (pe_ix (ix_VK K rfl) (pv 0) (pe_ix (ix_VK K rfl) (pe_ix (ix_VK K rfl) (pv 0) (pv 2) (fun _ _ => rfl)) (pv 3) (fun _ _ => rfl)) (fun _ _ => rfl)) (pv 4) (fun _ _ => rfl)) (pe_ix (ix_VK K rfl) (pe_ix (ix_VK K rfl) (pv 0) (pv 2) (fun _ _ => rfl)) (pe_ix (ix_VK K rfl) (pe_ix (ix_VK K rfl) (pv 0) (pv 3) (fun _ _ => rfl)) (pv 4) (fun _ _ => rfl)) (fun _ _ => rfl)) (nomark _)))) pa_nil)))) (pss_one (ps_ret pe_bl)) pss_nil)))))
      (pss_one (ps_ret pe_bl)))),
    _, run_one (run_assoc (run_set (i := 1) (New.pur' (nw_listRg (rg_1 (Pur.vw (pu_cb1 b1_len (Pur.vw (pu_var rfl))))))) rfl (wk_uns rfl) fun x5 => (run_assoc (run_seq (ρj := fun (s39 : Unit) => [(.fz a_table), (.fz x5), .un, .un, .un]) (run_for (ρs := fun (s6 : Unit) => [(.fz a_table), (.fz x5), .un, .un, .un]) (s0 := ()) (ρe := fun (s6 : Unit) (a7 : PV) => [(.fz a_table), (.fz x5), (.fz a7), .un, .un]) (it_seq (pu_var rfl)) (.keep (.keep (.keep (.keep (.keep .nil))))) (wk_uns rfl) (fun s6 => (tg_name (i := 2) rfl (Or.inl rfl))) (fun a7 s6 => run_one (run_seq (ρj := fun (s36 : Unit) => [(.fz a_table), (.fz x5), (.fz a7), .un, .un]) (run_for (ρs := fun (s8 : Unit) => [(.fz a_table), (.fz x5), (.fz a7), .un, .un]) (s0 := ()) (ρe := fun (s8 : Unit) (a9 : PV) => [(.fz a_table), (.fz x5), (.fz a7), (.fz a9), .un]) (it_seq (pu_var rfl)) (.keep (.keep (.keep (.keep (.keep .nil))))) (wk_uns rfl) (fun s8 => (tg_name (i := 3) rfl (Or.inl rfl))) (fun a9 s8 => run_one (run_if (ts_not (ts_val (Pur.vw (pu_cb1 b1_all (Pur.vw (New.pur (nw_lc (ρe := fun (a10 : PV) => [(.fz a_table), (.fz x5), (.fz a7), (.fz a9), (.fz a10)]) (Iter.view (it_seq (pu_var rfl))) rfl (by decide) (tg_name (i := 4) rfl (Or.inr (by decide))) (fun a10 => ts_yes) (fun a10 => (pu_op o2_eq (Pur.vw (pu_op o2_ix (Pur.vw (pu_op o2_ix (Pur.vw (pu_var rfl)) (Pur.vw (pu_op o2_ix (Pur.vw (pu_op o2_ix (Pur.vw (pu_var rfl)) (Pur.vw (pu_var rfl)))) (Pur.vw (pu_var rfl)))))) (Pur.vw (pu_var rfl)))) (Pur.vw (pu_op o2_ix (Pur.vw (pu_op o2_ix (Pur.vw (pu_var rfl)) (Pur.vw (pu_var rfl)))) (Pur.vw (pu_op o2_ix (Pur.vw (pu_op o2_ix (Pur.vw (pu_var rfl)) (Pur.vw (pu_var rfl)))) (Pur.vw (pu_var rfl))))))))))))))) (wk_uns rfl) (run_ret pu_bl rfl rfl (wk_uns rfl)) (run_skip (run_next (s := ()) (.keep (.keep (.keep (.drop (.keep .nil)))))))))) fun s36 => (run_next (s := ()) (.keep (.keep (.drop (.keep (.keep .nil))))))))) fun s39 => (run_ret pu_bl rfl rfl (wk_uns rfl)))))), rfl⟩
def m_is_prime (a_n : PV) : Res PV := retF ((((Res.val a_n) >>= fun x1 => (Res.val (PV.int 2)) >>= fun x2 => ltP x1 x2) >>= asB) >>= fun b3 => if b3 = true then ((Res.val (PV.bl false)) >>= fun v4 => Res.val (.rt v4 [])) else ((Res.val (PV.int 2)) >>= fun x5 => (seqF (S1 := PV) (whileF (fun (s6 : PV) => ((((Res.val s6) >>= fun x7 => (Res.val s6) >>= fun x8 => mulP x7 x8) >>= fun x9 => (Res.val a_n) >>= fun x10 => leP x9 x10) >>= asB)) (fun (s6 : PV) => (((((Res.val a_n) >>= fun x11 => (Res.val s6) >>= fun x12 => modP x11 x12) >>= fun x13 => (Res.val (PV.int 0)) >>= fun x14 => eqP x13 x14) >>= asB) >>= fun b15 => if b15 = true then ((Res.val (PV.bl false)) >>= fun v16 => Res.val (.rt v16 [])) else ((Res.val (PV.int 1)) >>= fun y17 => ints2 (fun i j => Res.val (PV.int (i + j))) s6 y17 >>= fun x18 => (Res.val (.nx x18))))) FUEL x5) fun s19 => ((Res.val (PV.bl true)) >>= fun v20 => Res.val (.rt v20 [])))))
theorem ok_is_prime (T : Top P K mg) : FnOk P w K mg base (L2.CX P w) 1 T.f_is_prime T.d_is_prime ["n"] (spP K (clT T) (ap1 m_is_prime)) := by
  refine fnP T.F_is_prime scis_prime rfl takn1 fun cdv A outer s H E hr qs hq => ?_
  match qs, hq with
  | [a_n], _ => exact ⟨_, (pss_cons (ps_if (pt_cmpR op_lt (pv 0) pe_int (nomark _)) (pss_one (ps_ret pe_bl)) pss_nil)
      (pss_cons (ps_set (i := 1) scis_prime.nd rfl (Or.inl rfl) pe_int)
      (pss_cons (ps_while (passes_of rfl) (pt_cmpR op_le (pe_op op_mulV (pv 1) (pv 1)) (pv 0) (nomark _)) (pss_cons (ps_if (pt_cmpR (op_eqV K rfl hr.units) (pe_op op_modN (pv 0) (pv 1)) pe_int (nomark _)) (pss_one (ps_ret pe_bl)) pss_nil)
      (pss_one (ps_aug (i := 1) scis_prime.nd rfl (Or.inl rfl) pe_int ip_add))))
      (pss_one (ps_ret pe_bl))))),
    _, run_one (run_assoc (run_if (ts_cmp (Pur.vw (pu_op o2_lt (Pur.vw (pu_var rfl)) (Pur.vw pu_int)))) (wk_uns rfl) (run_ret pu_bl rfl rfl (wk_uns rfl)) (run_skip (run_assoc (run_set (i := 1) pu_int rfl (wk_uns rfl) fun x5 => (run_assoc (run_seq (ρj := fun (s19 : PV) => [(.fz a_n), (.fz s19)]) (run_while (ρs := fun (s6 : PV) => [(.fz a_n), (.fz s6)]) (s0 := x5) (.keep (.keep .nil)) (fun s6 => (wk_uns rfl)) (fun s6 => (ts_cmp (Pur.vw (pu_op o2_le (Pur.vw (pu_op o2_mul (Pur.vw (pu_var rfl)) (Pur.vw (pu_var rfl)))) (Pur.vw (pu_var rfl)))))) (fun s6 => run_one (run_assoc (run_if (ts_cmp (Pur.vw (pu_op o2_eq (Pur.vw (pu_op o2_mod (Pur.vw (pu_var rfl)) (Pur.vw (pu_var rfl)))) (Pur.vw pu_int)))) (wk_uns rfl) (run_ret pu_bl rfl rfl (wk_uns rfl)) (run_skip (run_aug (i := 1) rfl (Pur.vw pu_int) rfl (wk_uns rfl) fun x18 => (run_next (s := x18) (.keep (.keep .nil))))))))) fun s19 => (run_ret pu_bl rfl rfl (wk_uns rfl))))))))), rfl⟩
def m_is_tuple_of (a_length a_value : PV) : Res PV := retF ((((Res.val a_value) >>= fun x3 => (Res.val (PV.ty "tuple")) >>= fun x4 => isiP x3 x4) >>= asB >>= fun b5 => if b5 = true then (((Res.val a_value) >>= lenP) >>= fun x1 => (Res.val a_length) >>= fun x2 => eqP x1 x2) else Res.val (PV.bl false)) >>= fun v6 => Res.val (.rt v6 []))
theorem ok_is_tuple_of (T : Top P K mg) : FnOk P w K mg base (L2.CX P w) 1 T.f_is_tuple_of T.d_is_tuple_of ["length", "value"] (spP K (clT T) (ap2 m_is_tuple_of)) := by
  refine fnP T.F_is_tuple_of scis_tuple_of rfl takn2 fun cdv A outer s H E hr qs hq => ?_
  match qs, hq with
  | [a_length, a_value], _ => exact ⟨_, (pss_one (ps_ret (pe_and (pe_callB (call_isiV K rfl) (by rfl) T.z_isinstance (by decide +kernel) (pa_cons (pv 1) (pa_cons (pe_bltn (v := .ty "tuple") (by rfl) T.z_tuple (by decide +kernel) rfl) pa_nil))) (pe_one (pe_cmpR (op_eqV K rfl hr.units) (pe_callB (call_lenVK K rfl) (by rfl) T.z_len PySem.boot_len (pa_cons (pv 1) pa_nil)) (pv 0) (nomark _)))))),
    _, run_one (run_ret (pu_andV (Pur.vw (pu_cb2 b2_isi (Pur.vw (pu_var rfl)) (Pur.vw pu_ty))) (pu_op o2_eq (Pur.vw (pu_cb1 b1_len (Pur.vw (pu_var rfl)))) (Pur.vw (pu_var rfl)))) rfl rfl (wk_uns rfl)), rfl⟩
def m_is_residue (a_q a_value : PV) : Res PV := retF ((((Res.val a_value) >>= fun x5 => (Res.val (PV.ty "int")) >>= fun x6 => isiP x5 x6) >>= asB >>= fun b7 => if b7 = true then ((Res.val (PV.int 0)) >>= fun x1 => (Res.val a_value) >>= fun x2 => leP x1 x2 >>= asB >>= fun b4 => if b4 = true then (Res.val a_q) >>= fun x3 => ltP x2 x3 else Res.val (PV.bl false)) else Res.val (PV.bl false)) >>= fun v8 => Res.val (.rt v8 []))
theorem ok_is_residue (T : Top P K mg) : FnOk P w K mg base (L2.CX P w) 1 T.f_is_residue T.d_is_residue ["q", "value"] (spP K (clT T) (ap2 m_is_residue)) := by
  refine fnP T.F_is_residue scis_residue rfl takn2 fun cdv A outer s H E hr qs hq => ?_
  match qs, hq with
  | [a_q, a_value], _ => exact ⟨_, (pss_one (ps_ret (pe_and (pe_callB (call_isiV K rfl) (by rfl) T.z_isinstance (by decide +kernel) (pa_cons (pv 1) (pa_cons (pe_bltn (v := .ty "int") (by rfl) T.z_int (by decide +kernel) rfl) pa_nil))) (pe_one (pe_chain op_le op_lt pe_int (pv 1) (pv 0)))))),
    _, run_one (run_ret (pu_andV (Pur.vw (pu_cb2 b2_isi (Pur.vw (pu_var rfl)) (Pur.vw pu_ty))) (pu_chain o2_le o2_lt (Pur.vw pu_int) (Pur.vw (pu_var rfl)) (Pur.vw (pu_var rfl)))) rfl rfl (wk_uns rfl)), rfl⟩
def m_is_residue_row (a_q a_length a_value : PV) : Res PV := retF ((((Res.val a_length) >>= fun x6 => (Res.val a_value) >>= fun x7 => m_is_tuple_of x6 x7) >>= asB >>= fun b8 => if b8 = true then (((((Res.val a_value) >>= asSq) >>= fun ps4 => sized ps4.length >>= fun _ => lcF (fun x => Res.val x) (fun (a1 : PV) => (Res.val true)) (fun (a1 : PV) => ((Res.val a_q) >>= fun x2 => (Res.val a1) >>= fun x3 => m_is_residue x2 x3)) ps4) >>= fun ps5 => Res.val (PV.lst ps5)) >>= allP) else Res.val (PV.bl false)) >>= fun v9 => Res.val (.rt v9 []))
theorem ok_is_residue_row (T : Top P K mg) : FnOk P w K mg base (L2.CX P w) 2 T.f_is_residue_row T.d_is_residue_row ["q", "length", "value"] (spP K (clT T) (ap3 m_is_residue_row)) := by
  have G_is_tuple_of := ok_is_tuple_of (P := P) (w := w) (base := base) T
  have G_is_residue := ok_is_residue (P := P) (w := w) (base := base) T
  refine fnP T.F_is_residue_row scis_residue_row rfl takn3 fun cdv A outer s H E hr qs hq => ?_
  match qs, hq with
  | [a_q, a_length, a_value], _ => exact ⟨_, (pss_one (ps_ret (pe_and (pe_callS G_is_tuple_of (hr.mono (by decide)) (by rfl) T.m_is_tuple_of T.F_is_tuple_of.kp T.b_is_tuple_of (fun σ => passAt (takes_of rfl rfl rfl rfl) σ) (pa_cons (pv 1) (pa_cons (pv 2) pa_nil))) (pe_one (pe_callB (cr_allV K rfl rfl) (by rfl) T.z_all (by decide +kernel) (pa_cons (pe_lc (own := [("item", 3)]) (g := gName 3) (tt := tYes) rfl scis_residue_row.nd (pi_seqV K rfl (pv 2)) (blkOk_by (own := [("item", 3)]) (N := ["q", "length", "value", "item"]) (sc := defScope s_is_residue_row) (by decide +kernel)) (fun _ _ _ _ _ => (pg_name (i := 3) scis_residue_row.nd rfl (Or.inl rfl))) (fun _ _ _ _ _ => pts_nil) (fun _ _ _ _ _ => (pe_callS G_is_residue (hr.mono (by decide)) (by rfl) T.m_is_residue T.F_is_residue.kp T.b_is_residue (fun σ => passAt takes0 σ) (pa_cons (pv 0) (pa_cons (pv 3) pa_nil))))) pa_nil)))))),
    _, run_one (run_ret (pu_andV (Pur.vw (pu_call2 (pu_var rfl) (pu_var rfl))) (pu_cb1 b1_all (Pur.vw (New.pur (nw_lc (ρe := fun (a1 : PV) => [(.fz a_q), (.fz a_length), (.fz a_value), (.fz a1)]) (Iter.view (it_seq (pu_var rfl))) rfl (by decide) (tg_name (i := 3) rfl (Or.inr (by decide))) (fun a1 => ts_yes) (fun a1 => (pu_call2 (pu_var rfl) (pu_var rfl)))))))) rfl rfl (wk_uns rfl)), rfl⟩
def m__is_square (a_table : PV) : Res PV := retF (((((Res.val a_table) >>= fun x1 => (Res.val (PV.ty "tuple")) >>= fun x2 => isiP x1 x2) >>= asB) >>= fun b3 => Res.val (!b3)) >>= fun b4 => if b4 = true then ((Res.val (PV.bl false)) >>= fun v5 => Res.val (.rt v5 [])) else (((Res.val a_table) >>= lenP) >>= fun x6 => ((((((Res.val (PV.int 3)) >>= fun x9 => (Res.val x6) >>= fun x10 => leP x9 x10 >>= asB >>= fun b12 => if b12 = true then (Res.val (PV.int 13)) >>= fun x11 => leP x10 x11 else Res.val (PV.bl false)) >>= asB) >>= fun b13 => Res.val (!b13)) >>= fun b14 => if b14 = true then Res.val true else ((((Res.val x6) >>= m_is_prime) >>= asB) >>= fun b8 => Res.val (!b8))) >>= fun b15 => if b15 = true then ((Res.val (PV.bl false)) >>= fun v16 => Res.val (.rt v16 [])) else ((((((Res.val a_table) >>= asSq) >>= fun ps21 => sized ps21.length >>= fun _ => lcF (fun x => Res.val x) (fun (a17 : PV) => (Res.val true)) (fun (a17 : PV) => ((Res.val x6) >>= fun x18 => (Res.val x6) >>= fun x19 => (Res.val a17) >>= fun x20 => m_is_residue_row x18 x19 x20)) ps21) >>= fun ps22 => Res.val (PV.lst ps22)) >>= allP) >>= fun v23 => Res.val (.rt v23 [])))))
theorem ok__is_square (T : Top P K mg) : FnOk P w K mg base (L2.CX P w) 3 T.f__is_square T.d__is_square ["table"] (spP K (clT T) (ap1 m__is_square)) := by
  have G_is_prime := ok_is_prime (P := P) (w := w) (base := base) T
  have G_is_residue_row := ok_is_residue_row (P := P) (w := w) (base := base) T
  refine fnP T.F__is_square sc_is_square rfl takn1 fun cdv A outer s H E hr qs hq => ?_
  match qs, hq with
  | [a_table], _ => exact ⟨_, (pss_cons (ps_if (pt_not (pt_val (pe_callB (call_isiV K rfl) (by rfl) T.z_isinstance (by decide +kernel) (pa_cons (pv 0) (pa_cons (pe_bltn (v := .ty "tuple") (by rfl) T.z_tuple (by decide +kernel) rfl) pa_nil))))) (pss_one (ps_ret pe_bl)) pss_nil)
      (pss_cons (ps_set (i := 1) sc_is_square.nd rfl (Or.inr rfl) (pe_callB (call_lenVK K rfl) (by rfl) T.z_len PySem.boot_len (pa_cons (pv 0) pa_nil)))
      (pss_cons (ps_if (PW.pt (pw_or (pt_not (pt_chain op_le op_le (pe_gint rfl T.n_SMALLEST_ORDER) (pv 1) (pe_gint rfl T.n_LARGEST_TABLE_ORDER))) (pw_or1 (pt_not (pt_val (pe_callS G_is_prime (hr.mono (by decide)) (by rfl) T.m_is_prime T.F_is_prime.kp T.b_is_prime (fun σ => passAt (takes_of rfl rfl rfl rfl) σ) (pa_cons (pv 1) pa_nil))))))) (pss_one (ps_ret pe_bl)) pss_nil)
      (pss_one (ps_ret (pe_callB (cr_allV K rfl rfl) (by rfl) T.z_all (by decide +kernel) (pa_cons (pe_lc (own := [("row", 2)]) (g := gName 2) (tt := tYes) rfl sc_is_square.nd (pi_seqV K rfl (pv 0)) (blkOk_by (own := [("row", 2)]) (N := ["table", "order", "row"]) (sc := defScope s__is_square) (by decide +kernel)) (fun _ _ _ _ _ => (pg_name (i := 2) sc_is_square.nd rfl (Or.inl rfl))) (fun _ _ _ _ _ => pts_nil) (fun _ _ _ _ _ => (pe_callS G_is_residue_row (hr.mono (by decide)) (by rfl) T.m_is_residue_row T.F_is_residue_row.kp T.b_is_residue_row (fun σ => passAt takes0 σ) (pa_cons (pv 1) (pa_cons (pv 1) (pa_cons (pv 2) pa_nil)))))) pa_nil))))))),
    _, run_one (run_assoc (run_if (ts_not (ts_val (Pur.vw (pu_cb2 b2_isi (Pur.vw (pu_var rfl)) (Pur.vw pu_ty))))) (wk_uns rfl) (run_ret pu_bl rfl rfl (wk_uns rfl)) (run_skip (run_assoc (run_set (i := 1) (pu_cb1 b1_len (Pur.vw (pu_var rfl))) rfl (wk_uns rfl) fun x6 => (run_assoc (run_if (ts_or (ts_not (ts_cmp (Pur.vw (pu_chain o2_le o2_le (Pur.vw pu_int) (Pur.vw (pu_var rfl)) (Pur.vw pu_int))))) (ts_not (ts_val (Pur.vw (pu_call1 (pu_var rfl)))))) (wk_uns rfl) (run_ret pu_bl rfl rfl (wk_uns rfl)) (run_skip (run_ret (pu_cb1 b1_all (Pur.vw (New.pur (nw_lc (ρe := fun (a17 : PV) => [(.fz a_table), (.fz x6), (.fz a17)]) (Iter.view (it_seq (pu_var rfl))) rfl (by decide) (tg_name (i := 2) rfl (Or.inr (by decide))) (fun a17 => ts_yes) (fun a17 => (pu_call3 (pu_var rfl) (pu_var rfl) (pu_var rfl))))))) rfl rfl (wk_uns rfl)))))))))), rfl⟩
def m__units (a_table : PV) : Res PV := retF (((((Res.val a_table) >>= lenP) >>= partP >>= fun i1 => Res.val ((0 : Int), i1)) >>= fun x3 => rgL x3.1 x3.2 >>= fun l4 => Res.val (PV.lst l4)) >>= fun x5 => (((((Res.val x5) >>= asSq) >>= fun ps23 => sized ps23.length >>= fun _ => lcF (fun x => Res.val x) (fun (a6 : PV) => ((((((Res.val x5) >>= asSq) >>= fun ps21 => sized ps21.length >>= fun _ => lcF (fun x => Res.val x) (fun (a7 : PV) => (Res.val true)) (fun (a7 : PV) => (((((Res.val a_table) >>= fun x14 => (Res.val a6) >>= fun x15 => ixP x14 x15) >>= fun x16 => (Res.val a7) >>= fun x17 => ixP x16 x17) >>= fun x18 => (Res.val a7) >>= fun x19 => eqP x18 x19) >>= asB >>= fun b20 => if b20 = true then ((((Res.val a_table) >>= fun x8 => (Res.val a7) >>= fun x9 => ixP x8 x9) >>= fun x10 => (Res.val a6) >>= fun x11 => ixP x10 x11) >>= fun x12 => (Res.val a7) >>= fun x13 => eqP x12 x13) else Res.val (PV.bl false))) ps21) >>= fun ps22 => Res.val (PV.lst ps22)) >>= allP) >>= asB)) (fun (a6 : PV) => (Res.val a6)) ps23) >>= fun ps24 => Res.val (PV.lst ps24)) >>= fun v25 => Res.val (.rt v25 [])))
theorem ok__units (T : Top P K mg) : FnOk P w K mg base (L2.CX P w) 1 T.f__units T.d__units ["table"] (spP K (clT T) (ap1 m__units)) := by
  refine fnP T.F__units sc_units rfl takn1 fun cdv A outer s H E hr qs hq => ?_
  match qs, hq with
  | [a_table], _ => exact ⟨_, (pss_cons (ps_set (i := 1) sc_units.nd rfl (Or.inr rfl) (pe_listRg rfl (by rfl) T.z_list (prg_1 (by rfl) T.z_range (pe_callB (call_lenVK K rfl) (by rfl) T.z_len PySem.boot_len (pa_cons (pv 0) pa_nil)))))
      (pss_one (ps_ret (pe_lc (own := [("unit", 2)]) (g := gName 2)  rfl sc_units.nd (pi_seqV K rfl (pv 1)) (blkOk_by (own := [("unit", 2)]) (N := ["table", "everyone", "unit", "a"]) (sc := defScope s__units) (by decide +kernel)) (fun _ _ _ _ _ => (pg_name (i := 2) sc_units.nd rfl (Or.inr rfl))) (fun _ _ _ _ _ => (pts_one (pt_val (pe_callB (cr_allV K rfl rfl) (by rfl) T.z_all (by decide +kernel) (pa_cons (pe_lc (own := [("a", 3)]) (g := gName 3) (tt := tYes) rfl sc_units.nd (pi_seqV K rfl (pv 1)) (blkOk_by (own := [("a", 3)]) (N := ["table", "everyone", "unit", "a"]) (sc := relS _ (defScope s__units)) (by decide +kernel)) (fun _ _ _ _ _ => (pg_name (i := 3) sc_units.nd rfl (Or.inl rfl))) (fun _ _ _ _ _ => pts_nil) (fun _ _ _ _ _ => (pe_and (pe_cmpR (op_eqV K rfl hr.units) (pe_ix (ix_VK K rfl) (pe_ix (ix_VK K rfl) (pv 0) (pv 2) (fun _ _ => rfl)) (pv 3) (fun _ _ => rfl)) (pv 3) (nomark _)) (pe_one (pe_cmpR (op_eqV K rfl hr.units) (pe_ix (ix_VK K rfl) (pe_ix (ix_VK K rfl) (pv 0) (pv 3) (fun _ _ => rfl)) (pv 2) (fun _ _ => rfl)) (pv 3) (nomark _)))))) pa_nil))))) (fun _ _ _ _ _ => (pv 2)))))),
    _, run_one (run_assoc (run_set (i := 1) (New.pur' (nw_listRg (rg_1 (Pur.vw (pu_cb1 b1_len (Pur.vw (pu_var rfl))))))) rfl (wk_uns rfl) fun x5 => (run_ret (New.pur (nw_lc (ρe := fun (a6 : PV) => [(.fz a_table), (.fz x5), (.fz a6), .un]) (Iter.view (it_seq (pu_var rfl))) rfl (by decide) (tg_name (i := 2) rfl (Or.inr (by decide))) (fun a6 => (ts_val (Pur.vw (pu_cb1 b1_all (Pur.vw (New.pur (nw_lc (ρe := fun (a7 : PV) => [(.fz a_table), (.fz x5), (.fz a6), (.fz a7)]) (Iter.view (it_seq (pu_var rfl))) rfl (by decide) (tg_name (i := 3) rfl (Or.inr (by decide))) (fun a7 => ts_yes) (fun a7 => (pu_andV (Pur.vw (pu_op o2_eq (Pur.vw (pu_op o2_ix (Pur.vw (pu_op o2_ix (Pur.vw (pu_var rfl)) (Pur.vw (pu_var rfl)))) (Pur.vw (pu_var rfl)))) (Pur.vw (pu_var rfl)))) (pu_op o2_eq (Pur.vw (pu_op o2_ix (Pur.vw (pu_op o2_ix (Pur.vw (pu_var rfl)) (Pur.vw (pu_var rfl)))) (Pur.vw (pu_var rfl)))) (Pur.vw (pu_var rfl)))))))))))) (fun a6 => (pu_var rfl)))) rfl rfl (wk_uns rfl)))), rfl⟩
def m__is_group_table (a_table : PV) : Res PV := retF ((((((Res.val a_table) >>= m__is_square) >>= asB) >>= fun b4 => Res.val (!b4)) >>= fun b5 => if b5 = true then Res.val true else ((((Res.val a_table) >>= m__units) >>= truP) >>= fun b2 => Res.val (!b2))) >>= fun b6 => if b6 = true then ((Res.val (PV.bl false)) >>= fun v7 => Res.val (.rt v7 [])) else ((((((((Res.val a_table) >>= asSq) >>= fun ps11 => sized ps11.length >>= fun _ => lcF (fun x => Res.val x) (fun (a8 : PV) => (Res.val true)) (fun (a8 : PV) => (((Res.val a8) >>= lenSetP) >>= fun x9 => ((Res.val a_table) >>= lenP) >>= fun x10 => eqP x9 x10)) ps11) >>= fun ps12 => Res.val (PV.lst ps12)) >>= allP) >>= asB) >>= fun b13 => Res.val (!b13)) >>= fun b14 => if b14 = true then ((Res.val (PV.bl false)) >>= fun v15 => Res.val (.rt v15 [])) else (((Res.val a_table) >>= m__is_associative) >>= fun v17 => Res.val (.rt v17 []))))
theorem ok__is_group_table (T : Top P K mg) : FnOk P w K mg base (L2.CX P w) 4 T.f__is_group_table T.d__is_group_table ["table"] (spP K (clT T) (ap1 m__is_group_table)) := by
  have G__is_associative := ok__is_associative (P := P) (w := w) (base := base) T
  have G__is_square := ok__is_square (P := P) (w := w) (base := base) T
  have G__units := ok__units (P := P) (w := w) (base := base) T
  refine fnP T.F__is_group_table sc_is_group_table rfl takn1 fun cdv A outer s H E hr qs hq => ?_
  match qs, hq with
  | [a_table], _ => exact ⟨_, (pss_cons (ps_if (PW.pt (pw_or (pt_not (pt_val (pe_callS G__is_square (hr.mono (by decide)) (by rfl) T.m__is_square T.F__is_square.kp T.b__is_square (fun σ => passAt (takes_of rfl rfl rfl rfl) σ) (pa_cons (pv 0) pa_nil)))) (pw_or1 (pt_not (pt_truthV K rfl (pe_callS G__units (hr.mono (by decide)) (by rfl) T.m__units T.F__units.kp T.b__units (fun σ => passAt (takes_of rfl rfl rfl rfl) σ) (pa_cons (pv 0) pa_nil))))))) (pss_one (ps_ret pe_bl)) pss_nil)
      (pss_cons (ps_if (pt_not (pt_val (pe_callB (cr_allV K rfl rfl) (by rfl) T.z_all (by decide +kernel) (pa_cons (pe_lc (own := [("row", 1)]) (g := gName 1) (tt := tYes) rfl sc_is_group_table.nd (pi_seqV K rfl (pv 0)) (blkOk_by (own := [("row", 1)]) (N := ["table", "row"]) (sc := defScope s__is_group_table) (by decide +kernel)) (fun _ _ _ _ _ => (pg_name (i := 1) sc_is_group_table.nd rfl (Or.inl rfl))) (fun _ _ _ _ _ => pts_nil) (fun _ _ _ _ _ => (pe_cmpR (op_eqV K rfl hr.units) (pe_lenSetT K rfl rfl (by rfl) T.z_len (by rfl) T.z_set (pv 1)) (pe_callB (call_lenVK K rfl) (by rfl) T.z_len PySem.boot_len (pa_cons (pv 0) pa_nil)) (nomark _)))) pa_nil)))) (pss_one (ps_ret pe_bl)) pss_nil)
      (pss_one (ps_ret (pe_callS G__is_associative (hr.mono (by decide)) (by rfl) T.m__is_associative T.F__is_associative.kp T.b__is_associative (fun σ => passAt (takes_of rfl rfl rfl rfl) σ) (pa_cons (pv 0) pa_nil)))))),
    _, run_one (run_assoc (run_if (ts_or (ts_not (ts_val (Pur.vw (pu_call1 (pu_var rfl))))) (ts_not (ts_tru (Pur.vw (pu_call1 (pu_var rfl)))))) (wk_uns rfl) (run_ret pu_bl rfl rfl (wk_uns rfl)) (run_skip (run_assoc (run_if (ts_not (ts_val (Pur.vw (pu_cb1 b1_all (Pur.vw (New.pur (nw_lc (ρe := fun (a8 : PV) => [(.fz a_table), (.fz a8)]) (Iter.view (it_seq (pu_var rfl))) rfl (by decide) (tg_name (i := 1) rfl (Or.inr (by decide))) (fun a8 => ts_yes) (fun a8 => (pu_op o2_eq (Pur.vw (pu_lenSet (pu_var rfl))) (Pur.vw (pu_cb1 b1_len (Pur.vw (pu_var rfl))))))))))))) (wk_uns rfl) (run_ret pu_bl rfl rfl (wk_uns rfl)) (run_skip (run_ret (pu_call1 (pu_var rfl)) rfl rfl (wk_uns rfl)))))))), rfl⟩
def m_TableGroup___init__ (mo : MO) (a_table : PV) : Res (PV × MO) := match mo with
  | .ob a_C a_self => retR (((((Res.val a_table) >>= m__is_group_table) >>= asB) >>= fun b2 => Res.val (!b2)) >>= fun b3 => if b3 = true then (Res.exc "BadGroup") else ((Res.val a_table) >>= fun x4 => setF cs_table a_C a_self "table" x4 >>= fun gs5 => (supP (L := Empty) "TableGroup" (.ob a_C gs5) (((Res.val a_table) >>= lenP) >>= fun x17 => ((((Res.val a_table) >>= m__units) >>= fun x13 => (Res.val (PV.int 0)) >>= fun x14 => ixP x13 x14) >>= fun x15 => (((((Res.val a_table) >>= lenP) >>= partP >>= fun i6 => Res.val ((0 : Int), i6)) >>= fun x8 => rgL x8.1 x8.2 >>= fun l9 => Res.val (PV.tup l9)) >>= fun x10 => (Res.val []) >>= fun xs11 => Res.val (x10 :: xs11)) >>= fun xs16 => Res.val (x15 :: xs16)) >>= fun xs18 => Res.val (x17 :: xs18)) (apR3 m_Group___init__))))
  | _ => .stuck
theorem ok_TableGroup___init__ (T : Top P K mg) : FnOk P w K mg base (L2.CX P w) 5 T.f_TableGroup___init__ T.d_TableGroup___init__ ["self", "table"] (spI K (clT T) (apR1 m_TableGroup___init__)) := by
  have G_Group___init__ := ok_Group___init__ (P := P) (w := w) (base := base) T
  have G__is_group_table := ok__is_group_table (P := P) (w := w) (base := base) T
  have G__units := ok__units (P := P) (w := w) (base := base) T
  refine fnIS T.F_TableGroup___init__ scTableGroup___init__ rfl taknR1 fun A outer s H E hr mo qs hq => ?_
  match mo, qs, hq with
  | .lst _, [_], _ => exact .inl rfl
  | .dct _, [_], _ => exact .inl rfl
  | .ob a_C a_self, [a_table], _ => exact .inr ⟨_, (pat_cons (ps_if (pt_not (pt_val (pe_callS G__is_group_table (hr.mono (by decide)) (by rfl) T.m__is_group_table T.F__is_group_table.kp T.b__is_group_table (fun σ => passAt (takes_of rfl rfl rfl rfl) σ) (pa_cons (pv 1) pa_nil)))) (pss_one (ps_raise rfl (takes_of rfl rfl rfl rfl) (pmk_own0 PySem.F.excBase_ValueError T.x_BadGroup T.m_BadGroup T.kc_BadGroup (raises_own T.s_BadGroup T.t_BadGroup) rfl))) pss_nil)
      (pat_cons (ps_fld (pv 0) (pv 1) rfl)
      (pat_super T.su_TableGroup___init__ G_Group___init__ (hr.mono (by decide)) T.b_Group___init__ (passes_call (takes_of rfl rfl rfl rfl) (fun _ _ _ _ h => h)) T.sg_TableGroup___init__ (pa_cons (pe_callB (call_lenVK K rfl) (by rfl) T.z_len PySem.boot_len (pa_cons (pv 1) pa_nil)) (pa_cons (pe_ix (ix_VK K rfl) (pe_callS G__units (hr.mono (by decide)) (by rfl) T.m__units T.F__units.kp T.b__units (fun σ => passAt (takes_of rfl rfl rfl rfl) σ) (pa_cons (pv 1) pa_nil)) pe_int (fun _ _ => rfl)) (pa_cons (pe_tupRg rfl (by rfl) T.z_tuple (prg_1 (by rfl) T.z_range (pe_callB (call_lenVK K rfl) (by rfl) T.z_len PySem.boot_len (pa_cons (pv 1) pa_nil)))) pa_nil))) rfl rfl rfl rfl rfl rfl rfl T.z_super T.hfile T.htop (by decide) rfl rfl rfl rfl))),
    _, id (run_assoc (run_if (ts_not (ts_val (Pur.vw (pu_call1 (pu_var rfl))))) (wk_uns rfl) (run_raise T.ce_BadGroup (wk_uns rfl)) (run_skip (run_assoc (run_setfld (i := 0) T.fl_table rfl (.inr ⟨_, rfl⟩) (pu_var rfl) (wk_uns rfl) fun gs5 => (run_super T.ce_TableGroup (pl_cons (pu_cb1 b1_len (Pur.vw (pu_var rfl))) (pl_cons (pu_op o2_ix (Pur.vw (pu_call1 (pu_var rfl))) (Pur.vw pu_int)) (pl_cons (pu_tupRg (rg_1 (Pur.vw (pu_cb1 b1_len (Pur.vw (pu_var rfl)))))) pl_nil))) (wk_uns rfl) (fun mo' => (.keep (.drop .nil))))))))), rfl⟩
def m__law_asked (a_table : PV) : Res PV := retF (seqF (S1 := Unit) (tryF ((((Res.val a_table) >>= fun x2 => (Res.val []) >>= fun xs3 => Res.val (x2 :: xs3)) >>= fun ps4 => (apR1 m_TableGroup___init__) (.ob "TableGroup" []) ps4 >>= frO) >>= fun x5 => ((((Res.val (PV.str "told")) >>= fun x16 => (((Res.val x5) >>= isiC it_Group) >>= fun x14 => (((Res.val x5) >>= (fldP cs_table "table")) >>= fun x12 => (((Res.val x5) >>= (fldP cs_order "order")) >>= fun x10 => (((Res.val x5) >>= (fldP cs_unit "unit")) >>= fun x8 => (((Res.val x5) >>= (fldP cs_members "members")) >>= fun x6 => (Res.val []) >>= fun xs7 => Res.val (x6 :: xs7)) >>= fun xs9 => Res.val (x8 :: xs9)) >>= fun xs11 => Res.val (x10 :: xs11)) >>= fun xs13 => Res.val (x12 :: xs13)) >>= fun xs15 => Res.val (x14 :: xs15)) >>= fun xs17 => Res.val (x16 :: xs17)) >>= mkT) >>= fun v18 => Res.val (.rt v18 []))) hit_BadGroup ((((Res.val (PV.str "group")) >>= fun x19 => (Res.val []) >>= fun xs20 => Res.val (x19 :: xs20)) >>= mkT) >>= fun v21 => Res.val (.rt v21 []))) fun s1 => (Res.val (.nx ())))
theorem ok__law_asked (T : Top P K mg) : FnOk P w K mg base (L2.CX P w) 7 T.f__law_asked T.d__law_asked ["table"] (spP K (clT T) (ap1 m__law_asked)) := by
  have G_TableGroup___init__ := ok_TableGroup___init__ (P := P) (w := w) (base := base) T
  refine fnP T.F__law_asked scLasked rfl takn1 fun cdv A outer s H E hr qs hq => ?_
  match qs, hq with
  | [a_table], _ => exact ⟨_, (pss_one (ps_try_only rfl rfl ⟨rfl, by decide, (.inl T.m_BadGroup)⟩ (takes_of rfl rfl rfl rfl) (fun W pn xe tk pw => (pss_cons (ps_set (i := 1) scLasked.nd rfl (Or.inl rfl) (pe_makeS T.mk_TableGroup G_TableGroup___init__ (hr.mono (by decide)) rfl T.m_TableGroup T.b_TableGroup___init__ (fun σ => passAt tk σ) (pa_cons (pv 0) pa_nil)))
      (pss_one (ps_ret (pe_tup (pa_cons pe_str (pa_cons (pe_callB (call_isiV K rfl) (by rfl) T.z_isinstance (by decide +kernel) (pa_cons (pv 1) (pa_cons (pe_glob (v := .ref T.c_Group) rfl T.m_Group rfl (by decide)) pa_nil))) (pa_cons (pe_fldV K rfl (pv 1) rfl) (pa_cons (pe_fldV K rfl (pv 1) rfl) (pa_cons (pe_fldV K rfl (pv 1) rfl) (pa_cons (pe_fldV K rfl (pv 1) rfl) pa_nil))))))))))) (fun a oe cls d pn _ _ => (pss_one (ps_ret (pe_tup (pa_cons pe_str pa_nil))))))),
    _, run_one (run_seq (ρj := fun (s1 : Unit) => [(.fz a_table), .un]) (run_try (ρh := [(.fz a_table), .un]) T.hit_BadGroup (wk_uns rfl) (fun W' => run_one (run_assoc (run_set (i := 1) (pu_make T.ce_TableGroup (pl_cons (pu_var rfl) pl_nil)) rfl (.keep (.keep .nil)) fun x5 => (run_ret (pu_tup (pl_cons pu_str (pl_cons (pu_isiC T.isi_Group (pu_var rfl)) (pl_cons (pu_fld T.fl_table (Pur.vw (pu_var rfl))) (pl_cons (pu_fld T.fl_order (Pur.vw (pu_var rfl))) (pl_cons (pu_fld T.fl_unit (Pur.vw (pu_var rfl))) (pl_cons (pu_fld T.fl_members (Pur.vw (pu_var rfl))) pl_nil))))))) rfl rfl (.keep (.drop .nil)))))) (fun a cls d => run_one (run_ret (pu_tup (pl_cons pu_str pl_nil)) rfl rfl (wk_uns rfl)))) fun s1 => (run_next (s := ()) (wk_uns rfl))), rfl⟩
def m__law_right (a_table : PV) : Res PV := retF ((((Res.val (PV.str "group")) >>= fun x1 => (Res.val []) >>= fun xs2 => Res.val (x1 :: xs2)) >>= mkT) >>= fun x3 => (seqF (S1 := PV) ((((Res.val a_table) >>= m__law_is_group) >>= asB) >>= fun b5 => if b5 = true then ((((Res.val (PV.str "told")) >>= fun x23 => ((Res.val (PV.bl true)) >>= fun x21 => ((Res.val a_table) >>= fun x19 => (((Res.val a_table) >>= lenP) >>= fun x17 => ((((Res.val a_table) >>= m__law_units) >>= fun x13 => (Res.val (PV.int 0)) >>= fun x14 => ixP x13 x14) >>= fun x15 => (((((((Res.val a_table) >>= lenP) >>= rng1) >>= fun ps8 => sized ps8.length >>= fun _ => lcF (fun x => Res.val x) (fun (a7 : PV) => (Res.val true)) (fun (a7 : PV) => (Res.val a7)) ps8) >>= fun ps9 => Res.val (PV.lst ps9)) >>= tupleP) >>= fun x10 => (Res.val []) >>= fun xs11 => Res.val (x10 :: xs11)) >>= fun xs16 => Res.val (x15 :: xs16)) >>= fun xs18 => Res.val (x17 :: xs18)) >>= fun xs20 => Res.val (x19 :: xs20)) >>= fun xs22 => Res.val (x21 :: xs22)) >>= fun xs24 => Res.val (x23 :: xs24)) >>= mkT) >>= fun x25 => (Res.val (.nx x25))) else (Res.val (.nx x3))) fun s6 => ((((Res.val a_table) >>= m__law_asked) >>= fun x27 => (Res.val s6) >>= fun x28 => (m__law_alike 5) x27 x28) >>= fun v29 => Res.val (.rt v29 []))))
theorem ok__law_right (T : Top P K mg) : FnOk P w K mg base (L2.CX P w) 8 T.f__law_right T.d__law_right ["table"] (spP K (clT T) (ap1 m__law_right)) := by
  have G__law_is_group := ok__law_is_group (P := P) (w := w) (base := base) T
  have G__law_alike := ok__law_alike (P := P) (w := w) (base := base) T 5
  have G__law_asked := ok__law_asked (P := P) (w := w) (base := base) T
  have G__law_units := ok__law_units (P := P) (w := w) (base := base) T
  refine fnP T.F__law_right scLright rfl takn1 fun cdv A outer s H E hr qs hq => ?_
  match qs, hq with
  | [a_table], _ => exact ⟨_, (pss_cons (ps_set (i := 1) scLright.nd rfl (Or.inl rfl) (pe_tup (pa_cons pe_str pa_nil)))
      (pss_cons (ps_if (pt_val (pe_callS G__law_is_group (hr.mono (by decide)) (by rfl) T.m__law_is_group T.F__law_is_group.kp T.b__law_is_group (fun σ => passAt (takes_of rfl rfl rfl rfl) σ) (pa_cons (pv 0) pa_nil))) (pss_one (ps_set (i := 1) scLright.nd rfl (Or.inl rfl) (pe_tup (pa_cons pe_str (pa_cons pe_bl (pa_cons (pv 0) (pa_cons (pe_callB (call_lenVK K rfl) (by rfl) T.z_len PySem.boot_len (pa_cons (pv 0) pa_nil)) (pa_cons (pe_ix (ix_VK K rfl) (pe_callS G__law_units (hr.mono (by decide)) (by rfl) T.m__law_units T.F__law_units.kp T.b__law_units (fun σ => passAt (takes_of rfl rfl rfl rfl) σ) (pa_cons (pv 0) pa_nil)) pe_int (fun _ _ => rfl)) (pa_cons (pe_callTy (call_tupleV K rfl) (by rfl) T.z_tuple (by decide +kernel) (pa_cons (pe_lc (own := [("a", 2)]) (g := gName 2) (tt := tYes) rfl scLright.nd (pi_range1 (by rfl) T.z_range (pa_cons (pe_callB (call_lenVK K rfl) (by rfl) T.z_len PySem.boot_len (pa_cons (pv 0) pa_nil)) pa_nil)) (blkOk_by (own := [("a", 2)]) (N := ["table", "due", "a"]) (sc := defScope s_Lright) (by decide +kernel)) (fun _ _ _ _ _ => (pg_name (i := 2) scLright.nd rfl (Or.inl rfl))) (fun _ _ _ _ _ => pts_nil) (fun _ _ _ _ _ => (pv 2))) pa_nil)) pa_nil))))))))) pss_nil)
      (pss_one (ps_ret (pe_callS G__law_alike (hr.mono (by decide)) (by rfl) T.m__law_alike T.F__law_alike.kp T.b__law_alike (fun σ => passAt (takes_of rfl rfl rfl rfl) σ) (pa_cons (pe_callS G__law_asked (hr.mono (by decide)) (by rfl) T.m__law_asked T.F__law_asked.kp T.b__law_asked (fun σ => passAt (takes_of rfl rfl rfl rfl) σ) (pa_cons (pv 0) pa_nil)) (pa_cons (pv 1) pa_nil))))))),
    _, run_one (run_assoc (run_set (i := 1) (pu_tup (pl_cons pu_str pl_nil)) rfl (wk_uns rfl) fun x3 => (run_assoc (run_seq (ρj := fun (s6 : PV) => [(.fz a_table), (.fz s6), .un]) (run_one (run_if (ts_val (Pur.vw (pu_call1 (pu_var rfl)))) (wk_uns rfl) (run_set (i := 1) (pu_tup (pl_cons pu_str (pl_cons pu_bl (pl_cons (pu_var rfl) (pl_cons (pu_cb1 b1_len (Pur.vw (pu_var rfl))) (pl_cons (pu_op o2_ix (Pur.vw (pu_call1 (pu_var rfl))) (Pur.vw pu_int)) (pl_cons (pu_cb1 b1_tuple (Pur.vw (New.pur (nw_lc (ρe := fun (a7 : PV) => [(.fz a_table), (.fz x3), (.fz a7)]) (Iter.view (it_rng1 (Pur.vw (pu_cb1 b1_len (Pur.vw (pu_var rfl)))))) rfl (by decide) (tg_name (i := 2) rfl (Or.inr (by decide))) (fun a7 => ts_yes) (fun a7 => (pu_var rfl)))))) pl_nil))))))) rfl (wk_uns rfl) fun x25 => (run_next (s := x25) (.keep (.keep (.keep .nil))))) (run_skip (run_next (s := x3) (.keep (.keep (.keep .nil))))))) fun s6 => (run_ret (pu_call2 (pu_call1 (pu_var rfl)) (pu_var rfl)) rfl rfl (wk_uns rfl)))))), rfl⟩
def m_Group_power (a_self a_element a_exponent : PV) : Res PV := retF ((((Res.val a_self) >>= (fldP cs__powers "_powers")) >>= fun x7 => (((((Res.val a_self) >>= (fldP cs__exponents "_exponents")) >>= fun x1 => (Res.val a_element) >>= fun x2 => dgetP x1 x2) >>= fun x3 => (Res.val a_exponent) >>= fun x4 => mulP x3 x4) >>= fun x5 => ((Res.val a_self) >>= (fldP cs_order "order")) >>= fun x6 => modP x5 x6) >>= fun x8 => ixP x7 x8) >>= fun v9 => Res.val (.rt v9 []))
theorem ok_Group_power (T : Top P K mg) : FnOk P w K mg base (L2.CX P w) 1 T.f_Group_power T.d_Group_power ["self", "element", "exponent"] (spP K (clT T) (ap3 m_Group_power)) := by
  refine fnP T.F_Group_power scGroup_power rfl takn3 fun cdv A outer s H E hr qs hq => ?_
  match qs, hq with
  | [a_self, a_element, a_exponent], _ => exact ⟨_, (pss_one (ps_ret (pe_ix (ix_VK K rfl) (pe_fldV K rfl (pv 0) rfl) (pe_op op_modN (pe_op op_mulV (pe_dget (hu_of hr) (pe_fldV K rfl (pv 0) rfl) (pv 1) (fun _ _ => rfl)) (pv 2)) (pe_fldV K rfl (pv 0) rfl)) (fun _ _ => rfl)))),
    _, run_one (run_ret (pu_op o2_ix (Pur.vw (pu_fld T.fl__powers (Pur.vw (pu_var rfl)))) (Pur.vw (pu_op o2_mod (Pur.vw (pu_op o2_mul (Pur.vw (pu_dget (Pur.vw (pu_fld T.fl__exponents (Pur.vw (pu_var rfl)))) (Pur.vw (pu_var rfl)))) (Pur.vw (pu_var rfl)))) (Pur.vw (pu_fld T.fl_order (Pur.vw (pu_var rfl))))))) rfl rfl (wk_uns rfl)), rfl⟩
def m_Group_inverse_of (a_self a_element : PV) : Res PV := retF (((Res.val a_self) >>= fun x5 => sel [("TableGroup", ap3 m_Group_power)] "power" x5 >>= fun g6 => ((Res.val a_element) >>= fun x3 => (((Res.val (PV.int 1)) >>= negP) >>= fun x1 => (Res.val []) >>= fun xs2 => Res.val (x1 :: xs2)) >>= fun xs4 => Res.val (x3 :: xs4)) >>= fun ps7 => g6 (x5 :: ps7)) >>= fun v8 => Res.val (.rt v8 []))
theorem ok_Group_inverse_of (T : Top P K mg) : FnOk P w K mg base (L2.CX P w) 2 T.f_Group_inverse_of T.d_Group_inverse_of ["self", "element"] (spP K (clT T) (ap2 m_Group_inverse_of)) := by
  have G_Group_power := ok_Group_power (P := P) (w := w) (base := base) T
  refine fnP T.F_Group_inverse_of scGroup_inverse_of rfl takn2 fun cdv A outer s H E hr qs hq => ?_
  match qs, hq with
  | [a_self, a_element], _ => exact ⟨_, (pss_one (ps_ret (pe_methT (pv 0) T.cls_TableGroup T.me_TableGroup_power G_Group_power (hr.mono (by decide)) T.b_Group_power (fun σ => passAt (takes_of rfl rfl rfl rfl) σ) (pa_cons (pv 1) (pa_cons (pe_un un_neg pe_int) pa_nil))))),
    _, run_one (run_ret (pu_meth T.ce_TableGroup (pu_var rfl) (pl_cons (pu_var rfl) (pl_cons (pu_un o1_neg (Pur.vw pu_int)) pl_nil))) rfl rfl (wk_uns rfl)), rfl⟩
def m_Group_has (a_self a_value : PV) : Res PV := retF ((((Res.val a_value) >>= fun x3 => (Res.val (PV.ty "int")) >>= fun x4 => isiP x3 x4) >>= asB >>= fun b5 => if b5 = true then ((Res.val a_value) >>= fun x1 => ((Res.val a_self) >>= (fldP cs__exponents "_exponents")) >>= fun x2 => dinP false x1 x2) else Res.val (PV.bl false)) >>= fun v6 => Res.val (.rt v6 []))
theorem ok_Group_has (T : Top P K mg) : FnOk P w K mg base (L2.CX P w) 1 T.f_Group_has T.d_Group_has ["self", "value"] (spP K (clT T) (ap2 m_Group_has)) := by
  refine fnP T.F_Group_has scGroup_has rfl takn2 fun cdv A outer s H E hr qs hq => ?_
  match qs, hq with
  | [a_self, a_value], _ => exact ⟨_, (pss_one (ps_ret (pe_and (pe_callB (call_isiV K rfl) (by rfl) T.z_isinstance (by decide +kernel) (pa_cons (pv 1) (pa_cons (pe_bltn (v := .ty "int") (by rfl) T.z_int (by decide +kernel) rfl) pa_nil))) (pe_one (pe_cmp (pc_din (hu_of hr) (pv 1) (pe_fldV K rfl (pv 0) rfl))))))),
    _, run_one (run_ret (pu_andV (Pur.vw (pu_cb2 b2_isi (Pur.vw (pu_var rfl)) (Pur.vw pu_ty))) (pu_din (Pur.vw (pu_var rfl)) (Pur.vw (pu_fld T.fl__exponents (Pur.vw (pu_var rfl)))))) rfl rfl (wk_uns rfl)), rfl⟩
def m__law_multiplies (mo : MO) (a_row : PV) : Res (PV × MO) := match mo with
  | .lst a_box => retR (((Res.val a_row) >>= m__law_table) >>= fun x2 => (((Res.val []) >>= fun ps5 => ((Res.val x2) >>= fun x3 => (Res.val []) >>= fun xs4 => Res.val (x3 :: xs4)) >>= fun qs6 => tlP (g_TableGroup___init___1_table (.non :: ps5) qs6) >>= fun as7 => (apR1 m_TableGroup___init__) (.ob "TableGroup" []) as7 >>= frO) >>= fun x8 => (((Res.val a_row) >>= lenP) >>= fun x9 => (seqF (S1 := List PV) (((Res.val (PV.int 10)) >>= rng1) >>= fun ps105 => forF (fun (x106 : PV) (s10 : List PV) => (fun x => Res.val x) x106 >>= fun (a11 : PV) => (noX ((fun (s12 : List PV) => (fun (s16 : List PV) => (fun (s13 : List PV) => noX (Res.val x9) >>= fun v14 => Res.val (v14, s13)) s16 >>= fun x17 => (fun (s15 : List PV) => Res.val (([] : List PV), s15)) x17.2 >>= fun xs18 => Res.val (x17.1 :: xs18.1, xs18.2)) s12 >>= fun x19 => (apR1 m__law_draw) (MO.lst x19.2) x19.1 >>= fun r20 => ((fun (s12 : List PV) (mo : MO) => moL mo >>= fun l => Res.val l) x19.2 r20.2) >>= fun s21 => Res.val (r20.1, s21)) s10) >>= fun r24 => (fun (x22 : PV) (s23 : List PV) => (noX ((fun (s25 : List PV) => (fun (s29 : List PV) => (fun (s26 : List PV) => noX (Res.val x9) >>= fun v27 => Res.val (v27, s26)) s29 >>= fun x30 => (fun (s28 : List PV) => Res.val (([] : List PV), s28)) x30.2 >>= fun xs31 => Res.val (x30.1 :: xs31.1, xs31.2)) s25 >>= fun x32 => (apR1 m__law_draw) (MO.lst x32.2) x32.1 >>= fun r33 => ((fun (s25 : List PV) (mo : MO) => moL mo >>= fun l => Res.val l) x32.2 r33.2) >>= fun s34 => Res.val (r33.1, s34)) s23) >>= fun r37 => (fun (x35 : PV) (s36 : List PV) => (((Res.val a_row) >>= fun x42 => ((((Res.val x22) >>= fun x38 => (Res.val x35) >>= fun x39 => addP x38 x39) >>= intP) >>= fun x40 => (Res.val x9) >>= fun x41 => modP x40 x41) >>= fun x43 => ixP x42 x43) >>= fun x44 => ((((((((Res.val x8) >>= fun x71 => sel [("TableGroup", ap3 m_TableGroup_multiply)] "multiply" x71 >>= fun g72 => (((Res.val a_row) >>= fun x67 => (Res.val x22) >>= fun x68 => ixP x67 x68) >>= fun x69 => (((Res.val a_row) >>= fun x63 => (Res.val x35) >>= fun x64 => ixP x63 x64) >>= fun x65 => (Res.val []) >>= fun xs66 => Res.val (x65 :: xs66)) >>= fun xs70 => Res.val (x69 :: xs70)) >>= fun ps73 => g72 (x71 :: ps73)) >>= fun x74 => (((Res.val x8) >>= fun x57 => sel [("TableGroup", ap3 m_TableGroup_multiply)] "multiply" x57 >>= fun g58 => (Res.val []) >>= fun ps59 => (((Res.val a_row) >>= fun x49 => (Res.val x22) >>= fun x50 => ixP x49 x50) >>= fun x51 => (((Res.val a_row) >>= fun x45 => (Res.val x35) >>= fun x46 => ixP x45 x46) >>= fun x47 => (Res.val []) >>= fun xs48 => Res.val (x47 :: xs48)) >>= fun xs52 => Res.val (x51 :: xs52)) >>= fun qs60 => g58 (g_TableGroup_multiply_1_second_first (x57 :: ps59) qs60)) >>= fun x61 => (Res.val []) >>= fun xs62 => Res.val (x61 :: xs62)) >>= fun xs75 => Res.val (x74 :: xs75)) >>= mkT) >>= fun x80 => (((Res.val x44) >>= fun x78 => ((Res.val x44) >>= fun x76 => (Res.val []) >>= fun xs77 => Res.val (x76 :: xs77)) >>= fun xs79 => Res.val (x78 :: xs79)) >>= mkT) >>= fun x81 => (m__law_alike 5) x80 x81) >>= asB) >>= fun b82 => Res.val (!b82)) >>= fun b83 => if b83 = true then ((Res.val (PV.bl false)) >>= fun v84 => Res.val (.rt v84 [.lst s36])) else ((((((Res.val x8) >>= fun x89 => sel [("TableGroup", ap2 m_Group_inverse_of)] "inverse_of" x89 >>= fun g90 => (((Res.val a_row) >>= fun x85 => (Res.val x22) >>= fun x86 => ixP x85 x86) >>= fun x87 => (Res.val []) >>= fun xs88 => Res.val (x87 :: xs88)) >>= fun ps91 => g90 (x89 :: ps91)) >>= fun x98 => ((Res.val a_row) >>= fun x96 => ((((Res.val (PV.int 0)) >>= fun x92 => (Res.val x22) >>= fun x93 => subP x92 x93) >>= intP) >>= fun x94 => (Res.val x9) >>= fun x95 => modP x94 x95) >>= fun x97 => ixP x96 x97) >>= fun x99 => (m__law_alike 5) x98 x99) >>= asB) >>= fun b100 => Res.val (!b100)) >>= fun b101 => if b101 = true then ((Res.val (PV.bl false)) >>= fun v102 => Res.val (.rt v102 [.lst s36])) else (Res.val (.nx s36)))))) r37.1 r37.2)) r24.1 r24.2)) ps105 a_box) fun s107 => (seqF (S1 := Unit) (((((Res.val (PV.int 0)) >>= fun x130 => (((Res.val x9) >>= fun x126 => (Res.val (PV.int 1)) >>= fun x127 => subP x126 x127) >>= fun x128 => ((Res.val x9) >>= fun x124 => (((Res.val (PV.int 1)) >>= negP) >>= fun x122 => (((Res.val (PV.int 10)) >>= fun x118 => (Res.val (PV.int 9)) >>= fun x119 => powP x118 x119) >>= fun x120 => (((Res.val []) >>= mkT) >>= fun x116 => ((((Res.val (PV.int 0)) >>= fun x112 => (Res.val []) >>= fun xs113 => Res.val (x112 :: xs113)) >>= mkT) >>= fun x114 => ((Res.val (PV.str "0")) >>= fun x110 => ((Res.val PV.non) >>= fun x108 => (Res.val []) >>= fun xs109 => Res.val (x108 :: xs109)) >>= fun xs111 => Res.val (x110 :: xs111)) >>= fun xs115 => Res.val (x114 :: xs115)) >>= fun xs117 => Res.val (x116 :: xs117)) >>= fun xs121 => Res.val (x120 :: xs121)) >>= fun xs123 => Res.val (x122 :: xs123)) >>= fun xs125 => Res.val (x124 :: xs125)) >>= fun xs129 => Res.val (x128 :: xs129)) >>= fun xs131 => Res.val (x130 :: xs131)) >>= mkL) >>= asSq) >>= fun ps152 => forF (fun (x153 : PV) (s132 : Unit) => (fun x => Res.val x) x153 >>= fun (a133 : PV) => ((((((Res.val x8) >>= fun x136 => sel [("TableGroup", ap2 m_Group_has)] "has" x136 >>= fun g137 => ((Res.val a133) >>= fun x134 => (Res.val []) >>= fun xs135 => Res.val (x134 :: xs135)) >>= fun ps138 => g137 (x136 :: ps138)) >>= fun x147 => (((Res.val a133) >>= fun x144 => (Res.val (PV.ty "int")) >>= fun x145 => isiP x144 x145) >>= asB >>= fun b146 => if b146 = true then (((Res.val (PV.int 0)) >>= fun x141 => (Res.val a133) >>= fun x142 => leP x141 x142) >>= asB >>= fun b143 => if b143 = true then ((Res.val a133) >>= fun x139 => (Res.val x9) >>= fun x140 => ltP x139 x140) else Res.val (PV.bl false)) else Res.val (PV.bl false)) >>= fun x148 => (m__law_alike 5) x147 x148) >>= asB) >>= fun b149 => Res.val (!b149)) >>= fun b150 => if b150 = true then ((Res.val (PV.bl false)) >>= fun v151 => Res.val (.rt v151 [.lst s107])) else (Res.val (.nx ())))) ps152 ()) fun s154 => ((Res.val (PV.bl true)) >>= fun v155 => Res.val (.rt v155 [.lst s107])))))))
  | _ => .stuck
theorem ok__law_multiplies (T : Top P K mg) : FnOk P w K mg base (L2.CX P w) 7 T.f__law_multiplies T.d__law_multiplies ["box", "row"] (spR K (clT T) (apR1 m__law_multiplies)) := by
  have G__law_table := ok__law_table (P := P) (w := w) (base := base) T
  have G_TableGroup___init__ := ok_TableGroup___init__ (P := P) (w := w) (base := base) T
  have G__law_draw := ok__law_draw (P := P) (w := w) (base := base) T
  have G__law_alike := ok__law_alike (P := P) (w := w) (base := base) T 5
  have G_Group_inverse_of := ok_Group_inverse_of (P := P) (w := w) (base := base) T
  have G_Group_has := ok_Group_has (P := P) (w := w) (base := base) T
  have G_TableGroup_multiply := ok_TableGroup_multiply (P := P) (w := w) (base := base) T
  refine fnR T.F__law_multiplies scLmultiplies rfl taknR1 fun cdv A outer s H E hr mo qs hq => ?_
  match mo, qs, hq with
  | .dct _, [_], _ => exact .inl rfl
  | .ob _ _, [_], _ => exact .inl rfl
  | .lst a_box, [a_row], _ => exact .inr ⟨_, (pss_cons (ps_set (i := 2) scLmultiplies.nd rfl (Or.inl rfl) (pe_callS G__law_table (hr.mono (by decide)) (by rfl) T.m__law_table T.F__law_table.kp T.b__law_table (fun σ => passAt (takes_of rfl rfl rfl rfl) σ) (pa_cons (pv 1) pa_nil)))
      (pss_cons (ps_set (i := 3) scLmultiplies.nd rfl (Or.inl rfl) (pe_makeKS0 T.mk_TableGroup G_TableGroup___init__ (hr.mono (by decide)) rfl T.m_TableGroup T.k_TableGroup___init___1_table (fun σ => passAt (takes_of rfl rfl rfl rfl) σ) (pk_cons (pv 2) pk_nil)))
      (pss_cons (ps_set (i := 4) scLmultiplies.nd rfl (Or.inl rfl) (pe_callB (call_lenVK K rfl) (by rfl) T.z_len PySem.boot_len (pa_cons (pv 1) pa_nil)))
      (pss_cons (ps_for (passes_of rfl) rfl (pi_range1 (by rfl) T.z_range (pa_cons pe_int pa_nil)) (pg_name (i := 5) scLmultiplies.nd rfl (Or.inl rfl)) (pss_cons (ps_set (i := 6) scLmultiplies.nd rfl (Or.inl rfl) (pe_callS G__law_draw (hr.mono (by decide)) (by rfl) T.m__law_draw T.F__law_draw.kp T.b__law_draw (fun σ => passAt (takes_of rfl rfl rfl rfl) σ) (pa_cons (pv 0) (pa_cons (pv 4) pa_nil))))
      (pss_cons (ps_set (i := 7) scLmultiplies.nd rfl (Or.inl rfl) (pe_callS G__law_draw (hr.mono (by decide)) (by rfl) T.m__law_draw T.F__law_draw.kp T.b__law_draw (fun σ => passAt (takes_of rfl rfl rfl rfl) σ) (pa_cons (pv 0) (pa_cons (pv 4) pa_nil))))
      (pss_cons (ps_set (i := 8) scLmultiplies.nd rfl (Or.inl rfl) (pe_ix (ix_VK K rfl) (pv 1) (pe_op op_modN (pe_callTy call_intV (by rfl) T.z_int (by decide +kernel) (pa_cons (pe_op (op_addV K rfl) (pv 6) (pv 7)) pa_nil)) (pv 4)) (fun _ _ => rfl)))
      (pss_cons (ps_if (pt_not (pt_val (pe_callS G__law_alike (hr.mono (by decide)) (by rfl) T.m__law_alike T.F__law_alike.kp T.b__law_alike (fun σ => passAt (takes_of rfl rfl rfl rfl) σ) (pa_cons (pe_tup (pa_cons (pe_methT (pv 3) T.cls_TableGroup T.me_TableGroup_multiply G_TableGroup_multiply (hr.mono (by decide)) T.b_TableGroup_multiply (fun σ => passAt (takes_of rfl rfl rfl rfl) σ) (pa_cons (pe_ix (ix_VK K rfl) (pv 1) (pv 6) (fun _ _ => rfl)) (pa_cons (pe_ix (ix_VK K rfl) (pv 1) (pv 7) (fun _ _ => rfl)) pa_nil))) (pa_cons (pe_methKS0 (pv 3) T.cls_TableGroup T.me_TableGroup_multiply G_TableGroup_multiply (hr.mono (by decide)) T.k_TableGroup_multiply_1_second_first (fun σ => passAt (takes_of rfl rfl rfl rfl) σ) (pk_cons (pe_ix (ix_VK K rfl) (pv 1) (pv 6) (fun _ _ => rfl)) (pk_cons (pe_ix (ix_VK K rfl) (pv 1) (pv 7) (fun _ _ => rfl)) pk_nil))) pa_nil))) (pa_cons (pe_tup (pa_cons (pv 8) (pa_cons (pv 8) pa_nil))) pa_nil))))) (pss_one (ps_ret pe_bl)) pss_nil)
      (pss_one (ps_if (pt_not (pt_val (pe_callS G__law_alike (hr.mono (by decide)) (by rfl) T.m__law_alike T.F__law_alike.kp T.b__law_alike (fun σ => passAt (takes_of rfl rfl rfl rfl) σ) (pa_cons (pe_methT (pv 3) T.cls_TableGroup T.me_TableGroup_inverse_of G_Group_inverse_of (hr.mono (by decide)) T.b_Group_inverse_of (fun σ => passAt (takes_of rfl rfl rfl rfl) σ) (pa_cons (pe_ix (ix_VK K rfl) (pv 1) (pv 6) (fun _ _ => rfl)) pa_nil)) (pa_cons (pe_ix (ix_VK K rfl) (pv 1) (pe_op op_modN (pe_callTy call_intV (by rfl) T.z_int (by decide +kernel) (pa_cons (pe_op op_sub pe_int (pv 6)) pa_nil)) (pv 4)) (fun _ _ => rfl)) pa_nil))))) (pss_one (ps_ret pe_bl)) pss_nil)))))))
      (pss_cons (ps_for (passes_of rfl) rfl (pi_seqV K rfl (pe_lst (pa_cons pe_int (pa_cons (pe_op op_sub (pv 4) pe_int) (pa_cons (pv 4) (pa_cons (pe_un un_neg pe_int) (pa_cons (pe_op op_pow pe_int pe_int) (pa_cons (pe_tup pa_nil) (pa_cons (pe_tup (pa_cons pe_int pa_nil)) (pa_cons pe_str (pa_cons pe_non pa_nil))))))))))) (pg_name (i := 9) scLmultiplies.nd rfl (Or.inl rfl)) (pss_one (ps_if (pt_not (pt_val (pe_callS G__law_alike (hr.mono (by decide)) (by rfl) T.m__law_alike T.F__law_alike.kp T.b__law_alike (fun σ => passAt (takes_of rfl rfl rfl rfl) σ) (pa_cons (pe_methT (pv 3) T.cls_TableGroup T.me_TableGroup_has G_Group_has (hr.mono (by decide)) T.b_Group_has (fun σ => passAt (takes_of rfl rfl rfl rfl) σ) (pa_cons (pv 9) pa_nil)) (pa_cons (pe_and (pe_callB (call_isiV K rfl) (by rfl) T.z_isinstance (by decide +kernel) (pa_cons (pv 9) (pa_cons (pe_bltn (v := .ty "int") (by rfl) T.z_int (by decide +kernel) rfl) pa_nil))) (pe_and (pe_cmpR op_le pe_int (pv 9) (nomark _)) (pe_one (pe_cmpR op_lt (pv 9) (pv 4) (nomark _))))) pa_nil))))) (pss_one (ps_ret pe_bl)) pss_nil)))
      (pss_one (ps_ret pe_bl))))))),
    _, run_one (run_assoc (run_set (i := 2) (pu_call1 (pu_var rfl)) rfl (wk_uns rfl) fun x2 => (run_assoc (run_set (i := 3) (pu_makeK (fun x r q => g_TableGroup___init___1_table_tl x r q) T.ce_TableGroup pl_nil (pl_cons (pu_var rfl) pl_nil)) rfl (wk_uns rfl) fun x8 => (run_assoc (run_set (i := 4) (pu_cb1 b1_len (Pur.vw (pu_var rfl))) rfl (wk_uns rfl) fun x9 => (run_assoc (run_seq (ρj := fun (s107 : List PV) => [(.rf 0 (.lst s107)), (.fz a_row), (.fz x2), (.fz x8), (.fz x9), .un, .un, .un, .un, .un]) (run_for (ρs := fun (s10 : List PV) => [(.rf 0 (.lst s10)), (.fz a_row), (.fz x2), (.fz x8), (.fz x9), .un, .un, .un, .un, .un]) (s0 := a_box) (ρe := fun (s10 : List PV) (a11 : PV) => [(.rf 0 (.lst s10)), (.fz a_row), (.fz x2), (.fz x8), (.fz x9), (.fz a11), .un, .un, .un, .un]) (it_rng1 (Pur.vw pu_int)) (.keep (.keep (.keep (.keep (.keep (.keep (.keep (.keep (.keep (.keep .nil)))))))))) (wk_uns rfl) (fun s10 => (tg_name (i := 5) rfl (Or.inl rfl))) (fun a11 s10 => run_one (run_assoc (run_setE (i := 6) (ρs := (fun (s104 : List PV) => [(.rf 0 (.lst s104)), (.fz a_row), (.fz x2), (.fz x8), (.fz x9), (.fz a11), .un, .un, .un, .un])) (s0 := s10) (ef_callR (i := 0) (sl := (fun (s12 : List PV) => (.rf 0 (.lst s12)))) (get := (fun (s12 : List PV) => MO.lst s12)) (put := (fun (s12 : List PV) (mo : MO) => moL mo >>= fun l => Res.val l)) (fun _ => rfl) (fun _ => Or.inr ⟨_, rfl⟩) (fun s mo s' h => by cases mo <;> first | (cases h; rfl) | cases h) (el_cons (ef_pure (W := (fun c d _ H' => E c d H')) fun s13 => (pu_var rfl)) el_nil)) rfl (fun _ => rfl) fun x22 s23 => (run_assoc (run_setE (i := 7) (ρs := (fun (s103 : List PV) => [(.rf 0 (.lst s103)), (.fz a_row), (.fz x2), (.fz x8), (.fz x9), (.fz a11), (.fz x22), .un, .un, .un])) (s0 := s23) (ef_callR (i := 0) (sl := (fun (s25 : List PV) => (.rf 0 (.lst s25)))) (get := (fun (s25 : List PV) => MO.lst s25)) (put := (fun (s25 : List PV) (mo : MO) => moL mo >>= fun l => Res.val l)) (fun _ => rfl) (fun _ => Or.inr ⟨_, rfl⟩) (fun s mo s' h => by cases mo <;> first | (cases h; rfl) | cases h) (el_cons (ef_pure (W := (fun c d _ H' => E c d H')) fun s26 => (pu_var rfl)) el_nil)) rfl (fun _ => rfl) fun x35 s36 => (run_assoc (run_set (i := 8) (pu_op o2_ix (Pur.vw (pu_var rfl)) (Pur.vw (pu_op o2_mod (Pur.vw (pu_cb1 b1_int (Pur.vw (pu_op o2_add (Pur.vw (pu_var rfl)) (Pur.vw (pu_var rfl)))))) (Pur.vw (pu_var rfl))))) rfl (wk_uns rfl) fun x44 => (run_assoc (run_if (ts_not (ts_val (Pur.vw (pu_call2 (pu_tup (pl_cons (pu_meth T.ce_TableGroup (pu_var rfl) (pl_cons (pu_op o2_ix (Pur.vw (pu_var rfl)) (Pur.vw (pu_var rfl))) (pl_cons (pu_op o2_ix (Pur.vw (pu_var rfl)) (Pur.vw (pu_var rfl))) pl_nil))) (pl_cons (pu_methK g_TableGroup_multiply_1_second_first_is T.ce_TableGroup (pu_var rfl) pl_nil (pl_cons (pu_op o2_ix (Pur.vw (pu_var rfl)) (Pur.vw (pu_var rfl))) (pl_cons (pu_op o2_ix (Pur.vw (pu_var rfl)) (Pur.vw (pu_var rfl))) pl_nil))) pl_nil))) (pu_tup (pl_cons (pu_var rfl) (pl_cons (pu_var rfl) pl_nil))))))) (wk_uns rfl) (run_ret pu_bl rfl rfl (wk_uns rfl)) (run_skip (run_if (ts_not (ts_val (Pur.vw (pu_call2 (pu_meth T.ce_TableGroup (pu_var rfl) (pl_cons (pu_op o2_ix (Pur.vw (pu_var rfl)) (Pur.vw (pu_var rfl))) pl_nil)) (pu_op o2_ix (Pur.vw (pu_var rfl)) (Pur.vw (pu_op o2_mod (Pur.vw (pu_cb1 b1_int (Pur.vw (pu_op o2_sub (Pur.vw pu_int) (Pur.vw (pu_var rfl)))))) (Pur.vw (pu_var rfl))))))))) (wk_uns rfl) (run_ret pu_bl rfl rfl (wk_uns rfl)) (run_skip (run_next (s := s36) (.keep (.keep (.keep (.keep (.keep (.drop (.drop (.drop (.drop (.keep .nil)))))))))))))))))))))))) fun s107 => (run_assoc (run_seq (ρj := fun (s154 : Unit) => [(.rf 0 (.lst s107)), (.fz a_row), (.fz x2), (.fz x8), (.fz x9), .un, .un, .un, .un, .un]) (run_for (ρs := fun (s132 : Unit) => [(.rf 0 (.lst s107)), (.fz a_row), (.fz x2), (.fz x8), (.fz x9), .un, .un, .un, .un, .un]) (s0 := ()) (ρe := fun (s132 : Unit) (a133 : PV) => [(.rf 0 (.lst s107)), (.fz a_row), (.fz x2), (.fz x8), (.fz x9), .un, .un, .un, .un, (.fz a133)]) (it_seq (pu_lst (pl_cons pu_int (pl_cons (pu_op o2_sub (Pur.vw (pu_var rfl)) (Pur.vw pu_int)) (pl_cons (pu_var rfl) (pl_cons (pu_un o1_neg (Pur.vw pu_int)) (pl_cons (pu_op o2_pow (Pur.vw pu_int) (Pur.vw pu_int)) (pl_cons (pu_tup pl_nil) (pl_cons (pu_tup (pl_cons pu_int pl_nil)) (pl_cons pu_str (pl_cons pu_non pl_nil))))))))))) (.keep (.keep (.keep (.keep (.keep (.keep (.keep (.keep (.keep (.keep .nil)))))))))) (wk_uns rfl) (fun s132 => (tg_name (i := 9) rfl (Or.inl rfl))) (fun a133 s132 => run_one (run_if (ts_not (ts_val (Pur.vw (pu_call2 (pu_meth T.ce_TableGroup (pu_var rfl) (pl_cons (pu_var rfl) pl_nil)) (pu_andV (Pur.vw (pu_cb2 b2_isi (Pur.vw (pu_var rfl)) (Pur.vw pu_ty))) (pu_andV (Pur.vw (pu_op o2_le (Pur.vw pu_int) (Pur.vw (pu_var rfl)))) (pu_op o2_lt (Pur.vw (pu_var rfl)) (Pur.vw (pu_var rfl))))))))) (wk_uns rfl) (run_ret pu_bl rfl rfl (wk_uns rfl)) (run_skip (run_next (s := ()) (.keep (.keep (.keep (.keep (.keep (.keep (.keep (.keep (.keep (.drop .nil))))))))))))))) fun s154 => (run_ret pu_bl rfl rfl (wk_uns rfl)))))))))))), rfl⟩
def m__law_longer (a_square a_lines : PV) : Res PV := retF (((Res.val []) >>= mkN) >>= fun l1 => (seqF (S1 := List PV) (((Res.val a_lines) >>= asSq) >>= fun ps24 => forF (fun (x25 : PV) (s2 : List PV) => (fun x => Res.val x) x25 >>= fun (a3 : PV) => (((((((Res.val (PV.int 1)) >>= fun x4 => (Res.val (PV.int 5)) >>= fun x5 => rng2 x4 x5) >>= fun ps16 => sized ps16.length >>= fun _ => lcF (fun x => Res.val x) (fun (a6 : PV) => (Res.val true)) (fun (a6 : PV) => (((Res.val a3) >>= fun x7 => (Res.val a6) >>= fun x8 => ixP x7 x8) >>= fun x14 => ((((Res.val a_square) >>= asSq) >>= fun ps12 => sized ps12.length >>= fun _ => lcF (fun x => Res.val x) (fun (a9 : PV) => (Res.val true)) (fun (a9 : PV) => ((Res.val a9) >>= fun x10 => (Res.val a6) >>= fun x11 => ixP x10 x11)) ps12) >>= fun ps13 => Res.val (PV.lst ps13)) >>= fun x15 => (inP true) x14 x15)) ps16) >>= fun ps17 => Res.val (PV.lst ps17)) >>= allP) >>= asB) >>= fun b18 => if b18 = true then (((Res.val a_square) >>= fun x21 => (((Res.val a3) >>= fun x19 => (Res.val []) >>= fun xs20 => Res.val (x19 :: xs20)) >>= mkT) >>= fun x22 => addP x21 x22) >>= fun x23 => sized (s2.length + 1) >>= fun _ => (Res.val (.nx (s2 ++ [x23])))) else (Res.val (.nx s2)))) ps24 l1) fun s26 => (((Res.val (PV.lst s26)) >>= tupleP) >>= fun v27 => Res.val (.rt v27 []))))
theorem ok__law_longer (T : Top P K mg) : FnOk P w K mg base (L2.CX P w) 1 T.f__law_longer T.d__law_longer ["square", "lines"] (spP K (clT T) (ap2 m__law_longer)) := by
  refine fnP T.F__law_longer scLlonger rfl takn2 fun cdv A outer s H E hr qs hq => ?_
  match qs, hq with
  | [a_square, a_lines], _ => exact ⟨_, (pss_cons (ps_set (i := 2) scLlonger.nd rfl (Or.inl rfl) (pe_lst pa_nil))
      (pss_cons (ps_for (passes_of rfl) rfl (pi_seqV K rfl (pv 1)) (pg_name (i := 3) scLlonger.nd rfl (Or.inr rfl)) (pss_one (ps_if (pt_val (pe_callB (cr_allV K rfl rfl) (by rfl) T.z_all (by decide +kernel) (pa_cons (pe_lc (own := [("k", 4)]) (g := gName 4) (tt := tYes) rfl scLlonger.nd (pi_range2 (by rfl) T.z_range (pa_cons pe_int (pa_cons pe_int pa_nil))) (blkOk_by (own := [("k", 4)]) (N := ["square", "lines", "found", "line", "k", "other"]) (sc := defScope s_Llonger) (by decide +kernel)) (fun _ _ _ _ _ => (pg_name (i := 4) scLlonger.nd rfl (Or.inr rfl))) (fun _ _ _ _ _ => pts_nil) (fun _ _ _ _ _ => (pe_cmpR (op_notInV K rfl) (pe_ix (ix_VK K rfl) (pv 3) (pv 4) (fun _ _ => rfl)) (pe_lc (own := [("other", 5)]) (g := gName 5) (tt := tYes) rfl scLlonger.nd (pi_seqV K rfl (pv 0)) (blkOk_by (own := [("other", 5)]) (N := ["square", "lines", "found", "line", "k", "other"]) (sc := relS _ (defScope s_Llonger)) (by decide +kernel)) (fun _ _ _ _ _ => (pg_name (i := 5) scLlonger.nd rfl (Or.inl rfl))) (fun _ _ _ _ _ => pts_nil) (fun _ _ _ _ _ => (pe_ix (ix_VK K rfl) (pv 5) (pv 4) (fun _ _ => rfl)))) (by rfl)))) pa_nil))) (pss_one (ps_expr (pe_bm PySem.F.plainAttrs_list PySem.F.slot_list_append PySem.F.type_list_append mt_append (pv 2) (pa_cons (pe_op (op_addV K rfl) (pv 0) (pe_tup (pa_cons (pv 3) pa_nil))) pa_nil)))) pss_nil)))
      (pss_one (ps_ret (pe_callTy (call_tupleV K rfl) (by rfl) T.z_tuple (by decide +kernel) (pa_cons (pv 2) pa_nil)))))),
    _, run_one (run_assoc (run_setow (i := 2) (nw_lst pl_nil) rfl (wk_uns rfl) fun l1 => (run_assoc (run_seq (ρj := fun (s26 : List PV) => [(.fz a_square), (.fz a_lines), (.ow (.lst s26)), .un, .un, .un]) (run_for (ρs := fun (s2 : List PV) => [(.fz a_square), (.fz a_lines), (.ow (.lst s2)), .un, .un, .un]) (s0 := l1) (ρe := fun (s2 : List PV) (a3 : PV) => [(.fz a_square), (.fz a_lines), (.ow (.lst s2)), (.fz a3), .un, .un]) (it_seq (pu_var rfl)) (.keep (.keep (.keep (.keep (.keep (.keep .nil)))))) (wk_uns rfl) (fun s2 => (tg_name (i := 3) rfl (Or.inl rfl))) (fun a3 s2 => run_one (run_if (ts_val (Pur.vw (pu_cb1 b1_all (Pur.vw (New.pur (nw_lc (ρe := fun (a6 : PV) => [(.fz a_square), (.fz a_lines), (.ow (.lst s2)), (.fz a3), (.fz a6), .un]) (Iter.view (it_rng2 (Pur.vw pu_int) (Pur.vw pu_int))) rfl (by decide) (tg_name (i := 4) rfl (Or.inr (by decide))) (fun a6 => ts_yes) (fun a6 => (pu_op o2_in (Pur.vw (pu_op o2_ix (Pur.vw (pu_var rfl)) (Pur.vw (pu_var rfl)))) (Pur.vw (New.pur (nw_lc (ρe := fun (a9 : PV) => [(.fz a_square), (.fz a_lines), (.ow (.lst s2)), (.fz a3), (.fz a6), (.fz a9)]) (Iter.view (it_seq (pu_var rfl))) rfl (by decide) (tg_name (i := 5) rfl (Or.inr (by decide))) (fun a9 => ts_yes) (fun a9 => (pu_op o2_ix (Pur.vw (pu_var rfl)) (Pur.vw (pu_var rfl))))))))))))))) (wk_uns rfl) (run_append (i := 2) rfl (Or.inl rfl) (pu_op o2_add (Pur.vw (pu_var rfl)) (Pur.vw (pu_tup (pl_cons (pu_var rfl) pl_nil)))) (wk_uns rfl) fun x23 => (run_next (s := (s2 ++ [x23])) (.keep (.keep (.keep (.drop (.keep (.keep .nil)))))))) (run_skip (run_next (s := s2) (.keep (.keep (.keep (.drop (.keep (.keep .nil))))))))))) fun s26 => (run_ret (pu_cb1 b1_tuple (vw_own rfl)) rfl rfl (wk_uns rfl)))))), rfl⟩
def m__law_loop (mo : MO) : Res (PV × MO) := match mo with
  | .lst a_box => retR (((((Res.val []) >>= mkT) >>= fun x1 => (Res.val []) >>= fun xs2 => Res.val (x1 :: xs2)) >>= mkL) >>= fun x3 => (seqF (S1 := PV) (((Res.val (PV.int 5)) >>= rng1) >>= fun ps25 => forF (fun (x26 : PV) (s4 : PV) => (fun x => Res.val x) x26 >>= fun (a5 : PV) => (((Res.val []) >>= mkL) >>= fun x6 => (seqF (S1 := PV) (((Res.val s4) >>= asSq) >>= fun ps21 => forF (fun (x22 : PV) (s7 : PV) => (fun x => Res.val x) x22 >>= fun (a8 : PV) => (((Res.val s7) >>= fun x18 => ((((Res.val (PV.int 5)) >>= rng1) >>= fun ps16 => sized ps16.length >>= fun _ => lcF (fun x => Res.val x) (fun (a9 : PV) => (((Res.val a9) >>= fun x10 => (Res.val a8) >>= fun x11 => (inP true) x10 x11) >>= asB)) (fun (a9 : PV) => ((Res.val a8) >>= fun x14 => (((Res.val a9) >>= fun x12 => (Res.val []) >>= fun xs13 => Res.val (x12 :: xs13)) >>= mkT) >>= fun x15 => addP x14 x15)) ps16) >>= fun ps17 => Res.val (PV.lst ps17)) >>= fun x19 => addP x18 x19) >>= fun x20 => (Res.val (.nx x20)))) ps21 x6) fun s23 => (((Res.val s23) >>= tupleP) >>= fun x24 => (Res.val (.nx x24)))))) ps25 x3) fun s27 => ((((((((Res.val (PV.int 0)) >>= fun x36 => ((Res.val (PV.int 1)) >>= fun x34 => ((Res.val (PV.int 2)) >>= fun x32 => ((Res.val (PV.int 3)) >>= fun x30 => ((Res.val (PV.int 4)) >>= fun x28 => (Res.val []) >>= fun xs29 => Res.val (x28 :: xs29)) >>= fun xs31 => Res.val (x30 :: xs31)) >>= fun xs33 => Res.val (x32 :: xs33)) >>= fun xs35 => Res.val (x34 :: xs35)) >>= fun xs37 => Res.val (x36 :: xs37)) >>= mkT) >>= fun x38 => (Res.val []) >>= fun xs39 => Res.val (x38 :: xs39)) >>= mkT) >>= fun x40 => (Res.val []) >>= fun xs41 => Res.val (x40 :: xs41)) >>= mkT) >>= fun x42 => (seqF (S1 := PV) (((Res.val (PV.int 1)) >>= fun x43 => (Res.val (PV.int 5)) >>= fun x44 => rng2 x43 x44) >>= fun ps66 => forF (fun (x67 : PV) (s45 : PV) => (fun x => Res.val x) x67 >>= fun (a46 : PV) => (((Res.val []) >>= mkT) >>= fun x47 => (seqF (S1 := PV) (((Res.val s45) >>= asSq) >>= fun ps62 => forF (fun (x63 : PV) (s48 : PV) => (fun x => Res.val x) x63 >>= fun (a49 : PV) => (((Res.val s48) >>= fun x59 => ((Res.val a49) >>= fun x57 => ((((Res.val s27) >>= asSq) >>= fun ps55 => sized ps55.length >>= fun _ => lcF (fun x => Res.val x) (fun (a50 : PV) => ((((Res.val a50) >>= fun x51 => (Res.val (PV.int 0)) >>= fun x52 => ixP x51 x52) >>= fun x53 => (Res.val a46) >>= fun x54 => eqP x53 x54) >>= asB)) (fun (a50 : PV) => (Res.val a50)) ps55) >>= fun ps56 => Res.val (PV.lst ps56)) >>= fun x58 => m__law_longer x57 x58) >>= fun x60 => addP x59 x60) >>= fun x61 => (Res.val (.nx x61)))) ps62 x47) fun s64 => ((Res.val s64) >>= fun x65 => (Res.val (.nx x65)))))) ps66 x42) fun s68 => (noX ((fun (s69 : List PV) => (fun (s70 : List PV) => noX (Res.val s68) >>= fun v71 => Res.val (v71, s70)) s69 >>= fun x82 => (fun (s72 : List PV) => (fun (s76 : List PV) => (fun (s73 : List PV) => noX ((Res.val s68) >>= lenP) >>= fun v74 => Res.val (v74, s73)) s76 >>= fun x77 => (fun (s75 : List PV) => Res.val (([] : List PV), s75)) x77.2 >>= fun xs78 => Res.val (x77.1 :: xs78.1, xs78.2)) s72 >>= fun x79 => (apR1 m__law_draw) (MO.lst x79.2) x79.1 >>= fun r80 => ((fun (s72 : List PV) (mo : MO) => moL mo >>= fun l => Res.val l) x79.2 r80.2) >>= fun s81 => Res.val (r80.1, s81)) x82.2 >>= fun x83 => noX (ixP x82.1 x83.1) >>= fun z84 => Res.val (z84, x83.2)) a_box) >>= fun r85 => Res.val (.rt r85.1 ((fun (s86 : List PV) => [.lst s86]) r85.2)))))))
  | _ => .stuck
theorem ok__law_loop (T : Top P K mg) : FnOk P w K mg base (L2.CX P w) 3 T.f__law_loop T.d__law_loop ["box"] (spR K (clT T) (apR0 m__law_loop)) := by
  have G__law_draw := ok__law_draw (P := P) (w := w) (base := base) T
  have G__law_longer := ok__law_longer (P := P) (w := w) (base := base) T
  refine fnR T.F__law_loop scLloop rfl taknR0 fun cdv A outer s H E hr mo qs hq => ?_
  match mo, qs, hq with
  | .dct _, [], _ => exact .inl rfl
  | .ob _ _, [], _ => exact .inl rfl
  | .lst a_box, [], _ => exact .inr ⟨_, (pss_cons (ps_set (i := 1) scLloop.nd rfl (Or.inl rfl) (pe_lst (pa_cons (pe_tup pa_nil) pa_nil)))
      (pss_cons (ps_for (passes_of rfl) rfl (pi_range1 (by rfl) T.z_range (pa_cons pe_int pa_nil)) (pg_name (i := 2) scLloop.nd rfl (Or.inl rfl)) (pss_cons (ps_set (i := 3) scLloop.nd rfl (Or.inl rfl) (pe_lst pa_nil))
      (pss_cons (ps_for (passes_of rfl) rfl (pi_seqV K rfl (pv 1)) (pg_name (i := 4) scLloop.nd rfl (Or.inr rfl)) (pss_one (ps_set (i := 3) scLloop.nd rfl (Or.inl rfl) (pe_op (op_addV K rfl) (pv 3) (pe_lc (own := [("part", 5)]) (g := gName 5)  rfl scLloop.nd (pi_range1 (by rfl) T.z_range (pa_cons pe_int pa_nil)) (blkOk_by (own := [("part", 5)]) (N := ["box", "lines", "place", "wider", "line", "part", "squares", "a", "found", "square"]) (sc := defScope s_Lloop) (by decide +kernel)) (fun _ _ _ _ _ => (pg_name (i := 5) scLloop.nd rfl (Or.inl rfl))) (fun _ _ _ _ _ => (pts_one (pt_cmpR (op_notInV K rfl) (pv 5) (pv 4) (by rfl)))) (fun _ _ _ _ _ => (pe_op (op_addV K rfl) (pv 4) (pe_tup (pa_cons (pv 5) pa_nil)))))))))
      (pss_one (ps_set (i := 1) scLloop.nd rfl (Or.inl rfl) (pe_callTy (call_tupleV K rfl) (by rfl) T.z_tuple (by decide +kernel) (pa_cons (pv 3) pa_nil)))))))
      (pss_cons (ps_set (i := 6) scLloop.nd rfl (Or.inl rfl) (pe_tup (pa_cons (pe_tup (pa_cons (pe_tup (pa_cons pe_int (pa_cons pe_int (pa_cons pe_int (pa_cons pe_int (pa_cons pe_int pa_nil)))))) pa_nil)) pa_nil)))
      (pss_cons (ps_for (passes_of rfl) rfl (pi_range2 (by rfl) T.z_range (pa_cons pe_int (pa_cons pe_int pa_nil))) (pg_name (i := 7) scLloop.nd rfl (Or.inr rfl)) (pss_cons (ps_set (i := 8) scLloop.nd rfl (Or.inl rfl) (pe_tup pa_nil))
      (pss_cons (ps_for (passes_of rfl) rfl (pi_seqV K rfl (pv 6)) (pg_name (i := 9) scLloop.nd rfl (Or.inl rfl)) (pss_one (ps_set (i := 8) scLloop.nd rfl (Or.inl rfl) (pe_op (op_addV K rfl) (pv 8) (pe_callS G__law_longer (hr.mono (by decide)) (by rfl) T.m__law_longer T.F__law_longer.kp T.b__law_longer (fun σ => passAt (takes_of rfl rfl rfl rfl) σ) (pa_cons (pv 9) (pa_cons (pe_lc (own := [("line", 4)]) (g := gName 4)  rfl scLloop.nd (pi_seqV K rfl (pv 1)) (blkOk_by (own := [("line", 4)]) (N := ["box", "lines", "place", "wider", "line", "part", "squares", "a", "found", "square"]) (sc := defScope s_Lloop) (by decide +kernel)) (fun _ _ _ _ _ => (pg_name (i := 4) scLloop.nd rfl (Or.inl rfl))) (fun _ _ _ _ _ => (pts_one (pt_cmpR (op_eqV K rfl hr.units) (pe_ix (ix_VK K rfl) (pv 4) pe_int (fun _ _ => rfl)) (pv 7) (nomark _)))) (fun _ _ _ _ _ => (pv 4))) pa_nil)))))))
      (pss_one (ps_set (i := 6) scLloop.nd rfl (Or.inl rfl) (pv 8))))))
      (pss_one (ps_ret (pe_ix (ix_VK K rfl) (pv 6) (pe_callS G__law_draw (hr.mono (by decide)) (by rfl) T.m__law_draw T.F__law_draw.kp T.b__law_draw (fun σ => passAt (takes_of rfl rfl rfl rfl) σ) (pa_cons (pv 0) (pa_cons (pe_callB (call_lenVK K rfl) (by rfl) T.z_len PySem.boot_len (pa_cons (pv 6) pa_nil)) pa_nil))) (fun _ _ => rfl)))))))),
    _, run_one (run_assoc (run_set (i := 1) (pu_lst (pl_cons (pu_tup pl_nil) pl_nil)) rfl (wk_uns rfl) fun x3 => (run_assoc (run_seq (ρj := fun (s27 : PV) => [(.rf 0 (.lst a_box)), (.fz s27), .un, .un, .un, .un, .un, .un, .un, .un]) (run_for (ρs := fun (s4 : PV) => [(.rf 0 (.lst a_box)), (.fz s4), .un, .un, .un, .un, .un, .un, .un, .un]) (s0 := x3) (ρe := fun (s4 : PV) (a5 : PV) => [(.rf 0 (.lst a_box)), (.fz s4), (.fz a5), .un, .un, .un, .un, .un, .un, .un]) (it_rng1 (Pur.vw pu_int)) (.keep (.keep (.keep (.keep (.keep (.keep (.keep (.keep (.keep (.keep .nil)))))))))) (wk_uns rfl) (fun s4 => (tg_name (i := 2) rfl (Or.inl rfl))) (fun a5 s4 => run_one (run_assoc (run_set (i := 3) (pu_lst pl_nil) rfl (wk_uns rfl) fun x6 => (run_assoc (run_seq (ρj := fun (s23 : PV) => [(.rf 0 (.lst a_box)), (.fz s4), (.fz a5), (.fz s23), .un, .un, .un, .un, .un, .un]) (run_for (ρs := fun (s7 : PV) => [(.rf 0 (.lst a_box)), (.fz s4), (.fz a5), (.fz s7), .un, .un, .un, .un, .un, .un]) (s0 := x6) (ρe := fun (s7 : PV) (a8 : PV) => [(.rf 0 (.lst a_box)), (.fz s4), (.fz a5), (.fz s7), (.fz a8), .un, .un, .un, .un, .un]) (it_seq (pu_var rfl)) (.keep (.keep (.keep (.keep (.keep (.keep (.keep (.keep (.keep (.keep .nil)))))))))) (wk_uns rfl) (fun s7 => (tg_name (i := 4) rfl (Or.inl rfl))) (fun a8 s7 => run_one (run_set (i := 3) (pu_op o2_add (Pur.vw (pu_var rfl)) (Pur.vw (New.pur (nw_lc (ρe := fun (a9 : PV) => [(.rf 0 (.lst a_box)), (.fz s4), (.fz a5), (.fz s7), (.fz a8), (.fz a9), .un, .un, .un, .un]) (Iter.view (it_rng1 (Pur.vw pu_int))) rfl (by decide) (tg_name (i := 5) rfl (Or.inr (by decide))) (fun a9 => (ts_cmp (Pur.vw (pu_op o2_in (Pur.vw (pu_var rfl)) (Pur.vw (pu_var rfl)))))) (fun a9 => (pu_op o2_add (Pur.vw (pu_var rfl)) (Pur.vw (pu_tup (pl_cons (pu_var rfl) pl_nil))))))))) rfl (wk_uns rfl) fun x20 => (run_next (s := x20) (.keep (.keep (.keep (.keep (.drop (.keep (.keep (.keep (.keep (.keep .nil)))))))))))))) fun s23 => (run_set (i := 1) (pu_cb1 b1_tuple (Pur.vw (pu_var rfl))) rfl (wk_uns rfl) fun x24 => (run_next (s := x24) (.keep (.keep (.drop (.drop (.keep (.keep (.keep (.keep (.keep (.keep .nil)))))))))))))))))) fun s27 => (run_assoc (run_set (i := 6) (pu_tup (pl_cons (pu_tup (pl_cons (pu_tup (pl_cons pu_int (pl_cons pu_int (pl_cons pu_int (pl_cons pu_int (pl_cons pu_int pl_nil)))))) pl_nil)) pl_nil)) rfl (wk_uns rfl) fun x42 => (run_assoc (run_seq (ρj := fun (s68 : PV) => [(.rf 0 (.lst a_box)), (.fz s27), .un, .un, .un, .un, (.fz s68), .un, .un, .un]) (run_for (ρs := fun (s45 : PV) => [(.rf 0 (.lst a_box)), (.fz s27), .un, .un, .un, .un, (.fz s45), .un, .un, .un]) (s0 := x42) (ρe := fun (s45 : PV) (a46 : PV) => [(.rf 0 (.lst a_box)), (.fz s27), .un, .un, .un, .un, (.fz s45), (.fz a46), .un, .un]) (it_rng2 (Pur.vw pu_int) (Pur.vw pu_int)) (.keep (.keep (.keep (.keep (.keep (.keep (.keep (.keep (.keep (.keep .nil)))))))))) (wk_uns rfl) (fun s45 => (tg_name (i := 7) rfl (Or.inl rfl))) (fun a46 s45 => run_one (run_assoc (run_set (i := 8) (pu_tup pl_nil) rfl (wk_uns rfl) fun x47 => (run_assoc (run_seq (ρj := fun (s64 : PV) => [(.rf 0 (.lst a_box)), (.fz s27), .un, .un, .un, .un, (.fz s45), (.fz a46), (.fz s64), .un]) (run_for (ρs := fun (s48 : PV) => [(.rf 0 (.lst a_box)), (.fz s27), .un, .un, .un, .un, (.fz s45), (.fz a46), (.fz s48), .un]) (s0 := x47) (ρe := fun (s48 : PV) (a49 : PV) => [(.rf 0 (.lst a_box)), (.fz s27), .un, .un, .un, .un, (.fz s45), (.fz a46), (.fz s48), (.fz a49)]) (it_seq (pu_var rfl)) (.keep (.keep (.keep (.keep (.keep (.keep (.keep (.keep (.keep (.keep .nil)))))))))) (wk_uns rfl) (fun s48 => (tg_name (i := 9) rfl (Or.inl rfl))) (fun a49 s48 => run_one (run_set (i := 8) (pu_op o2_add (Pur.vw (pu_var rfl)) (Pur.vw (pu_call2 (pu_var rfl) (New.pur (nw_lc (ρe := fun (a50 : PV) => [(.rf 0 (.lst a_box)), (.fz s27), .un, .un, (.fz a50), .un, (.fz s45), (.fz a46), (.fz s48), (.fz a49)]) (Iter.view (it_seq (pu_var rfl))) rfl (by decide) (tg_name (i := 4) rfl (Or.inr (by decide))) (fun a50 => (ts_cmp (Pur.vw (pu_op o2_eq (Pur.vw (pu_op o2_ix (Pur.vw (pu_var rfl)) (Pur.vw pu_int))) (Pur.vw (pu_var rfl)))))) (fun a50 => (pu_var rfl))))))) rfl (wk_uns rfl) fun x61 => (run_next (s := x61) (.keep (.keep (.keep (.keep (.keep (.keep (.keep (.keep (.keep (.drop .nil)))))))))))))) fun s64 => (run_set (i := 6) (pu_var rfl) rfl (wk_uns rfl) fun x65 => (run_next (s := x65) (.keep (.keep (.keep (.keep (.keep (.keep (.keep (.drop (.drop (.keep .nil)))))))))))))))))) fun s68 => (run_retE (ρs := (fun (s87 : List PV) => [(.rf 0 (.lst s87)), (.fz s27), .un, .un, .un, .un, (.fz s68), .un, .un, .un])) (s0 := a_box) (r := fun (s86 : List PV) => [.lst s86]) (ef_op o2_ix (ef_pure (W := (fun c d _ H' => E c d H')) fun s70 => (pu_var rfl)) (ef_callR (i := 0) (sl := (fun (s72 : List PV) => (.rf 0 (.lst s72)))) (get := (fun (s72 : List PV) => MO.lst s72)) (put := (fun (s72 : List PV) (mo : MO) => moL mo >>= fun l => Res.val l)) (fun _ => rfl) (fun _ => Or.inr ⟨_, rfl⟩) (fun s mo s' h => by cases mo <;> first | (cases h; rfl) | cases h) (el_cons (ef_pure (W := (fun c d _ H' => E c d H')) fun s73 => (pu_cb1 b1_len (Pur.vw (pu_var rfl)))) el_nil))) rfl (fun _ => rfl) (fun _ => rfl)))))))))), rfl⟩
def m_law (ns : List Int) : Res PV := retF ((((Res.val (PV.fls (List.map PV.int ns))) >>= fun x3 => ((Res.val (PV.int 0)) >>= fun x1 => (Res.val []) >>= fun xs2 => Res.val (x1 :: xs2)) >>= fun xs4 => Res.val (x3 :: xs4)) >>= fun ps5 => noX (apN2 m__law_box ps5) >>= moL) >>= fun l6 => ((((Res.val (PV.fls (List.map PV.int ns))) >>= fun x9 => ((Res.val (PV.int 1)) >>= fun x7 => (Res.val []) >>= fun xs8 => Res.val (x7 :: xs8)) >>= fun xs10 => Res.val (x9 :: xs10)) >>= fun ps11 => noX (apN2 m__law_box ps11) >>= moL) >>= fun l12 => (noX ((fun (s13 : List PV) => (fun (s30 : List PV) => (fun (s14 : List PV) => (fun (s23 : List PV) => (fun (s15 : List PV) => noX (Res.val (PV.int 3)) >>= fun v16 => Res.val (v16, s15)) s23 >>= fun x24 => (fun (s20 : List PV) => (fun (s17 : List PV) => noX (Res.val (PV.int 13)) >>= fun v18 => Res.val (v18, s17)) s20 >>= fun x21 => (fun (s19 : List PV) => Res.val (([] : List PV), s19)) x21.2 >>= fun xs22 => Res.val (x21.1 :: xs22.1, xs22.2)) x24.2 >>= fun xs25 => Res.val (x24.1 :: xs25.1, xs25.2)) s14 >>= fun x26 => (apR2 m__law_prime) (MO.lst x26.2) x26.1 >>= fun r27 => ((fun (s14 : List PV) (mo : MO) => moL mo >>= fun l => Res.val l) x26.2 r27.2) >>= fun s28 => Res.val (r27.1, s28)) s30 >>= fun x31 => (fun (s29 : List PV) => Res.val (([] : List PV), s29)) x31.2 >>= fun xs32 => Res.val (x31.1 :: xs32.1, xs32.2)) s13 >>= fun x33 => (apR1 m__law_order) (MO.lst x33.2) x33.1 >>= fun r34 => ((fun (s13 : List PV) (mo : MO) => moL mo >>= fun l => Res.val l) x33.2 r34.2) >>= fun s35 => Res.val (r34.1, s35)) l6) >>= fun r38 => (fun (x36 : PV) (s37 : List PV) => (noX ((fun (s64 : List PV) => (fun (s58 : List PV) => noX (((((Res.val x36) >>= m__law_table) >>= m__law_right) >>= asB) >>= fun b63 => Res.val (!b63)) >>= fun b60 => Res.val (b60, s58)) s64 >>= fun b65 => if b65.1 = true then Res.val (true, b65.2) else (fun (s42 : List PV) => (fun (s45 : List PV) => (fun (s48 : List PV) => (fun (s52 : List PV) => (fun (s49 : List PV) => noX (Res.val x36) >>= fun v50 => Res.val (v50, s49)) s52 >>= fun x53 => (fun (s51 : List PV) => Res.val (([] : List PV), s51)) x53.2 >>= fun xs54 => Res.val (x53.1 :: xs54.1, xs54.2)) s48 >>= fun x55 => (apR1 m__law_multiplies) (MO.lst x55.2) x55.1 >>= fun r56 => ((fun (s48 : List PV) (mo : MO) => moL mo >>= fun l => Res.val l) x55.2 r56.2) >>= fun s57 => Res.val (r56.1, s57)) s45 >>= fun x46 => asB x46.1 >>= fun b47 => Res.val (b47, x46.2)) s42 >>= fun x43 => Res.val (!x43.1, x43.2)) b65.2) s37) >>= fun b66 => if b66.1 = true then (fun (s67 : List PV) => ((Res.val (PV.bl false)) >>= fun v69 => Res.val (.rt v69 []))) b66.2 else (fun (s67 : List PV) => (noX ((fun (s70 : List PV) => (fun (s73 : List PV) => (fun (s76 : List PV) => (fun (s102 : List PV) => (fun (s77 : List PV) => (fun (s78 : List PV) => (fun (s82 : List PV) => (fun (s79 : List PV) => noX (Res.val x36) >>= fun v80 => Res.val (v80, s79)) s82 >>= fun x83 => (fun (s81 : List PV) => Res.val (([] : List PV), s81)) x83.2 >>= fun xs84 => Res.val (x83.1 :: xs84.1, xs84.2)) s78 >>= fun x85 => (apR1 m__law_alone) (MO.lst x85.2) x85.1 >>= fun r86 => ((fun (s78 : List PV) (mo : MO) => moL mo >>= fun l => Res.val l) x85.2 r86.2) >>= fun s87 => Res.val (r86.1, s87)) s77 >>= fun x98 => (fun (s88 : List PV) => (fun (s92 : List PV) => (fun (s89 : List PV) => noX (Res.val (PV.int 3)) >>= fun v90 => Res.val (v90, s89)) s92 >>= fun x93 => (fun (s91 : List PV) => Res.val (([] : List PV), s91)) x93.2 >>= fun xs94 => Res.val (x93.1 :: xs94.1, xs94.2)) s88 >>= fun x95 => (apR1 m__law_draw) (MO.lst x95.2) x95.1 >>= fun r96 => ((fun (s88 : List PV) (mo : MO) => moL mo >>= fun l => Res.val l) x95.2 r96.2) >>= fun s97 => Res.val (r96.1, s97)) x98.2 >>= fun x99 => noX (ixP x98.1 x99.1) >>= fun z100 => Res.val (z100, x99.2)) s102 >>= fun x103 => (fun (s101 : List PV) => Res.val (([] : List PV), s101)) x103.2 >>= fun xs104 => Res.val (x103.1 :: xs104.1, xs104.2)) s76 >>= fun x105 => noX (ap1 m__law_right x105.1) >>= fun z106 => Res.val (z106, x105.2)) s73 >>= fun x74 => asB x74.1 >>= fun b75 => Res.val (b75, x74.2)) s70 >>= fun x71 => Res.val (!x71.1, x71.2)) l12) >>= fun b107 => if b107.1 = true then (fun (s108 : List PV) => ((Res.val (PV.bl false)) >>= fun v110 => Res.val (.rt v110 []))) b107.2 else (fun (s108 : List PV) => (noX ((fun (s111 : List PV) => (fun (s135 : List PV) => (fun (s112 : List PV) => (fun (s113 : List PV) => noX (((Res.val (PV.int 3)) >>= fun x118 => ((Res.val (PV.int 5)) >>= fun x116 => ((Res.val (PV.int 7)) >>= fun x114 => (Res.val []) >>= fun xs115 => Res.val (x114 :: xs115)) >>= fun xs117 => Res.val (x116 :: xs117)) >>= fun xs119 => Res.val (x118 :: xs119)) >>= mkL) >>= fun v120 => Res.val (v120, s113)) s112 >>= fun x131 => (fun (s121 : List PV) => (fun (s125 : List PV) => (fun (s122 : List PV) => noX (Res.val (PV.int 3)) >>= fun v123 => Res.val (v123, s122)) s125 >>= fun x126 => (fun (s124 : List PV) => Res.val (([] : List PV), s124)) x126.2 >>= fun xs127 => Res.val (x126.1 :: xs127.1, xs127.2)) s121 >>= fun x128 => (apR1 m__law_draw) (MO.lst x128.2) x128.1 >>= fun r129 => ((fun (s121 : List PV) (mo : MO) => moL mo >>= fun l => Res.val l) x128.2 r129.2) >>= fun s130 => Res.val (r129.1, s130)) x131.2 >>= fun x132 => noX (ixP x131.1 x132.1) >>= fun z133 => Res.val (z133, x132.2)) s135 >>= fun x136 => (fun (s134 : List PV) => Res.val (([] : List PV), s134)) x136.2 >>= fun xs137 => Res.val (x136.1 :: xs137.1, xs137.2)) s111 >>= fun x138 => (apR1 m__law_order) (MO.lst x138.2) x138.1 >>= fun r139 => ((fun (s111 : List PV) (mo : MO) => moL mo >>= fun l => Res.val l) x138.2 r139.2) >>= fun s140 => Res.val (r139.1, s140)) s108) >>= fun r143 => (fun (x141 : PV) (s142 : List PV) => (seqF (S1 := List PV) (noX ((fun (s144 : List PV) => (fun (s147 : List PV) => (fun (s151 : List PV) => (fun (s148 : List PV) => noX (Res.val x141) >>= fun v149 => Res.val (v149, s148)) s151 >>= fun x152 => (fun (s150 : List PV) => Res.val (([] : List PV), s150)) x152.2 >>= fun xs153 => Res.val (x152.1 :: xs153.1, xs153.2)) s147 >>= fun x154 => (apR1 m__law_alone) (MO.lst x154.2) x154.1 >>= fun r155 => ((fun (s147 : List PV) (mo : MO) => moL mo >>= fun l => Res.val l) x154.2 r155.2) >>= fun s156 => Res.val (r155.1, s156)) s144 >>= fun x145 => asSq x145.1 >>= fun z146 => Res.val (z146, x145.2)) s142) >>= fun r166 => forF (fun (x165 : PV) (s158 : List PV) => (fun x => Res.val x) x165 >>= fun (a159 : PV) => (((((Res.val a159) >>= m__law_right) >>= asB) >>= fun b161 => Res.val (!b161)) >>= fun b162 => if b162 = true then ((Res.val (PV.bl false)) >>= fun v163 => Res.val (.rt v163 [])) else (Res.val (.nx s158)))) r166.1 ((fun (s157 : List PV) => s157) r166.2)) fun s168 => (noX ((fun (s229 : List PV) => (fun (s210 : List PV) => (fun (s213 : List PV) => (fun (s214 : List PV) => (fun (s218 : List PV) => (fun (s215 : List PV) => noX (Res.val (PV.int 3)) >>= fun v216 => Res.val (v216, s215)) s218 >>= fun x219 => (fun (s217 : List PV) => Res.val (([] : List PV), s217)) x219.2 >>= fun xs220 => Res.val (x219.1 :: xs220.1, xs220.2)) s214 >>= fun x221 => (apR1 m__law_draw) (MO.lst x221.2) x221.1 >>= fun r222 => ((fun (s214 : List PV) (mo : MO) => moL mo >>= fun l => Res.val l) x221.2 r222.2) >>= fun s223 => Res.val (r222.1, s223)) s213 >>= fun x226 => (fun (s224 : List PV) => noX (Res.val (PV.int 0)) >>= fun v225 => Res.val (v225, s224)) x226.2 >>= fun x227 => noX (eqP x226.1 x227.1) >>= fun z228 => Res.val (z228, x227.2)) s210 >>= fun x211 => asB x211.1 >>= fun b212 => Res.val (b212, x211.2)) s229 >>= fun b230 => if b230.1 = true then (fun (s172 : List PV) => (fun (s175 : List PV) => (fun (s178 : List PV) => (fun (s205 : List PV) => (fun (s179 : List PV) => (fun (s199 : List PV) => (fun (s180 : List PV) => (fun (s184 : List PV) => (fun (s181 : List PV) => noX (Res.val (PV.int 5)) >>= fun v182 => Res.val (v182, s181)) s184 >>= fun x185 => (fun (s183 : List PV) => Res.val (([] : List PV), s183)) x185.2 >>= fun xs186 => Res.val (x185.1 :: xs186.1, xs186.2)) s180 >>= fun x187 => (apR1 m__law_order) (MO.lst x187.2) x187.1 >>= fun r188 => ((fun (s180 : List PV) (mo : MO) => moL mo >>= fun l => Res.val l) x187.2 r188.2) >>= fun s189 => Res.val (r188.1, s189)) s199 >>= fun x200 => (fun (s196 : List PV) => (fun (s190 : List PV) => (fun (s191 : List PV) => Res.val (([] : List PV), s191)) s190 >>= fun x192 => (apR0 m__law_loop) (MO.lst x192.2) x192.1 >>= fun r193 => ((fun (s190 : List PV) (mo : MO) => moL mo >>= fun l => Res.val l) x192.2 r193.2) >>= fun s194 => Res.val (r193.1, s194)) s196 >>= fun x197 => (fun (s195 : List PV) => Res.val (([] : List PV), s195)) x197.2 >>= fun xs198 => Res.val (x197.1 :: xs198.1, xs198.2)) x200.2 >>= fun xs201 => Res.val (x200.1 :: xs201.1, xs201.2)) s179 >>= fun x202 => noX (ap2 m__law_named x202.1) >>= fun z203 => Res.val (z203, x202.2)) s205 >>= fun x206 => (fun (s204 : List PV) => Res.val (([] : List PV), s204)) x206.2 >>= fun xs207 => Res.val (x206.1 :: xs207.1, xs207.2)) s178 >>= fun x208 => noX (ap1 m__law_right x208.1) >>= fun z209 => Res.val (z209, x208.2)) s175 >>= fun x176 => asB x176.1 >>= fun b177 => Res.val (b177, x176.2)) s172 >>= fun x173 => Res.val (!x173.1, x173.2)) b230.2 else Res.val (false, b230.2)) s168) >>= fun b231 => if b231.1 = true then (fun (s232 : List PV) => ((Res.val (PV.bl false)) >>= fun v234 => Res.val (.rt v234 []))) b231.2 else (fun (s232 : List PV) => (seqF (S1 := List PV) (noX ((fun (s235 : List PV) => (fun (s238 : List PV) => (fun (s243 : List PV) => (fun (s239 : List PV) => noX ((Res.val x141) >>= m__law_table) >>= fun v241 => Res.val (v241, s239)) s243 >>= fun x244 => (fun (s242 : List PV) => Res.val (([] : List PV), s242)) x244.2 >>= fun xs245 => Res.val (x244.1 :: xs245.1, xs245.2)) s238 >>= fun x246 => (apR1 m__law_forms) (MO.lst x246.2) x246.1 >>= fun r247 => ((fun (s238 : List PV) (mo : MO) => moL mo >>= fun l => Res.val l) x246.2 r247.2) >>= fun s248 => Res.val (r247.1, s248)) s235 >>= fun x236 => asSq x236.1 >>= fun z237 => Res.val (z237, x236.2)) s232) >>= fun r258 => forF (fun (x257 : PV) (s250 : List PV) => (fun x => Res.val x) x257 >>= fun (a251 : PV) => (((((Res.val a251) >>= m__law_right) >>= asB) >>= fun b253 => Res.val (!b253)) >>= fun b254 => if b254 = true then ((Res.val (PV.bl false)) >>= fun v255 => Res.val (.rt v255 [])) else (Res.val (.nx s250)))) r258.1 ((fun (s249 : List PV) => s249) r258.2)) fun s260 => ((Res.val (PV.bl true)) >>= fun v261 => Res.val (.rt v261 [])))) b231.2))) r143.1 r143.2)) b107.2)) b66.2)) r38.1 r38.2)))
theorem ok_law (T : Top P K mg) (hl : ∀ ns : List Int, ns.length ≤ 63 → m_law ns = .val (.bl true)) : FnOk P w K mg base CX0 9 T.f_law T.d_law ["script"] (spLaw K) := by
  have G__law_box := ok__law_box (P := P) (w := w) (base := base) T
  have G__law_order := ok__law_order (P := P) (w := w) (base := base) T
  have G__law_alone := ok__law_alone (P := P) (w := w) (base := base) T
  have G__law_forms := ok__law_forms (P := P) (w := w) (base := base) T
  have G__law_prime := ok__law_prime (P := P) (w := w) (base := base) T
  have G__law_right := ok__law_right (P := P) (w := w) (base := base) T
  have G__law_table := ok__law_table (P := P) (w := w) (base := base) T
  have G__law_multiplies := ok__law_multiplies (P := P) (w := w) (base := base) T
  have G__law_draw := ok__law_draw (P := P) (w := w) (base := base) T
  have G__law_named := ok__law_named (P := P) (w := w) (base := base) T
  have G__law_loop := ok__law_loop (P := P) (w := w) (base := base) T
  refine fnLaw (cl := clT T) T.F_law sclaw hl fun cdv A outer s H E hr ns => ?_
  exact ⟨_, (pss_cons (ps_set (i := 1) sclaw.nd rfl (Or.inl rfl) (pe_callS G__law_box (hr.mono (by decide)) (by rfl) T.m__law_box T.F__law_box.kp T.b__law_box (fun σ => passAt takes0 σ) (pa_cons (pv 0) (pa_cons pe_int pa_nil))))
      (pss_cons (ps_set (i := 2) sclaw.nd rfl (Or.inl rfl) (pe_callS G__law_box (hr.mono (by decide)) (by rfl) T.m__law_box T.F__law_box.kp T.b__law_box (fun σ => passAt takes0 σ) (pa_cons (pv 0) (pa_cons pe_int pa_nil))))
      (pss_cons (ps_set (i := 3) sclaw.nd rfl (Or.inl rfl) (pe_callS G__law_order (hr.mono (by decide)) (by rfl) T.m__law_order T.F__law_order.kp T.b__law_order (fun σ => passAt takes0 σ) (pa_cons (pv 1) (pa_cons (pe_callS G__law_prime (hr.mono (by decide)) (by rfl) T.m__law_prime T.F__law_prime.kp T.b__law_prime (fun σ => passAt takes0 σ) (pa_cons (pv 1) (pa_cons pe_int (pa_cons pe_int pa_nil)))) pa_nil))))
      (pss_cons (ps_if (PW.pt (pw_or (pt_not (pt_val (pe_callS G__law_right (hr.mono (by decide)) (by rfl) T.m__law_right T.F__law_right.kp T.b__law_right (fun σ => passAt takes0 σ) (pa_cons (pe_callS G__law_table (hr.mono (by decide)) (by rfl) T.m__law_table T.F__law_table.kp T.b__law_table (fun σ => passAt takes0 σ) (pa_cons (pv 3) pa_nil)) pa_nil)))) (pw_or1 (pt_not (pt_val (pe_callS G__law_multiplies (hr.mono (by decide)) (by rfl) T.m__law_multiplies T.F__law_multiplies.kp T.b__law_multiplies (fun σ => passAt takes0 σ) (pa_cons (pv 1) (pa_cons (pv 3) pa_nil)))))))) (pss_one (ps_ret pe_bl)) pss_nil)
      (pss_cons (ps_if (pt_not (pt_val (pe_callS G__law_right (hr.mono (by decide)) (by rfl) T.m__law_right T.F__law_right.kp T.b__law_right (fun σ => passAt takes0 σ) (pa_cons (pe_ix (ix_VK K rfl) (pe_callS G__law_alone (hr.mono (by decide)) (by rfl) T.m__law_alone T.F__law_alone.kp T.b__law_alone (fun σ => passAt takes0 σ) (pa_cons (pv 2) (pa_cons (pv 3) pa_nil))) (pe_callS G__law_draw (hr.mono (by decide)) (by rfl) T.m__law_draw T.F__law_draw.kp T.b__law_draw (fun σ => passAt takes0 σ) (pa_cons (pv 2) (pa_cons pe_int pa_nil))) (fun _ _ => rfl)) pa_nil)))) (pss_one (ps_ret pe_bl)) pss_nil)
      (pss_cons (ps_set (i := 4) sclaw.nd rfl (Or.inl rfl) (pe_callS G__law_order (hr.mono (by decide)) (by rfl) T.m__law_order T.F__law_order.kp T.b__law_order (fun σ => passAt takes0 σ) (pa_cons (pv 2) (pa_cons (pe_ix (ix_VK K rfl) (pe_lst (pa_cons pe_int (pa_cons pe_int (pa_cons pe_int pa_nil)))) (pe_callS G__law_draw (hr.mono (by decide)) (by rfl) T.m__law_draw T.F__law_draw.kp T.b__law_draw (fun σ => passAt takes0 σ) (pa_cons (pv 2) (pa_cons pe_int pa_nil))) (fun _ _ => rfl)) pa_nil))))
      (pss_cons (ps_for PassesOwn.never rfl (pi_seqV K rfl (pe_callS G__law_alone (hr.mono (by decide)) (by rfl) T.m__law_alone T.F__law_alone.kp T.b__law_alone (fun σ => passAt takes0 σ) (pa_cons (pv 2) (pa_cons (pv 4) pa_nil)))) (pg_name (i := 5) sclaw.nd rfl (Or.inl rfl)) (pss_one (ps_if (pt_not (pt_val (pe_callS G__law_right (hr.mono (by decide)) (by rfl) T.m__law_right T.F__law_right.kp T.b__law_right (fun σ => passAt takes0 σ) (pa_cons (pv 5) pa_nil)))) (pss_one (ps_ret pe_bl)) pss_nil)))
      (pss_cons (ps_if (PW.pt (pw_and (pt_cmpR (op_eqV K rfl hr.units) (pe_callS G__law_draw (hr.mono (by decide)) (by rfl) T.m__law_draw T.F__law_draw.kp T.b__law_draw (fun σ => passAt takes0 σ) (pa_cons (pv 2) (pa_cons pe_int pa_nil))) pe_int (nomark _)) (pw_and1 (pt_not (pt_val (pe_callS G__law_right (hr.mono (by decide)) (by rfl) T.m__law_right T.F__law_right.kp T.b__law_right (fun σ => passAt takes0 σ) (pa_cons (pe_callS G__law_named (hr.mono (by decide)) (by rfl) T.m__law_named T.F__law_named.kp T.b__law_named (fun σ => passAt takes0 σ) (pa_cons (pe_callS G__law_order (hr.mono (by decide)) (by rfl) T.m__law_order T.F__law_order.kp T.b__law_order (fun σ => passAt takes0 σ) (pa_cons (pv 2) (pa_cons pe_int pa_nil))) (pa_cons (pe_callS G__law_loop (hr.mono (by decide)) (by rfl) T.m__law_loop T.F__law_loop.kp T.b__law_loop (fun σ => passAt takes0 σ) (pa_cons (pv 2) pa_nil)) pa_nil))) pa_nil))))))) (pss_one (ps_ret pe_bl)) pss_nil)
      (pss_cons (ps_for PassesOwn.never rfl (pi_seqV K rfl (pe_callS G__law_forms (hr.mono (by decide)) (by rfl) T.m__law_forms T.F__law_forms.kp T.b__law_forms (fun σ => passAt takes0 σ) (pa_cons (pv 2) (pa_cons (pe_callS G__law_table (hr.mono (by decide)) (by rfl) T.m__law_table T.F__law_table.kp T.b__law_table (fun σ => passAt takes0 σ) (pa_cons (pv 4) pa_nil)) pa_nil)))) (pg_name (i := 5) sclaw.nd rfl (Or.inl rfl)) (pss_one (ps_if (pt_not (pt_val (pe_callS G__law_right (hr.mono (by decide)) (by rfl) T.m__law_right T.F__law_right.kp T.b__law_right (fun σ => passAt takes0 σ) (pa_cons (pv 5) pa_nil)))) (pss_one (ps_ret pe_bl)) pss_nil)))
      (pss_one (ps_ret pe_bl))))))))))),
    _, run_one (run_assoc (run_setow (i := 1) (nw_callN (pl_cons (pu_var rfl) (pl_cons pu_int pl_nil))) rfl (wk_uns rfl) fun l6 => (run_assoc (run_setow (i := 2) (nw_callN (pl_cons (pu_var rfl) (pl_cons pu_int pl_nil))) rfl (wk_uns rfl) fun l12 => (run_assoc (run_setE (i := 3) (ρs := (fun (s263 : List PV) => [(.fz (PV.fls (List.map PV.int ns))), (.ow (.lst s263)), (.ow (.lst l12)), .un, .un, .un])) (s0 := l6) (ef_callR (i := 1) (sl := (fun (s13 : List PV) => (.ow (.lst s13)))) (get := (fun (s13 : List PV) => MO.lst s13)) (put := (fun (s13 : List PV) (mo : MO) => moL mo >>= fun l => Res.val l)) (fun _ => rfl) (fun _ => Or.inl rfl) (fun s mo s' h => by cases mo <;> first | (cases h; rfl) | cases h) (el_cons (ef_callR (i := 1) (sl := (fun (s14 : List PV) => (.ow (.lst s14)))) (get := (fun (s14 : List PV) => MO.lst s14)) (put := (fun (s14 : List PV) (mo : MO) => moL mo >>= fun l => Res.val l)) (fun _ => rfl) (fun _ => Or.inl rfl) (fun s mo s' h => by cases mo <;> first | (cases h; rfl) | cases h) (el_cons (ef_pure (W := (fun _ _ _ _ => False)) fun s15 => pu_int) (el_cons (ef_pure (W := (fun _ _ _ _ => False)) fun s17 => pu_int) el_nil))) el_nil)) rfl (fun _ => rfl) fun x36 s37 => (run_assoc (run_ifE (ρs := (fun (s68 : List PV) => [(.fz (PV.fls (List.map PV.int ns))), (.ow (.lst s68)), (.ow (.lst l12)), (.fz x36), .un, .un])) (s0 := s37) (et_or (et_pure (W := (fun _ _ _ _ => False)) fun s58 => (ts_not (ts_val (Pur.vw (pu_call1 (pu_call1 (pu_var rfl))))))) (et_not (et_val (ef_callR (i := 1) (sl := (fun (s48 : List PV) => (.ow (.lst s48)))) (get := (fun (s48 : List PV) => MO.lst s48)) (put := (fun (s48 : List PV) (mo : MO) => moL mo >>= fun l => Res.val l)) (fun _ => rfl) (fun _ => Or.inl rfl) (fun s mo s' h => by cases mo <;> first | (cases h; rfl) | cases h) (el_cons (ef_pure (W := (fun _ _ _ _ => False)) fun s49 => (pu_var rfl)) el_nil))))) rfl (fun s67 => (run_ret pu_bl rfl rfl (wk_uns rfl))) (fun s67 => (run_skip (run_assoc (run_ifE (ρs := (fun (s109 : List PV) => [(.fz (PV.fls (List.map PV.int ns))), (.ow (.lst s67)), (.ow (.lst s109)), (.fz x36), .un, .un])) (s0 := l12) (et_not (et_val (ef_call (el_cons (ef_op o2_ix (ef_callR (i := 2) (sl := (fun (s78 : List PV) => (.ow (.lst s78)))) (get := (fun (s78 : List PV) => MO.lst s78)) (put := (fun (s78 : List PV) (mo : MO) => moL mo >>= fun l => Res.val l)) (fun _ => rfl) (fun _ => Or.inl rfl) (fun s mo s' h => by cases mo <;> first | (cases h; rfl) | cases h) (el_cons (ef_pure (W := (fun _ _ _ _ => False)) fun s79 => (pu_var rfl)) el_nil)) (ef_callR (i := 2) (sl := (fun (s88 : List PV) => (.ow (.lst s88)))) (get := (fun (s88 : List PV) => MO.lst s88)) (put := (fun (s88 : List PV) (mo : MO) => moL mo >>= fun l => Res.val l)) (fun _ => rfl) (fun _ => Or.inl rfl) (fun s mo s' h => by cases mo <;> first | (cases h; rfl) | cases h) (el_cons (ef_pure (W := (fun _ _ _ _ => False)) fun s89 => pu_int) el_nil))) el_nil)))) rfl (fun s108 => (run_ret pu_bl rfl rfl (wk_uns rfl))) (fun s108 => (run_skip (run_assoc (run_setE (i := 4) (ρs := (fun (s262 : List PV) => [(.fz (PV.fls (List.map PV.int ns))), (.ow (.lst s67)), (.ow (.lst s262)), (.fz x36), .un, .un])) (s0 := s108) (ef_callR (i := 2) (sl := (fun (s111 : List PV) => (.ow (.lst s111)))) (get := (fun (s111 : List PV) => MO.lst s111)) (put := (fun (s111 : List PV) (mo : MO) => moL mo >>= fun l => Res.val l)) (fun _ => rfl) (fun _ => Or.inl rfl) (fun s mo s' h => by cases mo <;> first | (cases h; rfl) | cases h) (el_cons (ef_op o2_ix (ef_pure (W := (fun _ _ _ _ => False)) fun s113 => (pu_lst (pl_cons pu_int (pl_cons pu_int (pl_cons pu_int pl_nil))))) (ef_callR (i := 2) (sl := (fun (s121 : List PV) => (.ow (.lst s121)))) (get := (fun (s121 : List PV) => MO.lst s121)) (put := (fun (s121 : List PV) (mo : MO) => moL mo >>= fun l => Res.val l)) (fun _ => rfl) (fun _ => Or.inl rfl) (fun s mo s' h => by cases mo <;> first | (cases h; rfl) | cases h) (el_cons (ef_pure (W := (fun _ _ _ _ => False)) fun s122 => pu_int) el_nil))) el_nil)) rfl (fun _ => rfl) fun x141 s142 => (run_assoc (run_seq (ρj := fun (s168 : List PV) => [(.fz (PV.fls (List.map PV.int ns))), (.ow (.lst s67)), (.ow (.lst s168)), (.fz x36), (.fz x141), .un]) (run_forE (ρs := (fun (s167 : List PV) => [(.fz (PV.fls (List.map PV.int ns))), (.ow (.lst s67)), (.ow (.lst s167)), (.fz x36), (.fz x141), .un])) (s0 := s142) (st := (fun (s157 : List PV) => s157)) (ρs' := fun (s158 : List PV) => [(.fz (PV.fls (List.map PV.int ns))), (.ow (.lst s67)), (.ow (.lst s158)), (.fz x36), (.fz x141), .un]) (ρe := fun (s158 : List PV) (a159 : PV) => [(.fz (PV.fls (List.map PV.int ns))), (.ow (.lst s67)), (.ow (.lst s158)), (.fz x36), (.fz x141), (.fz a159)]) (ei_seq (ef_callR (i := 2) (sl := (fun (s147 : List PV) => (.ow (.lst s147)))) (get := (fun (s147 : List PV) => MO.lst s147)) (put := (fun (s147 : List PV) (mo : MO) => moL mo >>= fun l => Res.val l)) (fun _ => rfl) (fun _ => Or.inl rfl) (fun s mo s' h => by cases mo <;> first | (cases h; rfl) | cases h) (el_cons (ef_pure (W := (fun _ _ _ _ => False)) fun s148 => (pu_var rfl)) el_nil))) rfl (fun s157 => (.keep (.keep (.keep (.keep (.keep (.keep .nil))))))) (fun s158 => (tg_name (i := 5) rfl (Or.inl rfl))) (fun a159 s158 => run_one (run_if (ts_not (ts_val (Pur.vw (pu_call1 (pu_var rfl))))) (wk_uns rfl) (run_ret pu_bl rfl rfl (wk_uns rfl)) (run_skip (run_next (s := s158) (.keep (.keep (.keep (.keep (.keep (.drop .nil))))))))))) fun s168 => (run_assoc (run_ifE (ρs := (fun (s233 : List PV) => [(.fz (PV.fls (List.map PV.int ns))), (.ow (.lst s67)), (.ow (.lst s233)), (.fz x36), (.fz x141), .un])) (s0 := s168) (et_and (et_cmp (ef_op o2_eq (ef_callR (i := 2) (sl := (fun (s214 : List PV) => (.ow (.lst s214)))) (get := (fun (s214 : List PV) => MO.lst s214)) (put := (fun (s214 : List PV) (mo : MO) => moL mo >>= fun l => Res.val l)) (fun _ => rfl) (fun _ => Or.inl rfl) (fun s mo s' h => by cases mo <;> first | (cases h; rfl) | cases h) (el_cons (ef_pure (W := (fun _ _ _ _ => False)) fun s215 => pu_int) el_nil)) (ef_pure (W := (fun _ _ _ _ => False)) fun s224 => pu_int))) (et_not (et_val (ef_call (el_cons (ef_call (el_cons (ef_callR (i := 2) (sl := (fun (s180 : List PV) => (.ow (.lst s180)))) (get := (fun (s180 : List PV) => MO.lst s180)) (put := (fun (s180 : List PV) (mo : MO) => moL mo >>= fun l => Res.val l)) (fun _ => rfl) (fun _ => Or.inl rfl) (fun s mo s' h => by cases mo <;> first | (cases h; rfl) | cases h) (el_cons (ef_pure (W := (fun _ _ _ _ => False)) fun s181 => pu_int) el_nil)) (el_cons (ef_callR (i := 2) (sl := (fun (s190 : List PV) => (.ow (.lst s190)))) (get := (fun (s190 : List PV) => MO.lst s190)) (put := (fun (s190 : List PV) (mo : MO) => moL mo >>= fun l => Res.val l)) (fun _ => rfl) (fun _ => Or.inl rfl) (fun s mo s' h => by cases mo <;> first | (cases h; rfl) | cases h) el_nil) el_nil))) el_nil))))) rfl (fun s232 => (run_ret pu_bl rfl rfl (wk_uns rfl))) (fun s232 => (run_skip (run_assoc (run_seq (ρj := fun (s260 : List PV) => [(.fz (PV.fls (List.map PV.int ns))), (.ow (.lst s67)), (.ow (.lst s260)), (.fz x36), (.fz x141), .un]) (run_forE (ρs := (fun (s259 : List PV) => [(.fz (PV.fls (List.map PV.int ns))), (.ow (.lst s67)), (.ow (.lst s259)), (.fz x36), (.fz x141), .un])) (s0 := s232) (st := (fun (s249 : List PV) => s249)) (ρs' := fun (s250 : List PV) => [(.fz (PV.fls (List.map PV.int ns))), (.ow (.lst s67)), (.ow (.lst s250)), (.fz x36), (.fz x141), .un]) (ρe := fun (s250 : List PV) (a251 : PV) => [(.fz (PV.fls (List.map PV.int ns))), (.ow (.lst s67)), (.ow (.lst s250)), (.fz x36), (.fz x141), (.fz a251)]) (ei_seq (ef_callR (i := 2) (sl := (fun (s238 : List PV) => (.ow (.lst s238)))) (get := (fun (s238 : List PV) => MO.lst s238)) (put := (fun (s238 : List PV) (mo : MO) => moL mo >>= fun l => Res.val l)) (fun _ => rfl) (fun _ => Or.inl rfl) (fun s mo s' h => by cases mo <;> first | (cases h; rfl) | cases h) (el_cons (ef_pure (W := (fun _ _ _ _ => False)) fun s239 => (pu_call1 (pu_var rfl))) el_nil))) rfl (fun s249 => (.keep (.keep (.keep (.keep (.keep (.keep .nil))))))) (fun s250 => (tg_name (i := 5) rfl (Or.inl rfl))) (fun a251 s250 => run_one (run_if (ts_not (ts_val (Pur.vw (pu_call1 (pu_var rfl))))) (wk_uns rfl) (run_ret pu_bl rfl rfl (wk_uns rfl)) (run_skip (run_next (s := s250) (.keep (.keep (.keep (.keep (.keep (.drop .nil))))))))))) fun s260 => (run_ret pu_bl rfl rfl (wk_uns rfl)))))))))))))))))))))))))), rfl⟩
end
/-! ### reckoning with mirrors -/
section
variable {S L S1 : Type}
@[simp] theorem retF_rt {v : PV} {r : List MO} : retF (.val (.rt v r)) = .val v := rfl
@[simp] theorem retF_nx : retF (.val (.nx ())) = .val .non := rfl
@[simp] theorem retF_exc {c : Str} : retF (.exc c) = .exc c := rfl
@[simp] theorem retR_rt {v : PV} {mo : MO} : retR (.val (.rt v [mo])) = .val (v, mo) := rfl
@[simp] theorem retR_nx {mo : MO} : retR (.val (.nx mo)) = .val (.non, mo) := rfl
@[simp] theorem retN_ro {mo : MO} : retN (.val (.ro mo)) = .val mo := rfl
@[simp] theorem seqF_nx {s : S1} {n : S1 → Res (Fl S L)} : seqF (.val (.nx s)) n = n s := rfl
@[simp] theorem seqF_rt {v : PV} {r : List MO} {n : S1 → Res (Fl S L)} : seqF (.val (.rt v r)) n = .val (.rt v r) := rfl
@[simp] theorem seqF_exc {c : Str} {n : S1 → Res (Fl S L)} : seqF (.exc c) n = .exc c := rfl
@[simp] theorem noX_val {α : Type} {a : α} : noX (.val a) = .val a := rfl
@[simp] theorem asB_bl {b : Bool} : asB (.bl b) = .val b := rfl
@[simp] theorem asSq_tup {l : List PV} : asSq (.tup l) = .val l := rfl
@[simp] theorem asSq_lst {l : List PV} : asSq (.lst l) = .val l := rfl
@[simp] theorem asSq_fls {l : List PV} : asSq (.fls l) = .val l := rfl
@[simp] theorem asLi_lst {l : List PV} : asLi (.lst l) = .val l := rfl
@[simp] theorem asTu_tup {l : List PV} : asTu (.tup l) = .val l := rfl
@[simp] theorem partP_int {i : Int} : partP (.int i) = .val i := rfl
@[simp] theorem moL_lst {l : List PV} : moL (.lst l) = .val l := rfl
@[simp] theorem moD_dct {l : List (Key × PV)} : moD (.dct l) = .val l := rfl
@[simp] theorem addP_int {a b : Int} : addP (.int a) (.int b) = .val (.int (a + b)) := rfl
@[simp] theorem subP_int {a b : Int} : subP (.int a) (.int b) = .val (.int (a - b)) := rfl
@[simp] theorem negP_int {a : Int} : negP (.int a) = .val (.int (-a)) := rfl
@[simp] theorem ltP_int {a b : Int} : ltP (.int a) (.int b) = .val (.bl (decide (a < b))) := rfl
@[simp] theorem leP_int {a b : Int} : leP (.int a) (.int b) = .val (.bl (decide (a ≤ b))) := rfl
@[simp] theorem gtP_int {a b : Int} : gtP (.int a) (.int b) = .val (.bl (decide (b < a))) := rfl
@[simp] theorem geP_int {a b : Int} : geP (.int a) (.int b) = .val (.bl (decide (b ≤ a))) := rfl
@[simp] theorem intP_int {a : Int} : intP (.int a) = .val (.int a) := rfl
@[simp] theorem intP_bl {b : Bool} : intP (.bl b) = .val (.int (if b then 1 else 0)) := rfl
@[simp] theorem listP_sq {l : List PV} : listP (.tup l) = .val (.lst l) := rfl
@[simp] theorem listP_lst {l : List PV} : listP (.lst l) = .val (.lst l) := rfl
@[simp] theorem listP_fls {l : List PV} : listP (.fls l) = .val (.lst l) := rfl
@[simp] theorem tupleP_lst {l : List PV} : tupleP (.lst l) = .val (.tup l) := rfl
@[simp] theorem tupleP_tup {l : List PV} : tupleP (.tup l) = .val (.tup l) := rfl
@[simp] theorem lenP_tup {l : List PV} : lenP (.tup l) = .val (.int l.length) := rfl
@[simp] theorem lenP_lst {l : List PV} : lenP (.lst l) = .val (.int l.length) := rfl
@[simp] theorem lenP_fls {l : List PV} : lenP (.fls l) = .val (.int l.length) := rfl
@[simp] theorem isP_non {p : PV} : isP p .non = .val (.bl (isNo p)) := rfl
@[simp] theorem isnP_non {p : PV} : isnP p .non = .val (.bl (!isNo p)) := rfl
@[simp] theorem ap1_one {f : PV → Res PV} {a : PV} : ap1 f [a] = f a := rfl
@[simp] theorem ap2_two {f : PV → PV → Res PV} {a b : PV} : ap2 f [a, b] = f a b := rfl
@[simp] theorem ap3_three {f : PV → PV → PV → Res PV} {a b c : PV} : ap3 f [a, b, c] = f a b c := rfl
@[simp] theorem ap4_four {f : PV → PV → PV → PV → Res PV} {a b c d : PV} : ap4 f [a, b, c, d] = f a b c d := rfl
@[simp] theorem ap5_five {f : PV → PV → PV → PV → PV → Res PV} {a b c d e : PV} : ap5 f [a, b, c, d, e] = f a b c d e := rfl
@[simp] theorem apR0_z {f : MO → Res (PV × MO)} {mo : MO} : apR0 f mo [] = f mo := rfl
@[simp] theorem apR1_o {f : MO → PV → Res (PV × MO)} {mo : MO} {a : PV} : apR1 f mo [a] = f mo a := rfl
@[simp] theorem apR2_t {f : MO → PV → PV → Res (PV × MO)} {mo : MO} {a b : PV} : apR2 f mo [a, b] = f mo a b := rfl
@[simp] theorem apR3_t {f : MO → PV → PV → PV → Res (PV × MO)} {mo : MO} {a b c : PV} : apR3 f mo [a, b, c] = f mo a b c := rfl
@[simp] theorem apN1_o {f : PV → Res MO} {a : PV} : apN1 f [a] = f a := rfl
@[simp] theorem apN2_t {f : PV → PV → Res MO} {a b : PV} : apN2 f [a, b] = f a b := rfl
theorem sized_ok {n : Nat} (h : n ≤ sizeLine) : sized n = .val () := if_pos h
theorem sized_small {n : Nat} (h : n ≤ 10000000) : sized n = .val () := if_pos (Nat.le_trans h (by unfold sizeLine; decide))
theorem mkT_ok {l : List PV} (h : l.length ≤ 10000000) : mkT l = .val (.tup l) := by unfold mkT; rw [sized_small h]; rfl
theorem mkL_ok {l : List PV} (h : l.length ≤ 10000000) : mkL l = .val (.lst l) := by unfold mkL; rw [sized_small h]; rfl
theorem mkN_ok {l : List PV} (h : l.length ≤ 10000000) : mkN l = .val l := by unfold mkN; rw [sized_small h]; rfl
theorem mulI_int {a b : Int} (h : CMul a b) : mulI (.int a) (.int b) = .val (.int (a * b)) := by
  unfold mulI orS ints2
  simp only [if_pos h]
theorem mulP_int {a b : Int} (h : CMul a b) : mulP (.int a) (.int b) = .val (.int (a * b)) := by
  unfold mulP orS
  rw [mulI_int h]
theorem mulP_intW {a b : Int} (h : CMulW a b) : mulP (.int a) (.int b) = .val (.int (a * b)) := by
  by_cases c : CMul a b
  · exact mulP_int c
  · unfold mulP mulI orS ints2
    simp only [if_neg c, if_pos h]
theorem mulP_l {a b : Int} (h1 : -(2 ^ 64) < a) (h2 : a < 2 ^ 64) : mulP (.int a) (.int b) = .val (.int (a * b)) := mulP_int (.inl ⟨h1, h2⟩)
theorem mulP_r {a b : Int} (h1 : -(2 ^ 64) < b) (h2 : b < 2 ^ 64) : mulP (.int a) (.int b) = .val (.int (a * b)) := mulP_int (.inr ⟨h1, h2⟩)
theorem mulPT_l {a b : Int} (h1 : -(2 ^ 64) < a) (h2 : a < 2 ^ 64) : mulPT (.int a) (.int b) = .val (.int (a * b)) := by unfold mulPT orS; rw [mulP_l h1 h2]
theorem modP_int {a b : Int} (h : b ≠ 0) : modP (.int a) (.int b) = .val (.int (a.fmod b)) := if_pos h
theorem modP_pos {a b : Int} (h : 0 < b) : modP (.int a) (.int b) = .val (.int (a % b)) := by
  rw [modP_int (by omega), Int.fmod_eq_emod_of_nonneg a (by omega)]
theorem fdivP_pos {a b : Int} (h : 0 < b) (h2 : b < 1073741824) : fdivP (.int a) (.int b) = .val (.int (a / b)) := by
  unfold fdivP orS ints2
  have c : CDivN a b := ⟨by omega, by omega⟩
  simp only [if_pos c]
  rw [Int.fdiv_eq_ediv_of_nonneg a (by omega)]
theorem powP_int {a b : Int} (h : CPow a b) : powP (.int a) (.int b) = .val (.int (a ^ b.toNat)) := if_pos h
theorem shlP_int {a b : Int} (h : CPow a b) : shlP (.int a) (.int b) = .val (.int (a * 2 ^ b.toNat)) := if_pos h
theorem shrP_int {a b : Int} (h : 0 ≤ b) : shrP (.int a) (.int b) = .val (.int (a / 2 ^ b.toNat)) := if_pos h
theorem ixP_tup {l : List PV} {i : Nat} {p : PV} (h : l[i]? = some p) : ixP (.tup l) (.int (i : Nat)) = .val p := by
  unfold ixP
  have : atI l ((i : Nat) : Int) = some p := atI_nat h
  simp only [this]
theorem ixP_lst {l : List PV} {i : Nat} {p : PV} (h : l[i]? = some p) : ixP (.lst l) (.int (i : Nat)) = .val p := by
  unfold ixP
  have : atI l ((i : Nat) : Int) = some p := atI_nat h
  simp only [this]
theorem rng1_ok {j : Int} (h : 0 ≤ j) (h2 : j < 2 ^ 62) : rng1 (.int j) = .val (rngP 0 j) := if_pos ⟨by omega, h2⟩
theorem rng2_ok {i j : Int} (h : -(2 ^ 62) ≤ i ∧ i < 2 ^ 62 ∧ -(2 ^ 62) ≤ j ∧ j < 2 ^ 62) : rng2 (.int i) (.int j) = .val (rngP i j) := if_pos h
theorem sumPT_ints {is : List Int} : sumPT (.tup (is.map PV.int)) = .val (.int is.sum) := by
  unfold sumPT
  rw [asSq_tup, bind_val, allI_map]
theorem sumPT_lints {is : List Int} : sumPT (.lst (is.map PV.int)) = .val (.int is.sum) := by
  unfold sumPT
  rw [asSq_lst, bind_val, allI_map]
theorem allP_bls {bs : List Bool} : allP (.lst (bs.map PV.bl)) = .val (.bl (bs.all id)) := by
  unfold allP
  rw [asLi_lst, bind_val, allB_map]
theorem anyP_bls {bs : List Bool} : anyP (.lst (bs.map PV.bl)) = .val (.bl (bs.any id)) := by
  unfold anyP
  rw [asLi_lst, bind_val, allB_map]
/-! loops -/
theorem whileF_iter {c : S → Res Bool} {b : S → Res (Fl S S)} (f : Nat → S) (j : Nat) (hc : ∀ i, i < j → c (f i) = .val true) (hb : ∀ i, i < j → b (f i) = .val (.nx (f (i + 1)))) (he : c (f j) = .val false) : ∀ (n i : Nat), i ≤ j → j - i < n → whileF (L := L) c b n (f i) = .val (.nx (f j))
  | 0, i, _, h => by omega
  | n + 1, i, hi, h => by
    unfold whileF
    by_cases e : i = j
    · subst e
      rw [he]
      rfl
    · have hlt : i < j := by omega
      rw [hc i hlt, bind_val, if_pos rfl, hb i hlt]
      exact whileF_iter f j hc hb he n (i + 1) (by omega) (by omega)
theorem forF_iter {body : PV → S → Res (Fl S S)} : ∀ (ps : List PV) (f : Nat → S), (∀ i p, ps[i]? = some p → body p (f i) = .val (.nx (f (i + 1)))) → forF (L := L) body ps (f 0) = .val (.nx (f ps.length))
  | [], f, _ => rfl
  | p :: ps, f, h => by
    unfold forF
    rw [h 0 p rfl]
    exact forF_iter ps (fun i => f (i + 1)) fun i q hq => h (i + 1) q (by simpa using hq)
theorem forF_rng {body : PV → S → Res (Fl S S)} {lo hi : Int} (f : Nat → S) (h : ∀ i : Nat, i < (hi - lo).toNat → body (.int (lo + (i : Nat))) (f i) = .val (.nx (f (i + 1)))) : forF (L := L) body (rngP lo hi) (f 0) = .val (.nx (f (hi - lo).toNat)) := by
  have := forF_iter (L := L) (body := body) (rngP lo hi) f fun i p hp => by
    obtain ⟨h1, rfl⟩ := rng_get hp
    exact h i h1
  rw [rng_len] at this
  exact this
theorem lcF_val {c : PV → Res Bool} {e : PV → Res PV} {g : PV → PV} : ∀ {ps : List PV}, (∀ p, p ∈ ps → c p = .val true) → (∀ p, p ∈ ps → e p = .val (g p)) → lcF (fun x => Res.val x) c e ps = .val (ps.map g)
  | [], _, _ => rfl
  | p :: ps, hc, he => by
    unfold lcF
    rw [noX_val, bind_val, hc p List.mem_cons_self, noX_val, bind_val, if_pos rfl, he p List.mem_cons_self, noX_val, bind_val, lcF_val (fun q hq => hc q (List.mem_cons_of_mem _ hq)) (fun q hq => he q (List.mem_cons_of_mem _ hq))]
    rfl
theorem lcF_rng {e : PV → Res PV} {lo hi : Int} (g : Nat → PV) (h : ∀ i : Nat, i < (hi - lo).toNat → e (.int (lo + (i : Nat))) = .val (g i)) : lcF (fun x => Res.val x) (fun _ => Res.val true) e (rngP lo hi) = .val ((List.range (hi - lo).toNat).map g) := by
  have key : ∀ (l : List Nat), (∀ i, i ∈ l → i < (hi - lo).toNat) → lcF (fun x => Res.val x) (fun _ => Res.val true) e (l.map fun i => PV.int (lo + (i : Nat))) = .val (l.map g) := by
    intro l
    induction l with
    | nil => intro _; rfl
    | cons i l ih =>
      intro hl
      rw [List.map_cons]
      unfold lcF
      rw [noX_val, bind_val, noX_val, bind_val, if_pos rfl, h i (hl i List.mem_cons_self), noX_val, bind_val, ih fun j hj => hl j (List.mem_cons_of_mem _ hj)]
      rfl
  exact key _ fun i hi => List.mem_range.mp hi
/-- with a condition -/
theorem lcF_filter {c : PV → Res Bool} {e : PV → Res PV} {k : PV → Bool} {g : PV → PV} : ∀ {ps : List PV}, (∀ p, p ∈ ps → c p = .val (k p)) → (∀ p, p ∈ ps → k p = true → e p = .val (g p)) → lcF (fun x => Res.val x) c e ps = .val ((ps.filter k).map g)
  | [], _, _ => rfl
  | p :: ps, hc, he => by
    have ih := lcF_filter (ps := ps) (fun q hq => hc q (List.mem_cons_of_mem _ hq)) (fun q hq => he q (List.mem_cons_of_mem _ hq))
    unfold lcF
    rw [noX_val, bind_val, hc p List.mem_cons_self, noX_val, bind_val]
    cases hk : k p with
    | true =>
      rw [if_pos rfl, he p List.mem_cons_self hk, noX_val, bind_val, ih, List.filter_cons_of_pos hk]
      rfl
    | false =>
      rw [if_neg (by decide), ih, List.filter_cons_of_neg (by rw [hk]; decide)]
theorem lc_rng1 {e : PV → Res PV} {n : Nat} (g : Nat → PV) (hn : n ≤ 10000000) (h : ∀ i : Nat, i < n → e (.int (i : Nat)) = .val (g i)) : (rng1 (.int (n : Nat)) >>= fun ps => sized ps.length >>= fun _ => lcF (fun x => Res.val x) (fun _ => Res.val true) e ps) = .val ((List.range n).map g) := by
  have e1 : (((n : Nat) : Int) - 0).toNat = n := by omega
  rw [rng1_ok (by omega) (by omega), bind_val, rng_len, sized_small (by omega), bind_val, lcF_rng (lo := 0) (hi := (n : Nat)) g fun i hi => by rw [Int.zero_add]; exact h i (by omega), e1]
theorem forF_rng1 {S L : Type} {body : PV → S → Res (Fl S S)} {n : Nat} (f : Nat → S) (hn : n ≤ 10000000) (h : ∀ i : Nat, i < n → body (.int (i : Nat)) (f i) = .val (.nx (f (i + 1)))) : (rng1 (.int (n : Nat)) >>= fun ps => forF (L := L) body ps (f 0)) = .val (.nx (f n)) := by
  have e1 : (((n : Nat) : Int) - 0).toNat = n := by omega
  rw [rng1_ok (by omega) (by omega), bind_val, forF_rng (L := L) (lo := 0) (hi := (n : Nat)) f fun i hi => by rw [Int.zero_add]; exact h i (by omega), e1]
theorem shlP_nat {a : Int} {n : Nat} (h : CPow a (n : Int)) : shlP (.int a) (.int n) = .val (.int (a * 2 ^ n)) := by
  rw [shlP_int h]; rfl
theorem shrP_nat {a n : Nat} : shrP (.int a) (.int n) = .val (.int ((a / 2 ^ n : Nat) : Int)) := by
  rw [shrP_int (by omega)]
  simp
theorem modP_nat {a b : Nat} (h : 0 < b) : modP (.int a) (.int b) = .val (.int ((a % b : Nat) : Int)) := by
  rw [modP_pos (by omega)]; rfl
end
/-! ### more of reckoning -/
theorem eqB_int {a b : Int} : eqB (.int a) (.int b) = some (decide (a = b)) := by
  show (if SeqAt.shaped (.int a) = true ∧ SeqAt.shaped (.int b) = true then some (PyData.eqv (.int a) (.int b)) else none) = _
  rw [if_pos ⟨rfl, rfl⟩]
  unfold PyData.eqv
  rfl
theorem eqB_bl {a b : Bool} : eqB (.bl a) (.bl b) = some (decide (a = b)) := by
  show (if SeqAt.shaped (.bool a) = true ∧ SeqAt.shaped (.bool b) = true then some (PyData.eqv (.bool a) (.bool b)) else none) = _
  rw [if_pos ⟨rfl, rfl⟩]
  unfold PyData.eqv
  cases a <;> cases b <;> rfl
theorem eqB_str {a b : Str} (h : SeqAt.shaped (.str a) = true) (h2 : SeqAt.shaped (.str b) = true) : eqB (.str a) (.str b) = some (decide (a = b)) := by
  show (if SeqAt.shaped (.str a) = true ∧ SeqAt.shaped (.str b) = true then some (PyData.eqv (.str a) (.str b)) else none) = _
  rw [if_pos ⟨h, h2⟩]
  unfold PyData.eqv
  rfl
theorem eqP_int {a b : Int} : eqP (.int a) (.int b) = .val (.bl (decide (a = b))) := by unfold eqP; rw [eqB_int]
theorem neP_int {a b : Int} : neP (.int a) (.int b) = .val (.bl (!decide (a = b))) := by unfold neP; rw [eqB_int]
theorem eqP_bl {a b : Bool} : eqP (.bl a) (.bl b) = .val (.bl (decide (a = b))) := by unfold eqP; rw [eqB_bl]
theorem neP_bl {a b : Bool} : neP (.bl a) (.bl b) = .val (.bl (!decide (a = b))) := by unfold neP; rw [eqB_bl]
theorem eqP_str {a b : Str} (h : SeqAt.shaped (.str a) = true) (h2 : SeqAt.shaped (.str b) = true) : eqP (.str a) (.str b) = .val (.bl (decide (a = b))) := by unfold eqP; rw [eqB_str h h2]
theorem neP_str {a b : Str} (h : SeqAt.shaped (.str a) = true) (h2 : SeqAt.shaped (.str b) = true) : neP (.str a) (.str b) = .val (.bl (!decide (a = b))) := by unfold neP; rw [eqB_str h h2]
theorem exc_bind {α β : Type} {c : Str} {f : α → Res β} : (Res.exc c >>= f) = Res.exc c := rfl
theorem addP_tups {a b : List PV} (h : a.length + b.length ≤ 10000000) : addP (.tup a) (.tup b) = .val (.tup (a ++ b)) := by
  unfold addP orS ints2 catS catL catT
  simp only
  rw [if_pos (by exact Nat.le_trans h (by unfold sizeLine; decide))]
theorem addP_lsts {a b : List PV} (h : a.length + b.length ≤ 10000000) : addP (.lst a) (.lst b) = .val (.lst (a ++ b)) := by
  unfold addP orS ints2 catS catL
  simp only
  rw [if_pos (by exact Nat.le_trans h (by unfold sizeLine; decide))]
theorem fdivP_nat {a b : Nat} (h : 0 < b) (h2 : b < 1073741824) : fdivP (.int a) (.int b) = .val (.int ((a / b : Nat) : Int)) := by
  rw [fdivP_pos (by omega) (by omega)]; rfl
theorem forF_unit {L : Type} {body : PV → Unit → Res (Fl Unit Unit)} : ∀ {ps : List PV}, (∀ p, p ∈ ps → body p () = .val (.nx ())) → forF (L := L) body ps () = .val (.nx ())
  | [], _ => rfl
  | p :: ps, h => by
    unfold forF
    rw [h p List.mem_cons_self]
    exact forF_unit fun q hq => h q (List.mem_cons_of_mem _ hq)
theorem ixP_ints {l : List Int} {k : Nat} (h : k < l.length) : ixP (.tup (l.map PV.int)) (.int (k : Nat)) = .val (.int (l.getD k 0)) := ixP_tup (by
  rw [List.getElem?_map, List.getElem?_eq_getElem h, List.getD_eq_getElem?_getD, List.getElem?_eq_getElem h]; rfl)
theorem modP_ex {x b : Int} (h : 0 < b) : ∃ r, modP (.int x) (.int b) = .val (.int r) ∧ 0 ≤ r ∧ r < b := ⟨x % b, modP_pos h, Int.emod_nonneg _ (by omega), Int.emod_lt_of_pos _ h⟩
/-! ### lists of numbers -/
def PN (l : List Nat) : List PV := l.map fun n => PV.int (n : Nat)
theorem PN_len {l : List Nat} : (PN l).length = l.length := List.length_map ..
theorem PN_get {l : List Nat} {i n : Nat} (h : l[i]? = some n) : (PN l)[i]? = some (PV.int (n : Nat)) := by
  unfold PN
  rw [List.getElem?_map, h]
  rfl
theorem rngP_nat {lo hi : Nat} : rngP (lo : Nat) (hi : Nat) = PN (List.range' lo (hi - lo)) := by
  unfold rngP PN
  rw [List.range'_eq_map_range, List.map_map, show ((hi : Int) - (lo : Int)).toNat = hi - lo by omega]
  rfl
theorem rngP_0 {hi : Nat} : rngP 0 (hi : Nat) = PN (List.range hi) := by
  unfold rngP PN
  rw [show ((hi : Int) - 0).toNat = hi by omega]
  refine List.map_congr_left fun i _ => ?_
  rw [Int.zero_add]
theorem lcN {c : PV → Res Bool} {e : PV → Res PV} {k : Nat → Bool} {g : Nat → PV} : ∀ {l : List Nat}, (∀ n, n ∈ l → c (.int (n : Nat)) = .val (k n)) → (∀ n, n ∈ l → k n = true → e (.int (n : Nat)) = .val (g n)) → lcF (fun x => Res.val x) c e (PN l) = .val ((l.filter k).map g)
  | [], _, _ => rfl
  | n :: l, hc, he => by
    have ih := lcN (l := l) (fun q hq => hc q (List.mem_cons_of_mem _ hq)) (fun q hq => he q (List.mem_cons_of_mem _ hq))
    have ih' : lcF (fun x => Res.val x) c e (l.map fun n => PV.int (n : Nat)) = .val ((l.filter k).map g) := ih
    unfold PN
    rw [List.map_cons]
    unfold lcF
    rw [noX_val, bind_val, hc n List.mem_cons_self, noX_val, bind_val]
    cases hk : k n with
    | true =>
      rw [if_pos rfl, he n List.mem_cons_self hk, noX_val, bind_val, ih', List.filter_cons_of_pos hk]
      rfl
    | false =>
      rw [if_neg (by decide), ih', List.filter_cons_of_neg (by rw [hk]; decide)]
theorem ixT {l : List Nat} {i : Nat} (h : i < l.length) : ixP (.tup (PN l)) (.int (i : Nat)) = .val (.int ((l.getD i 0 : Nat) : Int)) := ixP_tup (by
  rw [PN_get (List.getElem?_eq_getElem h), List.getD_eq_getElem?_getD, List.getElem?_eq_getElem h]; rfl)
theorem ixL {l : List Nat} {i : Nat} (h : i < l.length) : ixP (.lst (PN l)) (.int (i : Nat)) = .val (.int ((l.getD i 0 : Nat) : Int)) := ixP_lst (by
  rw [PN_get (List.getElem?_eq_getElem h), List.getD_eq_getElem?_getD, List.getElem?_eq_getElem h]; rfl)
theorem ixLast {l : List PV} {x : PV} : ixP (.lst (l ++ [x])) (.int (-1)) = .val x := by
  unfold ixP
  have : atI (l ++ [x]) (-1) = some x := by
    have e : ixN (l.length + 1) (-1) = some l.length := by
      unfold ixN
      rw [if_neg (by decide), if_pos (by omega)]
      congr 1
      omega
    unfold atI
    rw [List.length_append, List.length_singleton, e]
    simp
  simp only [this]
theorem sized_lt {n : Nat} (h : n ≤ 10000000) : sized n = .val () := sized_small h
theorem rng2_nat {a b : Nat} (ha : a < 2 ^ 62) (hb : b < 2 ^ 62) : rng2 (.int (a : Nat)) (.int (b : Nat)) = .val (PN (List.range' a (b - a))) := by
  rw [rng2_ok ⟨by omega, by omega, by omega, by omega⟩, rngP_nat]
theorem rng1_nat {a : Nat} (ha : a < 2 ^ 62) : rng1 (.int (a : Nat)) = .val (PN (List.range a)) := by
  rw [rng1_ok (by omega) (by omega), rngP_0]
/-- enumerate, from k on -/
def enumF : Nat → List PV → List PV
  | _, [] => []
  | k, x :: r => .tup [.int (k : Nat), x] :: enumF (k + 1) r
theorem enumP_F (ps : List PV) : enumP ps = enumF 0 ps := by
  have key : ∀ (ps : List PV) (k : Nat), (List.range' k ps.length).zipWith (fun (i : Nat) p => PV.tup [.int i, p]) ps = enumF k ps := by
    intro ps
    induction ps with
    | nil => intro k; rfl
    | cons x r ih =>
      intro k
      rw [List.length_cons, List.range'_succ, List.zipWith_cons_cons, ih (k + 1)]
      rfl
  unfold enumP
  rw [List.range_eq_range', key]
theorem enumF_len : ∀ (ps : List PV) (k : Nat), (enumF k ps).length = ps.length
  | [], _ => rfl
  | _ :: r, k => congrArg (· + 1) (enumF_len r (k + 1))
/-- the dictionary of the places of numbers, from k on -/
def DX : Nat → List Nat → List (Key × PV)
  | _, [] => []
  | k, x :: r => (.inl (x : Nat), .int (k : Nat)) :: DX (k + 1) r
theorem DX_none {x : Int} : ∀ {l : List Nat} {k : Nat}, (∀ n : Nat, n ∈ l → (n : Int) ≠ x) → valP (DX k l) (.inl x) = none
  | [], _, _ => rfl
  | n :: r, k, h => by
    have ih := DX_none (x := x) (l := r) (k := k + 1) fun m hm => h m (List.mem_cons_of_mem _ hm)
    unfold valP at ih ⊢
    have hn : ¬ ((Sum.inl (n : Int) : Key) = .inl x) := fun z => h n List.mem_cons_self (Sum.inl.inj z)
    show Option.map _ (List.find? _ ((.inl (n : Int), .int (k : Nat)) :: DX (k + 1) r)) = none
    rw [List.find?_cons_of_neg (by simpa using hn)]
    exact ih
theorem DX_get {x : Nat} : ∀ {l : List Nat} {k i : Nat}, l.Nodup → l[i]? = some x → valP (DX k l) (.inl (x : Nat)) = some (.int ((k + i : Nat) : Int))
  | [], _, _, _, h => by cases h
  | n :: r, k, 0, _, h => by
    cases h
    show Option.map _ (List.find? _ ((.inl (x : Int), .int (k : Nat)) :: DX (k + 1) r)) = _
    rw [List.find?_cons_of_pos (by simp)]
    rfl
  | n :: r, k, i + 1, nd, h => by
    obtain ⟨n1, n2⟩ := List.nodup_cons.mp nd
    have h' : r[i]? = some x := h
    have ih := DX_get (l := r) (k := k + 1) (i := i) n2 h'
    have hx : x ∈ r := List.mem_of_getElem? h'
    have hn : ¬ ((Sum.inl (n : Int) : Key) = .inl (x : Nat)) := fun z => n1 (by
      have : n = x := by have := Sum.inl.inj z; omega
      rw [this]; exact hx)
    unfold valP at ih ⊢
    show Option.map _ (List.find? _ ((.inl (n : Int), .int (k : Nat)) :: DX (k + 1) r)) = _
    rw [List.find?_cons_of_neg (by simpa using hn), ih, show k + 1 + i = k + (i + 1) by omega]
theorem putP_new {kvs : List (Key × PV)} {k : Key} {v : PV} (h : valP kvs k = none) : putP kvs k v = kvs ++ [(k, v)] := by
  unfold putP
  rw [if_neg]
  intro z
  obtain ⟨kv, h1, h2⟩ := List.any_eq_true.mp z
  unfold valP at h
  rw [Option.map_eq_none_iff, List.find?_eq_none] at h
  exact h kv h1 h2
theorem valP_app {a b : List (Key × PV)} {k : Key} (h : valP a k = none) : valP (a ++ b) k = valP b k := by
  unfold valP at h ⊢
  rw [Option.map_eq_none_iff] at h
  rw [List.find?_append, h, Option.none_or]
theorem dcX : ∀ (l : List Nat) (k : Nat) (acc : List (Key × PV)), l.Nodup → (∀ n, n ∈ l → valP acc (.inl (n : Nat)) = none) →
    dcF un2 (fun (_ : PV × PV) => (Res.val true)) (fun (a : PV × PV) => (Res.val a.2)) (fun (a : PV × PV) => (Res.val a.1)) (enumF k (PN l)) acc = .val (acc ++ DX k l)
  | [], _, acc, _, _ => by
    show Res.val acc = _
    rw [show DX _ [] = [] from rfl, List.append_nil]
  | n :: r, k, acc, nd, h => by
    obtain ⟨n1, n2⟩ := List.nodup_cons.mp nd
    have hn := h n List.mem_cons_self
    have ih := dcX r (k + 1) (acc ++ [(.inl (n : Nat), .int (k : Nat))]) n2 fun m hm => by
      rw [valP_app (h m (List.mem_cons_of_mem _ hm))]
      have : ¬ ((Sum.inl (n : Int) : Key) = .inl (m : Nat)) := fun z => n1 (by
        have : n = m := by have := Sum.inl.inj z; omega
        rw [this]; exact hm)
      unfold valP
      rw [List.find?_cons_of_neg (by simpa using this)]
      rfl
    show dcF un2 _ _ _ (PV.tup [.int (k : Nat), .int (n : Nat)] :: enumF (k + 1) (PN r)) acc = _
    unfold dcF
    have hu : un2 (PV.tup [.int (k : Nat), .int (n : Nat)]) = .val (.int (k : Nat), .int (n : Nat)) := rfl
    have hk : keyP (.int (n : Nat)) = .val (.inl (n : Nat)) := rfl
    rw [hu, noX_val, bind_val, noX_val, bind_val, if_pos rfl, noX_val, bind_val, hk, bind_val, noX_val, bind_val, putP_new hn, ih, List.append_assoc]
    rfl
theorem PN_ints {l : List Nat} : PN l = (l.map fun n => ((n : Nat) : Int)).map PV.int := by
  unfold PN
  rw [List.map_map]
  rfl
theorem flR_PN {l : List Nat} : flR (.tup (PN l)) = .val (.tup (PN l)) := by
  unfold flR
  rw [PN_ints]
  simp only [allI_map]
theorem apR4_f {f : MO → PV → PV → PV → PV → Res (PV × MO)} {mo : MO} {a b c d : PV} : apR4 f mo [a, b, c, d] = f mo a b c d := rfl
/-! ### numbers: powers modulo a prime, subgroups by trying all -/
theorem pm_odd (r s e p : Nat) (h : e % 2 = 1) : (r * s % p) * (s * s % p) ^ (e / 2) % p = r * s ^ e % p := by
  have he : e = e / 2 + e / 2 + 1 := by omega
  have h1 : s ^ e = s * (s * s) ^ (e / 2) := by
    conv => lhs; rw [he]
    rw [Nat.pow_succ, Nat.pow_add, ← Nat.mul_pow, Nat.mul_comm]
  rw [h1, ← Nat.mul_assoc, Nat.mul_mod (r * s % p), Nat.mul_mod (r * s), Nat.mod_mod, ← Nat.pow_mod]
theorem pm_even (r s e p : Nat) (h : e % 2 = 0) : r * (s * s % p) ^ (e / 2) % p = r * s ^ e % p := by
  have he : e = e / 2 + e / 2 := by omega
  have h1 : s ^ e = (s * s) ^ (e / 2) := by
    conv => lhs; rw [he]
    rw [Nat.pow_add, ← Nat.mul_pow]
  rw [h1, Nat.mul_mod r, Nat.mul_mod r ((s * s) ^ (e / 2)), ← Nat.pow_mod]
theorem pow_red {g p q : Nat} (h : g ^ q % p = 1 % p) (n : Nat) : g ^ n % p = g ^ (n % q) % p := by
  have h1 : g ^ n = (g ^ q) ^ (n / q) * g ^ (n % q) := by
    rw [← Nat.pow_mul, ← Nat.pow_add, Nat.div_add_mod]
  rw [h1, Nat.mul_mod, Nat.pow_mod, h, ← Nat.pow_mod, Nat.one_pow, ← Nat.mul_mod, Nat.one_mul]
def memN (p q : Nat) : List Nat := (List.range' 1 (p - 1)).filter fun x => Nat.beq (x ^ q % p) 1
def powL (g p q : Nat) : List Nat := (List.range q).map fun i => g ^ i % p
def hasN (x : Nat) : List Nat → Bool
  | [] => false
  | y :: r => (Nat.beq x y) || hasN x r
def ndN : List Nat → Bool
  | [] => true
  | y :: r => (!hasN y r) && ndN r
def prB (n : Nat) : Bool := Nat.ble 2 n && (List.range' 2 38).all fun k => Nat.blt n (k * k) || !(Nat.beq (n % k) 0)
def fbN (p e : Nat) : List Nat → Nat → Nat
  | [], c => c
  | a :: l, _ => if Nat.beq (a ^ e % p) 1 = true then fbN p e l (a ^ e % p) else a ^ e % p
def baseN (p q : Nat) : Nat := fbN p ((p - 1) / q) (List.range' 2 (p - 2)) 1
def chkN (p q : Nat) : Bool := match memN p q with
  | 1 :: g :: r => Nat.beq (r.length + 2) q && Nat.beq (g ^ q % p) 1 && (powL g p q).all (fun x => hasN x (1 :: g :: r)) && (1 :: g :: r).all (fun x => hasN x (powL g p q)) && ndN (powL g p q)
      && (1 :: g :: r).all (fun x => hasN x (powL (baseN p q) p q)) && Nat.beq (baseN p q ^ q % p) 1
  | _ => false
def goodN (p q : Nat) : Bool := Nat.ble p 1000 && Nat.ble 3 q && Nat.ble q 127 && prB p && prB q && Nat.beq ((p - 1) % q) 0
def allN : Bool := (List.range 1001).all fun p => !prB p || (List.range 128).all fun q => !goodN p q || chkN p q
theorem allN_true : allN = true := by decide +kernel
theorem hasN_iff {x : Nat} : ∀ {l : List Nat}, hasN x l = true ↔ x ∈ l
  | [] => ⟨fun h => (nomatch h), fun h => (nomatch h)⟩
  | y :: r => by
    unfold hasN
    rw [Bool.or_eq_true, hasN_iff, List.mem_cons, Nat.beq_eq]
theorem ndN_nodup : ∀ {l : List Nat}, ndN l = true → l.Nodup
  | [], _ => List.nodup_nil
  | y :: r, h => by
    unfold ndN at h
    rw [Bool.and_eq_true, Bool.not_eq_true', Bool.eq_false_iff] at h
    exact List.nodup_cons.mpr ⟨fun z => h.1 (hasN_iff.mpr z), ndN_nodup h.2⟩
theorem powL_get {g p q i : Nat} (h : i < (powL g p q).length) : (powL g p q)[i] = g ^ i % p := by simp [powL]
/-- the subgroup of order q modulo p, with its generator g -/
structure PG (p q g : Nat) : Prop where
  p1 : p ≤ 1000
  q3 : 3 ≤ q
  q127 : q ≤ 127
  pp : prB p = true
  qp : prB q = true
  dv : (p - 1) % q = 0
  p2 : 2 ≤ p
  h0 : (memN p q)[0]? = some 1
  h1 : (memN p q)[1]? = some g
  len : (memN p q).length = q
  gq : g ^ q % p = 1
  all : ∀ x, x ∈ memN p q → ∃ i, i < q ∧ g ^ i % p = x
  ins : ∀ i, i < q → g ^ i % p ∈ memN p q
  inj : ∀ i j, i < q → j < q → g ^ i % p = g ^ j % p → i = j
  bas : ∀ x, x ∈ memN p q → ∃ i, i < q ∧ baseN p q ^ i % p = x
  bq : baseN p q ^ q % p = 1
theorem pg {p q : Nat} (h : goodN p q = true) : ∃ g, PG p q g := by
  have h' := h
  unfold goodN at h'
  simp only [Bool.and_eq_true, Nat.ble_eq, Nat.beq_eq] at h'
  obtain ⟨⟨⟨⟨⟨h1, h2⟩, h3⟩, h4⟩, h5⟩, h6⟩ := h'
  have p2 : 2 ≤ p := by
    have := h4
    unfold prB at this
    rw [Bool.and_eq_true, Nat.ble_eq] at this
    exact this.1
  have a := List.all_eq_true.mp allN_true p (List.mem_range.mpr (by omega))
  rw [h4, Bool.not_true, Bool.false_or] at a
  have b := List.all_eq_true.mp a q (List.mem_range.mpr (by omega))
  rw [h, Bool.not_true, Bool.false_or] at b
  unfold chkN at b
  split at b
  · next g r e =>
    simp only [Bool.and_eq_true, Nat.beq_eq] at b
    obtain ⟨⟨⟨⟨⟨⟨b1, b2⟩, b3⟩, b4⟩, b5⟩, b6⟩, b7⟩ := b
    have nd := ndN_nodup b5
    rw [← e] at b3 b4 b6
    refine ⟨g, h1, h2, h3, h4, h5, h6, p2, by rw [e]; rfl, by rw [e]; rfl, by rw [e]; exact b1, b2, fun x hx => ?_, fun i hi => ?_, fun i j hi hj hh => ?_, fun x hx => ?_, b7⟩
    · obtain ⟨i, hi, e⟩ := List.mem_map.mp (hasN_iff.mp (List.all_eq_true.mp b4 x hx))
      exact ⟨i, List.mem_range.mp hi, e⟩
    · exact hasN_iff.mp (List.all_eq_true.mp b3 _ (List.mem_map.mpr ⟨i, List.mem_range.mpr hi, rfl⟩))
    · have li : i < (powL g p q).length := by unfold powL; rw [List.length_map, List.length_range]; exact hi
      have lj : j < (powL g p q).length := by unfold powL; rw [List.length_map, List.length_range]; exact hj
      refine (List.getElem_inj (h₀ := li) (h₁ := lj) nd).mp ?_
      rw [powL_get li, powL_get lj]
      exact hh
    · obtain ⟨i, hi, e⟩ := List.mem_map.mp (hasN_iff.mp (List.all_eq_true.mp b6 x hx))
      exact ⟨i, List.mem_range.mp hi, e⟩
  · cases b
theorem mem_memN {p q x : Nat} : x ∈ memN p q ↔ 1 ≤ x ∧ x < p ∧ x ^ q % p = 1 := by
  unfold memN
  rw [List.mem_filter, List.mem_range'_1, Nat.beq_eq]
  constructor
  · rintro ⟨⟨a, b⟩, c⟩
    exact ⟨a, by omega, c⟩
  · rintro ⟨a, b, c⟩
    exact ⟨⟨a, by omega⟩, c⟩
def invAll : Bool := (List.range 128).all fun q => !prB q || (List.range q).all fun c => Nat.beq c 0 || (List.range q).any fun d => Nat.beq (c * d % q) 1
theorem invAll_true : invAll = true := by decide +kernel
theorem invN {q c : Nat} (hq : prB q = true) (h127 : q ≤ 127) (hc : c < q) (h0 : c ≠ 0) : ∃ d, d < q ∧ c * d % q = 1 := by
  have a := List.all_eq_true.mp invAll_true q (List.mem_range.mpr (by omega))
  rw [hq, Bool.not_true, Bool.false_or] at a
  have b := List.all_eq_true.mp a c (List.mem_range.mpr hc)
  rw [show Nat.beq c 0 = false from Bool.eq_false_iff.mpr fun z => h0 (Nat.beq_eq.mp z), Bool.false_or] at b
  obtain ⟨d, hd, e⟩ := List.any_eq_true.mp b
  exact ⟨d, List.mem_range.mp hd, Nat.beq_eq.mp e⟩
/-! ### the law's likeness -/
theorem alike_int (n : Nat) (a : Int) : m__law_alike (n + 1) (.int a) (.int a) = .val (.bl true) := by
  have h1 : isiP2 "tuple" "list" (.int a) = .val (.bl false) := rfl
  have h2 : isiP (.int a) (.ty "bool") = .val (.bl false) := rfl
  have h3 : isiP (.int a) (.ty "str") = .val (.bl false) := rfl
  have h4 : isiP (.int a) (.ty "int") = .val (.bl true) := rfl
  have h5 : isP (.int a) .non = .val (.bl false) := rfl
  unfold m__law_alike
  simp -implicitDefEqProofs only [bind_val, asB_bl, if_true, Bool.not_true, Bool.not_false, Bool.false_eq_true, if_false, retF_rt, seqF_nx, seqF_rt, asSq_lst, asSq_tup, partP_int, leP_int, ltP_int, gtP_int, geP_int, addP_int, subP_int, intP_int, tupleP_lst, asLi_lst, h1, h2, h3, h4, h5, eqP_int, decide_true]
theorem alike_str (n : Nat) (a : Str) (hs : SeqAt.shaped (.str a) = true) : m__law_alike (n + 1) (.str a) (.str a) = .val (.bl true) := by
  have h1 : isiP2 "tuple" "list" (.str a) = .val (.bl false) := rfl
  have h2 : isiP (.str a) (.ty "bool") = .val (.bl false) := rfl
  have h3 : isiP (.str a) (.ty "str") = .val (.bl true) := rfl
  have h5 : isP (.str a) .non = .val (.bl false) := rfl
  unfold m__law_alike
  simp -implicitDefEqProofs only [bind_val, asB_bl, if_true, Bool.not_true, Bool.not_false, Bool.false_eq_true, if_false, retF_rt, seqF_nx, seqF_rt, asSq_lst, asSq_tup, partP_int, leP_int, ltP_int, gtP_int, geP_int, addP_int, subP_int, intP_int, tupleP_lst, asLi_lst, h1, h2, h3, h5, eqP_str hs hs, decide_true]
theorem alike_tup (n : Nat) (l : List PV) (hl : l.length ≤ 10000000) (h : ∀ p, p ∈ l → m__law_alike n p p = .val (.bl true)) : m__law_alike (n + 1) (.tup l) (.tup l) = .val (.bl true) := by
  have h1 : isiP2 "tuple" "list" (.tup l) = .val (.bl true) := rfl
  have h2 : isiP (.tup l) (.ty "tuple") = .val (.bl true) := rfl
  have h3 : isiP (.tup l) (.ty "list") = .val (.bl false) := rfl
  have key := forF_rng1 (S := Unit) (L := Empty) (n := l.length) (body := fun (x33 : PV) (s21 : Unit) => (fun x => Res.val x) x33 >>= fun (a22 : PV) => ((((((Res.val (.tup l)) >>= fun x23 => (Res.val a22) >>= fun x24 => ixP x23 x24) >>= fun x27 => ((Res.val (.tup l)) >>= fun x25 => (Res.val a22) >>= fun x26 => ixP x25 x26) >>= fun x28 => (m__law_alike n) x27 x28) >>= asB) >>= fun b29 => Res.val (!b29)) >>= fun b30 => if b30 = true then ((Res.val (PV.bl false)) >>= fun v31 => Res.val (.rt v31 [])) else (Res.val (.nx ())))) (fun _ => ()) hl fun i hi => by
    have e := ixP_tup (List.getElem?_eq_getElem hi)
    simp -implicitDefEqProofs only [bind_val, asB_bl, if_true, Bool.not_true, Bool.not_false, Bool.false_eq_true, if_false, retF_rt, seqF_nx, seqF_rt, asSq_lst, asSq_tup, partP_int, leP_int, ltP_int, gtP_int, geP_int, addP_int, subP_int, intP_int, tupleP_lst, asLi_lst, e, h _ (List.getElem_mem hi)]
  unfold m__law_alike
  simp -implicitDefEqProofs only [bind_val] at key
  simp -implicitDefEqProofs only [bind_val, asB_bl, if_true, Bool.not_true, Bool.not_false, Bool.false_eq_true, if_false, retF_rt, seqF_nx, seqF_rt, asSq_lst, asSq_tup, partP_int, leP_int, ltP_int, gtP_int, geP_int, addP_int, subP_int, intP_int, tupleP_lst, asLi_lst, h1, h2, h3, neP_bl, lenP_tup, neP_int, decide_true, key]
theorem alike_ints (n : Nat) (l : List Int) (hl : l.length ≤ 10000000) : m__law_alike (n + 2) (.tup (l.map PV.int)) (.tup (l.map PV.int)) = .val (.bl true) :=
  alike_tup (n + 1) _ (by rw [List.length_map]; exact hl) fun p hp => by
    obtain ⟨a, _, rfl⟩ := List.mem_map.mp hp
    exact alike_int n a
/-! ### the law's draws -/
def Bx (l : List PV) : Prop := ∃ (a b d e : Int) (c : Nat) (ns : List Int), l = [.int a, .int b, .int (c : Nat), .int d, .int e, .lst (ns.map PV.int)]
def Good (m : Int) (R : Res (PV × MO)) : Prop := ∃ r l', R = .val (.int r, .lst l') ∧ 0 ≤ r ∧ r < m ∧ Bx l'
theorem part {S L : Type} {m : Int} {M : Res (Fl (List PV) L)} {N : List PV → Res (Fl S L)} {ret : Res (Fl S L) → Res (PV × MO)} (h1 : ∃ l1, M = .val (.nx l1) ∧ Bx l1) (h2 : ∀ l1, Bx l1 → Good m (ret (N l1))) : Good m (ret (seqF M N)) := by
  obtain ⟨l1, rfl, hb⟩ := h1
  exact h2 l1 hb
theorem mix_ok (c s : Int) : ∃ r : Int, m__law_mix (.int c) (.int s) = .val (.int r) := by
  have m1 : ∀ a, mulP (.int a) (.int 48271) = .val (.int (a * 48271)) := fun a => mulP_r (by decide) (by decide)
  have m2 : ∀ a, mulP (.int a) (.int 69621) = .val (.int (a * 69621)) := fun a => mulP_r (by decide) (by decide)
  have m3 : ∀ a, mulP (.int a) (.int 16807) = .val (.int (a * 16807)) := fun a => mulP_r (by decide) (by decide)
  have m4 : ∀ a, mulP (.int a) (.int 7919) = .val (.int (a * 7919)) := fun a => mulP_r (by decide) (by decide)
  obtain ⟨o, e, h1, h2⟩ := modP_ex (x := c * 48271 + s * 69621 + 12345) (b := 2147483647) (by decide)
  obtain ⟨r, e2, _⟩ := modP_ex (x := o * o + o * 16807 + s * 7919) (b := 2147483629) (by decide)
  have m5 : mulP (.int o) (.int o) = .val (.int (o * o)) := mulP_l (by omega) (by omega)
  refine ⟨r, ?_⟩
  unfold m__law_mix
  simp -implicitDefEqProofs only [bind_val, asB_bl, if_true, Bool.not_true, Bool.not_false, Bool.false_eq_true, if_false, retF_rt, seqF_nx, seqF_rt, asSq_lst, asSq_tup, partP_int, leP_int, ltP_int, gtP_int, geP_int, addP_int, subP_int, intP_int, tupleP_lst, asLi_lst, m1, m2, m3, m4, e, m5, e2]
theorem draw_ok {l : List PV} (hb : Bx l) {m : Int} (hm : 0 < m) (hm2 : m < 1073741824) : Good m (m__law_draw (.lst l) (.int m)) := by
  have x0 : ∀ p0 p1 p2 p3 p4 p5 : PV, ixP (.lst [p0, p1, p2, p3, p4, p5]) (.int 0) = .val p0 := fun _ _ _ _ _ _ => rfl
  have x1 : ∀ p0 p1 p2 p3 p4 p5 : PV, ixP (.lst [p0, p1, p2, p3, p4, p5]) (.int 1) = .val p1 := fun _ _ _ _ _ _ => rfl
  have x2 : ∀ p0 p1 p2 p3 p4 p5 : PV, ixP (.lst [p0, p1, p2, p3, p4, p5]) (.int 2) = .val p2 := fun _ _ _ _ _ _ => rfl
  have x3 : ∀ p0 p1 p2 p3 p4 p5 : PV, ixP (.lst [p0, p1, p2, p3, p4, p5]) (.int 3) = .val p3 := fun _ _ _ _ _ _ => rfl
  have x4 : ∀ p0 p1 p2 p3 p4 p5 : PV, ixP (.lst [p0, p1, p2, p3, p4, p5]) (.int 4) = .val p4 := fun _ _ _ _ _ _ => rfl
  have x5 : ∀ p0 p1 p2 p3 p4 p5 : PV, ixP (.lst [p0, p1, p2, p3, p4, p5]) (.int 5) = .val p5 := fun _ _ _ _ _ _ => rfl
  have s0 : ∀ p0 p1 p2 p3 p4 p5 x : PV, setL [p0, p1, p2, p3, p4, p5] (.int 0) x = .val [x, p1, p2, p3, p4, p5] := fun _ _ _ _ _ _ _ => rfl
  have s1 : ∀ p0 p1 p2 p3 p4 p5 x : PV, setL [p0, p1, p2, p3, p4, p5] (.int 1) x = .val [p0, x, p2, p3, p4, p5] := fun _ _ _ _ _ _ _ => rfl
  have s2 : ∀ p0 p1 p2 p3 p4 p5 x : PV, setL [p0, p1, p2, p3, p4, p5] (.int 2) x = .val [p0, p1, x, p3, p4, p5] := fun _ _ _ _ _ _ _ => rfl
  have s3 : ∀ p0 p1 p2 p3 p4 p5 x : PV, setL [p0, p1, p2, p3, p4, p5] (.int 3) x = .val [p0, p1, p2, x, p4, p5] := fun _ _ _ _ _ _ _ => rfl
  have s4 : ∀ p0 p1 p2 p3 p4 p5 x : PV, setL [p0, p1, p2, p3, p4, p5] (.int 4) x = .val [p0, p1, p2, p3, x, p5] := fun _ _ _ _ _ _ _ => rfl
  have p18 : powP (.int 10) (.int 18) = .val (.int 1000000000000000000) := rfl
  have m31 : ∀ a, mulP (.int a) (.int 31) = .val (.int (a * 31)) := fun a => mulP_r (by decide) (by decide)
  unfold m__law_draw
  show Good m (retR (seqF _ _))
  refine part (ret := retR) ?_ ?_
  · obtain ⟨a, b, d, e, c, ns, rfl⟩ := hb
    by_cases h1 : b = 0
    · by_cases h2 : (c : Int) < (ns.length : Int)
      · have ic : ixP (.lst (ns.map PV.int)) (.int (c : Nat)) = .val (.int (ns.getD c 0)) := ixP_lst (by
          rw [List.getElem?_map, List.getElem?_eq_getElem (by omega), List.getD_eq_getElem?_getD, List.getElem?_eq_getElem (by omega)]; rfl)
        have ll : lenP (.lst (ns.map PV.int)) = .val (.int (ns.length : Nat)) := by rw [lenP_lst, List.length_map]
        obtain ⟨o, eo, _⟩ := modP_ex (x := e * 31 + ns.getD c 0) (b := 2147483647) (by decide)
        have c2 : ((c : Nat) : Int) + 2 = ((c + 2 : Nat) : Int) := rfl
        by_cases h3 : 1000000000000000000 ≤ ns.getD c 0
        · refine ⟨[.int (ns.getD c 0 - 1000000000000000000), .int 60, .int ((c + 2 : Nat) : Int), .int d, .int o, .lst (ns.map PV.int)], ?_, ⟨_, _, _, _, _, _, rfl⟩⟩
          simp -implicitDefEqProofs only [bind_val, asB_bl, if_true, Bool.not_true, Bool.not_false, Bool.false_eq_true, if_false, retF_rt, seqF_nx, seqF_rt, asSq_lst, asSq_tup, partP_int, leP_int, ltP_int, gtP_int, geP_int, addP_int, subP_int, intP_int, tupleP_lst, asLi_lst, x1, eqP_int, decide_eq_true h1, x2, x5, ll, decide_eq_true h2, ic, s2, x4, m31, eo, s4, p18, decide_eq_true h3, s0, s1, c2]
        · refine ⟨[.int a, .int b, .int ((c + 2 : Nat) : Int), .int d, .int o, .lst (ns.map PV.int)], ?_, ⟨_, _, _, _, _, _, rfl⟩⟩
          simp -implicitDefEqProofs only [bind_val, asB_bl, if_true, Bool.not_true, Bool.not_false, Bool.false_eq_true, if_false, retF_rt, seqF_nx, seqF_rt, asSq_lst, asSq_tup, partP_int, leP_int, ltP_int, gtP_int, geP_int, addP_int, subP_int, intP_int, tupleP_lst, asLi_lst, x1, eqP_int, decide_eq_true h1, x2, x5, ll, decide_eq_true h2, ic, s2, x4, m31, eo, s4, p18, decide_eq_false h3, s0, s1, c2]
      · have ll : lenP (.lst (ns.map PV.int)) = .val (.int (ns.length : Nat)) := by rw [lenP_lst, List.length_map]
        refine ⟨_, ?_, ⟨a, b, d, e, c, ns, rfl⟩⟩
        simp -implicitDefEqProofs only [bind_val, asB_bl, if_true, Bool.not_true, Bool.not_false, Bool.false_eq_true, if_false, retF_rt, seqF_nx, seqF_rt, asSq_lst, asSq_tup, partP_int, leP_int, ltP_int, gtP_int, geP_int, addP_int, subP_int, intP_int, tupleP_lst, asLi_lst, x1, eqP_int, decide_eq_true h1, x2, x5, ll, decide_eq_false h2]
    · refine ⟨_, ?_, ⟨a, b, d, e, c, ns, rfl⟩⟩
      simp -implicitDefEqProofs only [bind_val, asB_bl, if_true, Bool.not_true, Bool.not_false, Bool.false_eq_true, if_false, retF_rt, seqF_nx, seqF_rt, asSq_lst, asSq_tup, partP_int, leP_int, ltP_int, gtP_int, geP_int, addP_int, subP_int, intP_int, tupleP_lst, asLi_lst, x1, eqP_int, decide_eq_false h1]
  · intro l1 hb1
    obtain ⟨a, b, d, e, c, ns, rfl⟩ := hb1
    have low : ∀ (a' b' : Int), (¬ 0 < b' ∨ ¬ 0 < a') → True := fun _ _ _ => trivial
    by_cases h1 : 0 < b
    · by_cases h2 : 0 < a
      · obtain ⟨o, eo, ho⟩ := modP_ex (x := a) hm
        refine ⟨o, [.int (a / m), .int (b - 1), .int (c : Nat), .int d, .int e, .lst (ns.map PV.int)], ?_, ho.1, ho.2, ⟨_, _, _, _, _, _, rfl⟩⟩
        simp -implicitDefEqProofs only [bind_val, asB_bl, if_true, Bool.not_true, Bool.not_false, Bool.false_eq_true, if_false, retF_rt, seqF_nx, seqF_rt, asSq_lst, asSq_tup, partP_int, leP_int, ltP_int, gtP_int, geP_int, addP_int, subP_int, intP_int, tupleP_lst, asLi_lst, x1, x0, decide_eq_true h1, decide_eq_true h2, eo, fdivP_pos hm hm2, s0, s1, retR_rt]
      · obtain ⟨q, eq⟩ := mix_ok e (d + 1)
        obtain ⟨o, eo, ho⟩ := modP_ex (x := q) hm
        refine ⟨o, [.int a, .int 0, .int (c : Nat), .int (d + 1), .int e, .lst (ns.map PV.int)], ?_, ho.1, ho.2, ⟨_, _, _, _, _, _, rfl⟩⟩
        simp -implicitDefEqProofs only [bind_val, asB_bl, if_true, Bool.not_true, Bool.not_false, Bool.false_eq_true, if_false, retF_rt, seqF_nx, seqF_rt, asSq_lst, asSq_tup, partP_int, leP_int, ltP_int, gtP_int, geP_int, addP_int, subP_int, intP_int, tupleP_lst, asLi_lst, x1, x0, decide_eq_true h1, decide_eq_false h2, eq, eo, s3, x3, x4, s0, s1, retR_rt]
    · obtain ⟨q, eq⟩ := mix_ok e (d + 1)
      obtain ⟨o, eo, ho⟩ := modP_ex (x := q) hm
      refine ⟨o, [.int a, .int 0, .int (c : Nat), .int (d + 1), .int e, .lst (ns.map PV.int)], ?_, ho.1, ho.2, ⟨_, _, _, _, _, _, rfl⟩⟩
      simp -implicitDefEqProofs only [bind_val, asB_bl, if_true, Bool.not_true, Bool.not_false, Bool.false_eq_true, if_false, retF_rt, seqF_nx, seqF_rt, asSq_lst, asSq_tup, partP_int, leP_int, ltP_int, gtP_int, geP_int, addP_int, subP_int, intP_int, tupleP_lst, asLi_lst, x1, x0, decide_eq_false h1, eq, eo, s3, x3, x4, s0, s1, retR_rt]
theorem box_ok (ns : List Int) (h : ns.length ≤ 63) (k : Int) : m__law_box (.fls (ns.map PV.int)) (.int k) = .val (.lst [.int 0, .int 0, .int k, .int 0, .int k, .lst (ns.map PV.int)]) := by
  have e1 : sized (ns.map PV.int).length = .val () := sized_small (by rw [List.length_map]; omega)
  have e2 : lcF (fun x => Res.val x) (fun (a1 : PV) => (Res.val true)) (fun (a1 : PV) => intP a1) (ns.map PV.int) = .val (ns.map PV.int) := by
    rw [lcF_val (g := fun p => p) (fun _ _ => rfl) (fun p hp => by
      obtain ⟨d, _, rfl⟩ := List.mem_map.mp hp
      rfl), List.map_id']
  have e3 : ∀ a b c d e f : PV, mkN [a, b, c, d, e, f] = .val [a, b, c, d, e, f] := fun a b c d e f => mkN_ok (by show 6 ≤ 10000000; decide)
  unfold m__law_box
  simp -implicitDefEqProofs only [bind_val, asB_bl, if_true, Bool.not_true, Bool.not_false, Bool.false_eq_true, if_false, retF_rt, seqF_nx, seqF_rt, asSq_lst, asSq_tup, partP_int, leP_int, ltP_int, gtP_int, geP_int, addP_int, subP_int, intP_int, tupleP_lst, asLi_lst, asSq_fls, e1, e2, e3, retN_ro]
theorem bx0 (ns : List Int) (k : Nat) : Bx [.int 0, .int 0, .int (k : Nat), .int 0, .int (k : Nat), .lst (ns.map PV.int)] := ⟨_, _, _, _, _, _, rfl⟩
theorem draw_nat {l : List PV} (hb : Bx l) {m : Nat} (hm : 0 < m) (hm2 : m < 1073741824) : ∃ (r : Nat) (l' : List PV), m__law_draw (.lst l) (.int (m : Nat)) = .val (.int (r : Nat), .lst l') ∧ r < m ∧ Bx l' := by
  obtain ⟨r, l', e, h0, h1, hb'⟩ := draw_ok hb (m := (m : Nat)) (by omega) (by omega)
  obtain ⟨n, rfl⟩ := Int.eq_ofNat_of_zero_le h0
  exact ⟨n, l', e, by omega, hb'⟩
/-! ### mirrors: primes -/
def tb : Res PV → Bool → Bool
  | .val (.bl a), b => a == b
  | _, _ => false
theorem tb_eq {r : Res PV} {b : Bool} (h : tb r b = true) : r = .val (.bl b) := by
  unfold tb at h
  split at h
  · rw [eq_of_beq h]
  · cases h
theorem reckP : ((List.range 1601).all fun n => tb (m_is_prime (.int n)) (prB n) && tb (m__law_is_prime (.int n)) (prB n)) = true := by decide +kernel
theorem isPrime {n : Nat} (h : n < 1601) : m_is_prime (.int (n : Nat)) = .val (.bl (prB n)) ∧ m__law_is_prime (.int (n : Nat)) = .val (.bl (prB n)) := by
  have := List.all_eq_true.mp reckP n (List.mem_range.mpr h)
  rw [Bool.and_eq_true] at this
  exact ⟨tb_eq this.1, tb_eq this.2⟩
theorem isPrime_neg {n : Int} (h : n < 2) : m_is_prime (.int n) = .val (.bl false) := by
  unfold m_is_prime
  simp -implicitDefEqProofs only [bind_val, asB_bl, if_true, Bool.not_true, Bool.not_false, Bool.false_eq_true, if_false, retF_rt, seqF_nx, seqF_rt, asSq_lst, asSq_tup, partP_int, leP_int, ltP_int, gtP_int, geP_int, addP_int, subP_int, intP_int, tupleP_lst, asLi_lst, decide_eq_true h]
theorem eqP_nat {a b : Nat} : eqP (.int (a : Nat)) (.int (b : Nat)) = .val (.bl (Nat.beq a b)) := by
  rw [eqP_int]
  by_cases c : a = b
  · subst c
    rw [decide_eq_true rfl, Nat.beq_refl]
  · rw [decide_eq_false (by omega), show Nat.beq a b = false from Bool.eq_false_iff.mpr fun z => c (Nat.beq_eq.mp z)]
theorem mulP_nat {a b : Nat} (h : a < 2 ^ 64) : mulP (.int (a : Nat)) (.int (b : Nat)) = .val (.int ((a * b : Nat) : Int)) := by
  rw [mulP_l (by omega) (by omega)]; rfl
/-! ### how a group of a table is made -/
theorem q1 (n : Nat) : eqP (.int (n : Nat)) (.int 1) = .val (.bl (Nat.beq n 1)) := eqP_nat (b := 1)
theorem PN_app {l : List Nat} {x : Nat} : PN (l ++ [x]) = PN l ++ [.int (x : Nat)] := by
  unfold PN
  rw [List.map_append]
  rfl
def PL (P : Nat → Nat) (n : Nat) : List Nat := (List.range n).map P
theorem PL_len {P : Nat → Nat} {n : Nat} : (PL P n).length = n := by unfold PL; rw [List.length_map, List.length_range]
theorem PL_succ {P : Nat → Nat} {n : Nat} : PL P (n + 1) = PL P n ++ [P n] := by
  unfold PL
  rw [List.range_succ, List.map_append]
  rfl
theorem PL_get {P : Nat → Nat} {n i : Nat} (h : i < n) : (PL P n)[i]? = some (P i) := by
  unfold PL
  rw [List.getElem?_map, List.getElem?_range h]
  rfl
theorem powersof_gen {S : PV} {q g u : Nat} {P : Nat → Nat} (hq : 1 ≤ q) (hq2 : q < 10000) (hu : fldP cs_unit "unit" S = .val (.int (u : Nat))) (ho : fldP cs_order "order" S = .val (.int (q : Nat))) (h0 : P 0 = u)
    (hm : ∀ k : Nat, k + 1 < q → (sel [("TableGroup", ap3 m_TableGroup_multiply)] "multiply" S >>= fun g15 => g15 [S, .int (P k : Nat), .int (g : Nat)]) = .val (.int (P (k + 1) : Nat))) :
    m_Group__powers_of S (.int (g : Nat)) = .val (.tup (PN (PL P q))) := by
  have e1 : ∀ a : PV, mkN [a] = .val [a] := fun a => mkN_ok (by show 1 ≤ 10000000; decide)
  have e2 : ((q : Nat) : Int) - 1 = ((q - 1 : Nat) : Int) := by omega
  have e3 : negP (.int 1) = .val (.int (-1)) := rfl
  have lp := forF_rng1 (S := List PV) (L := Empty) (n := q - 1) (body := fun (x19 : PV) (s6 : List PV) => (sel [("TableGroup", ap3 m_TableGroup_multiply)] "multiply" S >>= fun g15 => (ixP (PV.lst s6) (PV.int (-1)) >>= fun x12 => Res.val [x12, PV.int (g : Nat)]) >>= fun ps16 => g15 (S :: ps16)) >>= fun x17 => sized (s6.length + 1) >>= fun _ => (Res.val (Fl.nx (s6 ++ [x17]))))
    (fun i => PN (PL P (i + 1))) (by omega) fun i hi => by
      have hx : ixP (.lst (PN (PL P (i + 1)))) (.int (-1)) = .val (.int (P i : Nat)) := by
        rw [PL_succ, PN_app]
        exact ixLast
      have hz : sized ((PN (PL P (i + 1))).length + 1) = .val () := sized_small (by rw [PN_len, PL_len]; omega)
      have hm' := hm i (by omega)
      simp -implicitDefEqProofs only [bind_val, asB_bl, if_true, Bool.not_true, Bool.not_false, Bool.false_eq_true, if_false, retF_rt, seqF_nx, seqF_rt, asSq_lst, asSq_tup, partP_int, leP_int, ltP_int, gtP_int, geP_int, addP_int, subP_int, intP_int, tupleP_lst, asLi_lst, hx, hm', hz]
      rw [PL_succ (n := i + 1), PN_app]
  have st : PN (PL P (0 + 1)) = [PV.int (u : Nat)] := by
    unfold PL PN
    show [PV.int (P 0 : Nat)] = _
    rw [h0]
  rw [st, show q - 1 + 1 = q by omega] at lp
  unfold m_Group__powers_of
  simp -implicitDefEqProofs only [bind_val, asB_bl, if_true, Bool.not_true, Bool.not_false, Bool.false_eq_true, if_false, retF_rt, seqF_nx, seqF_rt, asSq_lst, asSq_tup, partP_int, leP_int, ltP_int, gtP_int, geP_int, addP_int, subP_int, intP_int, tupleP_lst, asLi_lst, hu, ho, e1, e2, e3, lp]
def fsTg (a : PV) (q u : Nat) (M : List Nat) (g : Nat) (P : List Nat) (D : List (Key × PV)) : List (Str × PV) := [("table", a), ("order", .int (q : Nat)), ("unit", .int (u : Nat)), ("members", .tup (PN M)), ("generator", .int (g : Nat)), ("_powers", .tup (PN P)), ("_exponents", .dct D)]
theorem initTg {a : PV} {q u g m0 m1 : Nat} {M : List Nat} {P : Nat → Nat} (hq : 1 ≤ q) (hq2 : q < 10000) (hM0 : M[0]? = some m0) (hM1 : M[1]? = some m1) (hg : g = if m0 = u then m1 else m0) (h0 : P 0 = u) {D : List (Key × PV)} (dc : dcF un2 (fun (_ : PV × PV) => (Res.val true)) (fun (a : PV × PV) => (Res.val a.2)) (fun (a : PV × PV) => (Res.val a.1)) (enumF 0 (PN (PL P q))) [] = .val D)
    (hm : ∀ (e : PV) (k : Nat), k + 1 < q → (ap3 m_TableGroup_multiply) [.ins "TableGroup" [("table", a), ("order", .int (q : Nat)), ("unit", .int (u : Nat)), ("members", .tup (PN M)), ("generator", e)], .int (P k : Nat), .int (g : Nat)] = .val (.int (P (k + 1) : Nat))) :
    m_Group___init__ (.ob "TableGroup" [("table", a)]) (.int (q : Nat)) (.int (u : Nat)) (.tup (PN M)) = .val (.non, .ob "TableGroup" (fsTg a q u M g (PL P q) D)) := by
  have f2 : ∀ a b : PV, setF cs_order "TableGroup" [("table", a)] "order" b = .val [("table", a), ("order", b)] := fun _ _ => rfl
  have f3 : ∀ a b c : PV, setF cs_unit "TableGroup" [("table", a), ("order", b)] "unit" c = .val [("table", a), ("order", b), ("unit", c)] := fun _ _ _ => rfl
  have f4 : ∀ a b c d : PV, setF cs_members "TableGroup" [("table", a), ("order", b), ("unit", c)] "members" d = .val [("table", a), ("order", b), ("unit", c), ("members", d)] := fun _ _ _ _ => rfl
  have f5 : ∀ a b c d e : PV, setF cs_generator "TableGroup" [("table", a), ("order", b), ("unit", c), ("members", d)] "generator" e = .val [("table", a), ("order", b), ("unit", c), ("members", d), ("generator", e)] := fun _ _ _ _ _ => rfl
  have f6 : ∀ a b c d e f : PV, setF cs__powers "TableGroup" [("table", a), ("order", b), ("unit", c), ("members", d), ("generator", e)] "_powers" f = .val [("table", a), ("order", b), ("unit", c), ("members", d), ("generator", e), ("_powers", f)] := fun _ _ _ _ _ _ => rfl
  have f7 : ∀ a b c d e f h : PV, setF cs__exponents "TableGroup" [("table", a), ("order", b), ("unit", c), ("members", d), ("generator", e), ("_powers", f)] "_exponents" h = .val [("table", a), ("order", b), ("unit", c), ("members", d), ("generator", e), ("_powers", f), ("_exponents", h)] := fun _ _ _ _ _ _ _ => rfl
  have g1 : ∀ a b c d e : PV, fldP cs_generator "generator" (.ins "TableGroup" [("table", a), ("order", b), ("unit", c), ("members", d), ("generator", e)]) = .val e := fun _ _ _ _ _ => rfl
  have g2 : ∀ a b c d e : PV, fldP cs_unit "unit" (.ins "TableGroup" [("table", a), ("order", b), ("unit", c), ("members", d), ("generator", e)]) = .val c := fun _ _ _ _ _ => rfl
  have g3 : ∀ a b c d e : PV, fldP cs_order "order" (.ins "TableGroup" [("table", a), ("order", b), ("unit", c), ("members", d), ("generator", e)]) = .val b := fun _ _ _ _ _ => rfl
  have g5 : ∀ a b c d e f : PV, fldP cs__powers "_powers" (.ins "TableGroup" [("table", a), ("order", b), ("unit", c), ("members", d), ("generator", e), ("_powers", f)]) = .val f := fun _ _ _ _ _ _ => rfl
  have s1 : ∀ a b c d e : PV, sel [("TableGroup", ap3 m_TableGroup_multiply)] "multiply" (.ins "TableGroup" [("table", a), ("order", b), ("unit", c), ("members", d), ("generator", e)]) = .val (ap3 m_TableGroup_multiply) := fun _ _ _ _ _ => rfl
  have s2 : ∀ a b c d e : PV, sel [("TableGroup", ap2 m_Group__powers_of)] "_powers_of" (.ins "TableGroup" [("table", a), ("order", b), ("unit", c), ("members", d), ("generator", e)]) = .val (ap2 m_Group__powers_of) := fun _ _ _ _ _ => rfl
  have pw := powersof_gen (S := .ins "TableGroup" [("table", a), ("order", .int (q : Nat)), ("unit", .int (u : Nat)), ("members", .tup (PN M)), ("generator", .int (g : Nat))]) (g := g) (P := P) hq hq2 (g2 ..) (g3 ..) h0 fun k hk => by
    rw [s1, bind_val]
    exact hm _ k hk
  have i0 : ixP (.tup (PN M)) (.int 0) = .val (.int (m0 : Nat)) := ixP_tup (i := 0) (PN_get hM0)
  have i1 : ixP (.tup (PN M)) (.int 1) = .val (.int (m1 : Nat)) := ixP_tup (i := 1) (PN_get hM1)
  have en := enumP_F (PN (PL P q))
  have sz : sized (enumF 0 (PN (PL P q))).length = .val () := sized_small (by rw [enumF_len, PN_len, PL_len]; omega)
  have e1 : eqP (.int (m0 : Nat)) (.int (u : Nat)) = .val (.bl (Nat.beq m0 u)) := eqP_nat
  unfold m_Group___init__
  by_cases c : m0 = u
  · rw [if_pos c] at hg
    subst hg
    rw [show Nat.beq m0 u = true from Nat.beq_eq.mpr c] at e1
    simp -implicitDefEqProofs only [bind_val, asB_bl, if_true, Bool.not_true, Bool.not_false, Bool.false_eq_true, if_false, retF_rt, seqF_nx, seqF_rt, asSq_lst, asSq_tup, partP_int, leP_int, ltP_int, gtP_int, geP_int, addP_int, subP_int, intP_int, tupleP_lst, asLi_lst, f2, f3, f4, i0, e1, i1, f5, s2, g1, ap2_two, pw, flR_PN, f6, g5, asTu_tup, en, sz, dc, f7, retR_nx]
    rfl
  · rw [if_neg c] at hg
    subst hg
    rw [show Nat.beq g u = false from Bool.eq_false_iff.mpr fun z => c (Nat.beq_eq.mp z)] at e1
    simp -implicitDefEqProofs only [bind_val, asB_bl, if_true, Bool.not_true, Bool.not_false, Bool.false_eq_true, if_false, retF_rt, seqF_nx, seqF_rt, asSq_lst, asSq_tup, partP_int, leP_int, ltP_int, gtP_int, geP_int, addP_int, subP_int, intP_int, tupleP_lst, asLi_lst, f2, f3, f4, i0, e1, i1, f5, s2, g1, ap2_two, pw, flR_PN, f6, g5, asTu_tup, en, sz, dc, f7, retR_nx]
    rfl
theorem frO_ob {C : Str} {fs : List (Str × PV)} : frO (.non, .ob C fs) = .val (.ins C fs) := rfl
/-- a dictionary of the places of numbers, which may come twice -/
theorem dcAny : ∀ (l : List Nat) (k : Nat) (acc : List (Key × PV)), ∃ D, dcF un2 (fun (_ : PV × PV) => (Res.val true)) (fun (a : PV × PV) => (Res.val a.2)) (fun (a : PV × PV) => (Res.val a.1)) (enumF k (PN l)) acc = .val D
  | [], k, acc => ⟨acc, rfl⟩
  | n :: r, k, acc => by
    obtain ⟨D, e⟩ := dcAny r (k + 1) (putP acc (.inl (n : Nat)) (.int (k : Nat)))
    refine ⟨D, ?_⟩
    show dcF un2 _ _ _ (PV.tup [.int (k : Nat), .int (n : Nat)] :: enumF (k + 1) (PN r)) acc = _
    unfold dcF
    have hu : un2 (PV.tup [.int (k : Nat), .int (n : Nat)]) = .val (.int (k : Nat), .int (n : Nat)) := rfl
    have hk : keyP (.int (n : Nat)) = .val (.inl (n : Nat)) := rfl
    rw [hu, noX_val, bind_val, noX_val, bind_val, if_pos rfl, noX_val, bind_val, hk, bind_val, noX_val, bind_val, e]
/-! ### tables of any form -/
theorem neP_nat {a b : Nat} : neP (.int (a : Nat)) (.int (b : Nat)) = .val (.bl (!Nat.beq a b)) := by
  have h : (decide ((a : Int) = (b : Int))) = Nat.beq a b := by
    have := eqP_nat (a := a) (b := b)
    rw [eqP_int] at this
    exact PV.bl.inj (Res.val.inj this)
  rw [neP_int, h]
theorem forF_chk {L : Type} {body : PV → Unit → Res (Fl Unit Unit)} {f : PV → Bool} {v : PV} {r : List MO} : ∀ {ps : List PV}, (∀ p, p ∈ ps → body p () = if f p = true then .val (.nx ()) else .val (.rt v r)) → forF (L := L) body ps () = if ps.all f = true then .val (.nx ()) else .val (.rt v r)
  | [], _ => rfl
  | p :: ps, h => by
    have ih := forF_chk (L := L) fun q hq => h q (List.mem_cons_of_mem _ hq)
    unfold forF
    rw [h p List.mem_cons_self, List.all_cons]
    cases f p with
    | true => rw [if_pos rfl, Bool.true_and]; exact ih
    | false => rfl
def okPart : PV → Bool
  | .int _ => true
  | .tup _ => true
  | _ => false
def okRow : PV → Bool
  | .int _ => true
  | .tup ps => ps.all okPart && Nat.ble ps.length 1000
  | _ => false
def okTab : PV → Bool
  | .int _ => true
  | .tup ls => ls.all okRow && Nat.ble ls.length 1000
  | _ => false
def resB (q : Nat) : PV → Bool
  | .int z => decide (0 ≤ z) && decide (z < (q : Int))
  | _ => false
def rowB (q : Nat) : PV → Bool
  | .tup ps => Nat.beq ps.length q && ps.all (resB q)
  | _ => false
def okN (n : Nat) : Bool := Nat.ble 3 n && (Nat.ble n 13 && prB n)
def sqB : PV → Bool
  | .tup ls => okN ls.length && ls.all (rowB ls.length)
  | _ => false
theorem residueG {q : Nat} {p : PV} (h : okPart p = true) : m_is_residue (.int (q : Nat)) p = .val (.bl (resB q p)) := by
  cases p with
  | int z =>
    have e1 : isiP (.int z) (.ty "int") = .val (.bl true) := rfl
    unfold m_is_residue resB
    by_cases c : (0 : Int) ≤ z
    · simp -implicitDefEqProofs only [bind_val, asB_bl, if_true, Bool.not_true, Bool.not_false, Bool.false_eq_true, if_false, retF_rt, seqF_nx, seqF_rt, asSq_lst, asSq_tup, partP_int, leP_int, ltP_int, gtP_int, geP_int, addP_int, subP_int, intP_int, tupleP_lst, asLi_lst, e1, decide_eq_true c, Bool.true_and]
    · simp -implicitDefEqProofs only [bind_val, asB_bl, if_true, Bool.not_true, Bool.not_false, Bool.false_eq_true, if_false, retF_rt, seqF_nx, seqF_rt, asSq_lst, asSq_tup, partP_int, leP_int, ltP_int, gtP_int, geP_int, addP_int, subP_int, intP_int, tupleP_lst, asLi_lst, e1, decide_eq_false c, Bool.false_and]
  | tup ps =>
    have e1 : isiP (.tup ps) (.ty "int") = .val (.bl false) := rfl
    unfold m_is_residue resB
    simp -implicitDefEqProofs only [bind_val, asB_bl, if_true, Bool.not_true, Bool.not_false, Bool.false_eq_true, if_false, retF_rt, seqF_nx, seqF_rt, asSq_lst, asSq_tup, partP_int, leP_int, ltP_int, gtP_int, geP_int, addP_int, subP_int, intP_int, tupleP_lst, asLi_lst, e1]
  | _ => cases h
theorem lcB {e : PV → Res PV} {f : PV → Bool} {l : List PV} (h : ∀ p, p ∈ l → e p = .val (.bl (f p))) : lcF (fun x => Res.val x) (fun (_ : PV) => Res.val true) e l = .val ((l.map f).map PV.bl) := by
  rw [lcF_val (g := fun p => PV.bl (f p)) (fun _ _ => rfl) h, List.map_map]
  rfl
theorem allM {f : PV → Bool} {l : List PV} : allP (.lst ((l.map f).map PV.bl)) = .val (.bl (l.all f)) := by
  rw [allP_bls, List.all_map]
  rfl
theorem rowG {q : Nat} {p : PV} (h : okRow p = true) : m_is_residue_row (.int (q : Nat)) (.int (q : Nat)) p = .val (.bl (rowB q p)) := by
  cases p with
  | int z =>
    have e1 : isiP (.int z) (.ty "tuple") = .val (.bl false) := rfl
    have e4 : m_is_tuple_of (.int (q : Nat)) (.int z) = .val (.bl false) := by
      unfold m_is_tuple_of
      simp -implicitDefEqProofs only [bind_val, asB_bl, if_true, Bool.not_true, Bool.not_false, Bool.false_eq_true, if_false, retF_rt, seqF_nx, seqF_rt, asSq_lst, asSq_tup, partP_int, leP_int, ltP_int, gtP_int, geP_int, addP_int, subP_int, intP_int, tupleP_lst, asLi_lst, e1]
    unfold m_is_residue_row rowB
    simp -implicitDefEqProofs only [bind_val, asB_bl, if_true, Bool.not_true, Bool.not_false, Bool.false_eq_true, if_false, retF_rt, seqF_nx, seqF_rt, asSq_lst, asSq_tup, partP_int, leP_int, ltP_int, gtP_int, geP_int, addP_int, subP_int, intP_int, tupleP_lst, asLi_lst, e4]
  | tup ps =>
    unfold okRow at h
    rw [Bool.and_eq_true, Nat.ble_eq] at h
    have e1 : isiP (.tup ps) (.ty "tuple") = .val (.bl true) := rfl
    have e4 : m_is_tuple_of (.int (q : Nat)) (.tup ps) = .val (.bl (Nat.beq ps.length q)) := by
      unfold m_is_tuple_of
      simp -implicitDefEqProofs only [bind_val, asB_bl, if_true, Bool.not_true, Bool.not_false, Bool.false_eq_true, if_false, retF_rt, seqF_nx, seqF_rt, asSq_lst, asSq_tup, partP_int, leP_int, ltP_int, gtP_int, geP_int, addP_int, subP_int, intP_int, tupleP_lst, asLi_lst, e1, lenP_tup, eqP_nat]
    have sz : sized ps.length = .val () := sized_small (by omega)
    have lc := lcB (e := fun a => m_is_residue (.int (q : Nat)) a) (f := resB q) (l := ps) fun p hp => residueG (List.all_eq_true.mp h.1 p hp)
    unfold m_is_residue_row rowB
    cases c : Nat.beq ps.length q with
    | true => simp -implicitDefEqProofs only [bind_val, asB_bl, if_true, Bool.not_true, Bool.not_false, Bool.false_eq_true, if_false, retF_rt, seqF_nx, seqF_rt, asSq_lst, asSq_tup, partP_int, leP_int, ltP_int, gtP_int, geP_int, addP_int, subP_int, intP_int, tupleP_lst, asLi_lst, e4, c, sz, lc, allM, Bool.true_and]
    | false => simp -implicitDefEqProofs only [bind_val, asB_bl, if_true, Bool.not_true, Bool.not_false, Bool.false_eq_true, if_false, retF_rt, seqF_nx, seqF_rt, asSq_lst, asSq_tup, partP_int, leP_int, ltP_int, gtP_int, geP_int, addP_int, subP_int, intP_int, tupleP_lst, asLi_lst, e4, c, Bool.false_and]
  | _ => cases h
theorem squareG {t : PV} (h : okTab t = true) : m__is_square t = .val (.bl (sqB t)) := by
  cases t with
  | int z =>
    have e1 : isiP (.int z) (.ty "tuple") = .val (.bl false) := rfl
    unfold m__is_square sqB
    simp -implicitDefEqProofs only [bind_val, asB_bl, if_true, Bool.not_true, Bool.not_false, Bool.false_eq_true, if_false, retF_rt, seqF_nx, seqF_rt, asSq_lst, asSq_tup, partP_int, leP_int, ltP_int, gtP_int, geP_int, addP_int, subP_int, intP_int, tupleP_lst, asLi_lst, e1]
  | tup ls =>
    unfold okTab at h
    rw [Bool.and_eq_true, Nat.ble_eq] at h
    have e1 : isiP (.tup ls) (.ty "tuple") = .val (.bl true) := rfl
    have sz : sized ls.length = .val () := sized_small (by omega)
    have ip := (isPrime (n := ls.length) (by omega)).1
    have lc := lcB (e := fun a => m_is_residue_row (.int (ls.length : Nat)) (.int (ls.length : Nat)) a) (f := rowB ls.length) (l := ls) fun p hp => rowG (List.all_eq_true.mp h.1 p hp)
    show _ = Res.val (PV.bl (okN ls.length && ls.all (rowB ls.length)))
    by_cases c3 : 3 ≤ ls.length
    · have d3 : (3 : Int) ≤ (ls.length : Nat) := by omega
      by_cases c13 : ls.length ≤ 13
      · have d13 : ((ls.length : Nat) : Int) ≤ 13 := by omega
        have hN : okN ls.length = prB ls.length := by
          unfold okN
          rw [Nat.ble_eq.mpr c3, Nat.ble_eq.mpr c13, Bool.true_and, Bool.true_and]
        rw [hN]
        unfold m__is_square
        cases hp : prB ls.length with
        | true => simp -implicitDefEqProofs only [bind_val, asB_bl, if_true, Bool.not_true, Bool.not_false, Bool.false_eq_true, if_false, retF_rt, seqF_nx, seqF_rt, asSq_lst, asSq_tup, partP_int, leP_int, ltP_int, gtP_int, geP_int, addP_int, subP_int, intP_int, tupleP_lst, asLi_lst, e1, lenP_tup, decide_eq_true d3, decide_eq_true d13, ip, hp, sz, lc, allM, Bool.true_and]
        | false => simp -implicitDefEqProofs only [bind_val, asB_bl, if_true, Bool.not_true, Bool.not_false, Bool.false_eq_true, if_false, retF_rt, seqF_nx, seqF_rt, asSq_lst, asSq_tup, partP_int, leP_int, ltP_int, gtP_int, geP_int, addP_int, subP_int, intP_int, tupleP_lst, asLi_lst, e1, lenP_tup, decide_eq_true d3, decide_eq_true d13, ip, hp, Bool.false_and]
      · have d13 : ¬ ((ls.length : Nat) : Int) ≤ 13 := by omega
        have hN : okN ls.length = false := by
          unfold okN
          rw [Bool.eq_false_iff.mpr (fun z => c13 (Nat.ble_eq.mp z)), Bool.false_and, Bool.and_false]
        rw [hN]
        unfold m__is_square
        simp -implicitDefEqProofs only [bind_val, asB_bl, if_true, Bool.not_true, Bool.not_false, Bool.false_eq_true, if_false, retF_rt, seqF_nx, seqF_rt, asSq_lst, asSq_tup, partP_int, leP_int, ltP_int, gtP_int, geP_int, addP_int, subP_int, intP_int, tupleP_lst, asLi_lst, e1, lenP_tup, decide_eq_true d3, decide_eq_false d13, Bool.false_and]
    · have d3 : ¬ (3 : Int) ≤ (ls.length : Nat) := by omega
      have hN : okN ls.length = false := by
        unfold okN
        rw [Bool.eq_false_iff.mpr (fun z => c3 (Nat.ble_eq.mp z)), Bool.false_and]
      rw [hN]
      unfold m__is_square
      simp -implicitDefEqProofs only [bind_val, asB_bl, if_true, Bool.not_true, Bool.not_false, Bool.false_eq_true, if_false, retF_rt, seqF_nx, seqF_rt, asSq_lst, asSq_tup, partP_int, leP_int, ltP_int, gtP_int, geP_int, addP_int, subP_int, intP_int, tupleP_lst, asLi_lst, e1, lenP_tup, decide_eq_false d3, Bool.false_and]
  | _ => cases h
theorem okN_in : ∀ n : Nat, inP true (.int (n : Nat)) (.lst [.int 3, .int 5, .int 7, .int 11, .int 13]) = .val (.bl (!okN n)) := by
  intro n
  by_cases c : n ≤ 13
  · have : n = 0 ∨ n = 1 ∨ n = 2 ∨ n = 3 ∨ n = 4 ∨ n = 5 ∨ n = 6 ∨ n = 7 ∨ n = 8 ∨ n = 9 ∨ n = 10 ∨ n = 11 ∨ n = 12 ∨ n = 13 := by omega
    rcases this with rfl | rfl | rfl | rfl | rfl | rfl | rfl | rfl | rfl | rfl | rfl | rfl | rfl | rfl <;> rfl
  · have hn : okN n = false := by
      unfold okN
      rw [Bool.eq_false_iff.mpr (fun z => c (Nat.ble_eq.mp z)), Bool.false_and, Bool.and_false]
    rw [hn]
    show Res.val (PV.bl (!inV (.int (n : Nat)) [.int 3, .int 5, .int 7, .int 11, .int 13])) = _
    have : inV (.int (n : Nat)) [.int 3, .int 5, .int 7, .int 11, .int 13] = false := by
      refine List.any_eq_false.mpr fun y hy => ?_
      simp only [List.mem_cons, List.not_mem_nil, or_false] at hy
      rcases hy with rfl | rfl | rfl | rfl | rfl
      · show ¬ ((3 : Int) == (n : Nat)) = true
        simp; omega
      · show ¬ ((5 : Int) == (n : Nat)) = true
        simp; omega
      · show ¬ ((7 : Int) == (n : Nat)) = true
        simp; omega
      · show ¬ ((11 : Int) == (n : Nat)) = true
        simp; omega
      · show ¬ ((13 : Int) == (n : Nat)) = true
        simp; omega
    rw [this]
theorem lawsquareG {t : PV} (h : okTab t = true) : m__law_is_square t = .val (.bl (sqB t)) := by
  cases t with
  | int z =>
    have e1 : isiP (.int z) (.ty "tuple") = .val (.bl false) := rfl
    unfold m__law_is_square sqB
    simp -implicitDefEqProofs only [bind_val, asB_bl, if_true, Bool.not_true, Bool.not_false, Bool.false_eq_true, if_false, retF_rt, seqF_nx, seqF_rt, asSq_lst, asSq_tup, partP_int, leP_int, ltP_int, gtP_int, geP_int, addP_int, subP_int, intP_int, tupleP_lst, asLi_lst, e1]
  | tup ls =>
    unfold okTab at h
    rw [Bool.and_eq_true, Nat.ble_eq] at h
    have e1 : isiP (.tup ls) (.ty "tuple") = .val (.bl true) := rfl
    have m5 : ∀ a b c d e : PV, mkL [a, b, c, d, e] = .val (.lst [a, b, c, d, e]) := fun _ _ _ _ _ => mkL_ok (by show 5 ≤ 10000000; decide)
    unfold m__law_is_square sqB
    cases c : okN ls.length with
    | false => simp -implicitDefEqProofs only [bind_val, asB_bl, if_true, Bool.not_true, Bool.not_false, Bool.false_eq_true, if_false, retF_rt, seqF_nx, seqF_rt, asSq_lst, asSq_tup, partP_int, leP_int, ltP_int, gtP_int, geP_int, addP_int, subP_int, intP_int, tupleP_lst, asLi_lst, e1, lenP_tup, m5, okN_in, c, Bool.false_and]
    | true =>
      simp -implicitDefEqProofs only [bind_val, asB_bl, if_true, Bool.not_true, Bool.not_false, Bool.false_eq_true, if_false, retF_rt, seqF_nx, seqF_rt, asSq_lst, asSq_tup, partP_int, leP_int, ltP_int, gtP_int, geP_int, addP_int, subP_int, intP_int, tupleP_lst, asLi_lst, e1, lenP_tup, m5, okN_in, c, Bool.true_and]
      rw [forF_chk (f := rowB ls.length) (v := .bl false) (r := []) ?hb]
      case hb =>
        intro p hp
        have hr := List.all_eq_true.mp h.1 p hp
        cases p with
        | int z =>
          have e2 : isiP (.int z) (.ty "tuple") = .val (.bl false) := rfl
          unfold rowB
          simp -implicitDefEqProofs only [bind_val, asB_bl, if_true, Bool.not_true, Bool.not_false, Bool.false_eq_true, if_false, retF_rt, seqF_nx, seqF_rt, asSq_lst, asSq_tup, partP_int, leP_int, ltP_int, gtP_int, geP_int, addP_int, subP_int, intP_int, tupleP_lst, asLi_lst, e2]
        | tup ps =>
          unfold okRow at hr
          rw [Bool.and_eq_true, Nat.ble_eq] at hr
          have e2 : isiP (.tup ps) (.ty "tuple") = .val (.bl true) := rfl
          unfold rowB
          cases cl : Nat.beq ps.length ls.length with
          | false => simp -implicitDefEqProofs only [bind_val, asB_bl, if_true, Bool.not_true, Bool.not_false, Bool.false_eq_true, if_false, retF_rt, seqF_nx, seqF_rt, asSq_lst, asSq_tup, partP_int, leP_int, ltP_int, gtP_int, geP_int, addP_int, subP_int, intP_int, tupleP_lst, asLi_lst, e2, lenP_tup, neP_nat, cl, Bool.false_and]
          | true =>
            simp -implicitDefEqProofs only [bind_val, asB_bl, if_true, Bool.not_true, Bool.not_false, Bool.false_eq_true, if_false, retF_rt, seqF_nx, seqF_rt, asSq_lst, asSq_tup, partP_int, leP_int, ltP_int, gtP_int, geP_int, addP_int, subP_int, intP_int, tupleP_lst, asLi_lst, e2, lenP_tup, neP_nat, cl, Bool.true_and]
            rw [forF_chk (f := resB ls.length) (v := .bl false) (r := []) ?hi]
            case hi =>
              intro p2 hp2
              have hq := List.all_eq_true.mp hr.1 p2 hp2
              cases p2 with
              | int z =>
                have e3 : isiP (.int z) (.ty "int") = .val (.bl true) := rfl
                unfold resB
                by_cases k0 : (0 : Int) ≤ z
                · have k0' : ¬ z < 0 := by omega
                  by_cases k1 : z < (ls.length : Nat)
                  · have k1' : ¬ ((ls.length : Nat) : Int) ≤ z := by omega
                    simp -implicitDefEqProofs only [bind_val, asB_bl, if_true, Bool.not_true, Bool.not_false, Bool.false_eq_true, if_false, retF_rt, seqF_nx, seqF_rt, asSq_lst, asSq_tup, partP_int, leP_int, ltP_int, gtP_int, geP_int, addP_int, subP_int, intP_int, tupleP_lst, asLi_lst, e3, decide_eq_false k0', decide_eq_true k0, decide_eq_true k1, decide_eq_false k1', Bool.true_and]
                  · have k1' : ((ls.length : Nat) : Int) ≤ z := by omega
                    simp -implicitDefEqProofs only [bind_val, asB_bl, if_true, Bool.not_true, Bool.not_false, Bool.false_eq_true, if_false, retF_rt, seqF_nx, seqF_rt, asSq_lst, asSq_tup, partP_int, leP_int, ltP_int, gtP_int, geP_int, addP_int, subP_int, intP_int, tupleP_lst, asLi_lst, e3, decide_eq_false k0', decide_eq_true k0, decide_eq_false k1, decide_eq_true k1', Bool.true_and]
                · have k0' : z < 0 := by omega
                  simp -implicitDefEqProofs only [bind_val, asB_bl, if_true, Bool.not_true, Bool.not_false, Bool.false_eq_true, if_false, retF_rt, seqF_nx, seqF_rt, asSq_lst, asSq_tup, partP_int, leP_int, ltP_int, gtP_int, geP_int, addP_int, subP_int, intP_int, tupleP_lst, asLi_lst, e3, decide_eq_true k0', decide_eq_false k0, Bool.false_and]
              | tup qs =>
                have e3 : isiP (.tup qs) (.ty "int") = .val (.bl false) := rfl
                unfold resB
                simp -implicitDefEqProofs only [bind_val, asB_bl, if_true, Bool.not_true, Bool.not_false, Bool.false_eq_true, if_false, retF_rt, seqF_nx, seqF_rt, asSq_lst, asSq_tup, partP_int, leP_int, ltP_int, gtP_int, geP_int, addP_int, subP_int, intP_int, tupleP_lst, asLi_lst, e3]
              | _ => cases hq
            cases ps.all (resB ls.length) <;> rfl
        | _ => cases hr
      cases ls.all (rowB ls.length) <;> rfl
  | _ => cases h
/-! ### square tables -/
theorem rgL_nat {q : Nat} (h : q ≤ 10000) : rgL 0 (q : Nat) = .val (PN (List.range q)) := by
  unfold rgL
  rw [if_pos ⟨by decide, by decide, by omega, by omega, by omega⟩, rngP_0]
def tabN (T : Nat → Nat → Nat) (q : Nat) : PV := .tup ((List.range q).map fun a => PV.tup (PN ((List.range q).map fun b => T a b)))
def entN (ls : List PV) (a b : Nat) : Nat := match ls[a]? with
  | some (.tup ps) => (match ps[b]? with
    | some (.int z) => z.toNat
    | _ => 0)
  | _ => 0
theorem sq_tab {t : PV} (h : sqB t = true) : ∃ T q, t = tabN T q ∧ okN q = true ∧ ∀ a b, a < q → b < q → T a b < q := by
  cases t with
  | tup ls =>
    have h' : (okN ls.length && ls.all (rowB ls.length)) = true := h
    rw [Bool.and_eq_true] at h'
    obtain ⟨h1, h2⟩ := h'
    have row : ∀ a (ha : a < ls.length), ∃ ps, ls[a] = .tup ps ∧ ps.length = ls.length ∧ ∀ b (hb : b < ps.length), ∃ z : Int, ps[b] = .int z ∧ 0 ≤ z ∧ z < (ls.length : Int) := fun a ha => by
      have hr := List.all_eq_true.mp h2 ls[a] (List.getElem_mem ha)
      cases e : ls[a] with
      | tup ps =>
        rw [e] at hr
        have hr' : (Nat.beq ps.length ls.length && ps.all (resB ls.length)) = true := hr
        rw [Bool.and_eq_true] at hr'
        refine ⟨ps, rfl, Nat.beq_eq.mp hr'.1, fun b hb => ?_⟩
        have hq := List.all_eq_true.mp hr'.2 ps[b] (List.getElem_mem hb)
        cases e2 : ps[b] with
        | int z =>
          rw [e2] at hq
          have hq' : (decide (0 ≤ z) && decide (z < (ls.length : Int))) = true := hq
          rw [Bool.and_eq_true, decide_eq_true_eq, decide_eq_true_eq] at hq'
          exact ⟨z, rfl, hq'.1, hq'.2⟩
        | _ => rw [e2] at hq; cases hq
      | _ => rw [e] at hr; cases hr
    refine ⟨entN ls, ls.length, ?_, h1, fun a b ha hb => ?_⟩
    · unfold tabN
      congr 1
      refine List.ext_getElem (by rw [List.length_map, List.length_range]) fun a ha _ => ?_
      obtain ⟨ps, e, hl, hp⟩ := row a ha
      rw [List.getElem_map, List.getElem_range, e]
      congr 1
      unfold PN
      refine List.ext_getElem (by rw [List.length_map, List.length_map, List.length_range, hl]) fun b hb _ => ?_
      obtain ⟨z, e2, z0, z1⟩ := hp b hb
      rw [List.getElem_map, List.getElem_map, List.getElem_range, e2]
      have : entN ls a b = z.toNat := by
        unfold entN
        rw [List.getElem?_eq_getElem ha, e]
        show (match ps[b]? with | some (.int z) => z.toNat | _ => 0) = _
        rw [List.getElem?_eq_getElem hb, e2]
      rw [this, Int.toNat_of_nonneg z0]
    · obtain ⟨ps, e, hl, hp⟩ := row a ha
      obtain ⟨z, e2, z0, z1⟩ := hp b (by omega)
      have : entN ls a b = z.toNat := by
        unfold entN
        rw [List.getElem?_eq_getElem ha, e]
        show (match ps[b]? with | some (.int z) => z.toNat | _ => 0) = _
        rw [List.getElem?_eq_getElem (show b < ps.length by omega), e2]
      omega
  | _ => cases h
def rowTN (T : Nat → Nat → Nat) (q a : Nat) : List Nat := (List.range q).map fun b => T a b
theorem rowTN_len {T : Nat → Nat → Nat} {q a : Nat} : (rowTN T q a).length = q := by unfold rowTN; rw [List.length_map, List.length_range]
theorem forF_chkN {L : Type} {body : PV → Unit → Res (Fl Unit Unit)} {f : Nat → Bool} {v : PV} {r : List MO} : ∀ {l : List Nat}, (∀ n, n ∈ l → body (.int (n : Nat)) () = if f n = true then .val (.nx ()) else .val (.rt v r)) → forF (L := L) body (PN l) () = if l.all f = true then .val (.nx ()) else .val (.rt v r)
  | [], _ => rfl
  | n :: l, h => by
    have ih := forF_chkN (L := L) fun q hq => h q (List.mem_cons_of_mem _ hq)
    show forF body (PV.int (n : Nat) :: PN l) () = _
    unfold forF
    rw [h n List.mem_cons_self, List.all_cons]
    cases f n with
    | true => rw [if_pos rfl, Bool.true_and]; exact ih
    | false => rfl
theorem lcMap {α : Type} {e : PV → Res PV} {F : α → PV} {f : α → Bool} : ∀ {l : List α}, (∀ a, a ∈ l → e (F a) = .val (.bl (f a))) → lcF (fun x => Res.val x) (fun (_ : PV) => Res.val true) e (l.map F) = .val ((l.map f).map PV.bl)
  | [], _ => rfl
  | a :: l, h => by
    have ih := lcMap (l := l) fun b hb => h b (List.mem_cons_of_mem _ hb)
    rw [List.map_cons]
    unfold lcF
    rw [noX_val, bind_val, noX_val, bind_val, if_pos rfl, h a List.mem_cons_self, noX_val, bind_val, ih]
    rfl
theorem allB' {α : Type} {f : α → Bool} {l : List α} : allP (.lst ((l.map f).map PV.bl)) = .val (.bl (l.all f)) := by
  rw [allP_bls, List.all_map]
  rfl
theorem lenSetG {l : List Nat} (hl : l.length < 1000) : lenSetP (.tup (PN l)) = .val (.int ((dedupI (l.map fun n => ((n : Nat) : Int))).length : Nat)) := by
  unfold lenSetP
  rw [PN_ints]
  simp only [allI_map]
  rw [if_pos (by rw [List.length_map]; exact hl)]
section
variable {T : Nat → Nat → Nat} {q : Nat}
theorem tabN_ix {a : Nat} (h : a < q) : ixP (tabN T q) (.int (a : Nat)) = .val (.tup (PN (rowTN T q a))) := ixP_tup (by rw [List.getElem?_map, List.getElem?_range h]; rfl)
theorem tabN_ix2 {a b : Nat} (h : b < q) : ixP (.tup (PN (rowTN T q a))) (.int (b : Nat)) = .val (.int (T a b : Nat)) := ixP_tup (PN_get (by unfold rowTN; rw [List.getElem?_map, List.getElem?_range h]; rfl))
theorem tabN_len : lenP (tabN T q) = .val (.int (q : Nat)) := by
  show Res.val (PV.int (((List.range q).map fun a => PV.tup (PN (rowTN T q a))).length : Nat)) = _
  rw [List.length_map, List.length_range]
def uB (T : Nat → Nat → Nat) (q u : Nat) : Bool := (List.range q).all fun a => Nat.beq (T u a) a && Nat.beq (T a u) a
def UL (T : Nat → Nat → Nat) (q : Nat) : List Nat := (List.range q).filter (uB T q)
def dB (T : Nat → Nat → Nat) (q : Nat) : Bool := (List.range q).all fun a => Nat.beq (dedupI ((rowTN T q a).map fun n => ((n : Nat) : Int))).length q
def aB (T : Nat → Nat → Nat) (q : Nat) : Bool := (List.range q).all fun a => (List.range q).all fun b => (List.range q).all fun c => Nat.beq (T (T a b) c) (T a (T b c))
def gB (T : Nat → Nat → Nat) (q : Nat) : Bool := !(UL T q).isEmpty && (dB T q && aB T q)
theorem unit_row {u : Nat} (hu : u < q) : lcF (fun x => Res.val x) (fun (_ : PV) => Res.val true) (fun (a7 : PV) => (((ixP (tabN T q) (.int (u : Nat)) >>= fun x16 => ixP x16 a7) >>= fun x18 => eqP x18 a7) >>= asB) >>= fun b20 => if b20 = true then ((ixP (tabN T q) a7 >>= fun x10 => ixP x10 (.int (u : Nat))) >>= fun x12 => eqP x12 a7) else Res.val (PV.bl false)) (PN (List.range q)) = .val (((List.range q).map fun a => Nat.beq (T u a) a && Nat.beq (T a u) a).map PV.bl) := by
  refine lcMap fun a ha => ?_
  have ha' := List.mem_range.mp ha
  cases c : Nat.beq (T u a) a with
  | true => simp -implicitDefEqProofs only [bind_val, asB_bl, if_true, Bool.not_true, Bool.not_false, Bool.false_eq_true, if_false, retF_rt, seqF_nx, seqF_rt, asSq_lst, asSq_tup, partP_int, leP_int, ltP_int, gtP_int, geP_int, addP_int, subP_int, intP_int, tupleP_lst, asLi_lst, tabN_ix hu, tabN_ix2 ha', tabN_ix ha', tabN_ix2 hu, eqP_nat, c, Bool.true_and]
  | false => simp -implicitDefEqProofs only [bind_val, asB_bl, if_true, Bool.not_true, Bool.not_false, Bool.false_eq_true, if_false, retF_rt, seqF_nx, seqF_rt, asSq_lst, asSq_tup, partP_int, leP_int, ltP_int, gtP_int, geP_int, addP_int, subP_int, intP_int, tupleP_lst, asLi_lst, tabN_ix hu, tabN_ix2 ha', tabN_ix ha', tabN_ix2 hu, eqP_nat, c, Bool.false_and]
theorem unitsN (hq : q ≤ 13) : m__units (tabN T q) = .val (.lst (PN (UL T q))) := by
  have rg := rgL_nat (q := q) (by omega)
  have sz : sized (PN (List.range q)).length = .val () := sized_small (by rw [PN_len, List.length_range]; omega)
  have outer := lcN (c := fun (a6 : PV) => (((((sized (PN (List.range q)).length >>= fun _ => lcF (fun x => Res.val x) (fun (_ : PV) => Res.val true) (fun (a7 : PV) => (((ixP (tabN T q) a6 >>= fun x16 => ixP x16 a7) >>= fun x18 => eqP x18 a7) >>= asB) >>= fun b20 => if b20 = true then ((ixP (tabN T q) a7 >>= fun x10 => ixP x10 a6) >>= fun x12 => eqP x12 a7) else Res.val (PV.bl false)) (PN (List.range q))) >>= fun ps22 => Res.val (PV.lst ps22)) >>= allP) >>= asB))) (e := fun a => Res.val a) (k := uB T q) (g := fun n => .int (n : Nat)) (l := List.range q)
    (fun u hu => by
      rw [sz, bind_val, unit_row (List.mem_range.mp hu), bind_val, bind_val, allB']
      rfl) (fun _ _ _ => rfl)
  simp -implicitDefEqProofs only [bind_val, sz] at outer
  unfold m__units
  simp -implicitDefEqProofs only [bind_val, asB_bl, if_true, Bool.not_true, Bool.not_false, Bool.false_eq_true, if_false, retF_rt, seqF_nx, seqF_rt, asSq_lst, asSq_tup, partP_int, leP_int, ltP_int, gtP_int, geP_int, addP_int, subP_int, intP_int, tupleP_lst, asLi_lst, tabN_len, rg, sz, outer]
  rfl
theorem UL_succ {i : Nat} : ((List.range (i + 1)).filter (uB T q)) = if uB T q i = true then (List.range i).filter (uB T q) ++ [i] else (List.range i).filter (uB T q) := by
  rw [List.range_succ, List.filter_append]
  by_cases c : uB T q i = true
  · rw [if_pos c, List.filter_cons_of_pos c]
    rfl
  · rw [if_neg c, List.filter_cons_of_neg c]
    exact List.append_nil _
theorem lawunitsN (hq : q ≤ 13) : m__law_units (tabN T q) = .val (.lst (PN (UL T q))) := by
  have r1 : rng1 (.int (q : Nat)) = .val (PN (List.range q)) := rng1_nat (by omega)
  have sz : sized (PN (List.range q)).length = .val () := sized_small (by rw [PN_len, List.length_range]; omega)
  have n0 : mkN [] = .val [] := mkN_ok (by show 0 ≤ 10000000; decide)
  have lp := forF_rng1 (S := List PV) (L := Empty) (n := q) (body := fun (x24 : PV) (s3 : List PV) => ((((sized (PN (List.range q)).length >>= fun _ => lcF (fun x => Res.val x) (fun (_ : PV) => Res.val true) (fun (a7 : PV) => (((ixP (tabN T q) x24 >>= fun x16 => ixP x16 a7) >>= fun x18 => eqP x18 a7) >>= asB) >>= fun b20 => if b20 = true then ((ixP (tabN T q) a7 >>= fun x10 => ixP x10 x24) >>= fun x12 => eqP x12 a7) else Res.val (PV.bl false)) (PN (List.range q))) >>= fun ps20 => Res.val (PV.lst ps20)) >>= allP) >>= asB) >>= fun b21 => if b21 = true then (sized (s3.length + 1) >>= fun _ => (Res.val (Fl.nx (s3 ++ [x24])))) else (Res.val (Fl.nx s3)))
    (fun i => PN ((List.range i).filter (uB T q))) (by omega) fun i hi => by
      have le : ((List.range i).filter (uB T q)).length ≤ i := Nat.le_trans (List.length_filter_le ..) (by rw [List.length_range]; omega)
      have s1 : sized ((PN ((List.range i).filter (uB T q))).length + 1) = .val () := sized_small (by rw [PN_len]; omega)
      have e : ((List.range q).all fun a => Nat.beq (T i a) a && Nat.beq (T a i) a) = uB T q i := rfl
      rw [sz, bind_val, unit_row hi, bind_val, bind_val, allB', e, UL_succ]
      cases c : uB T q i with
      | true =>
        simp -implicitDefEqProofs only [bind_val, asB_bl, if_true, Bool.not_true, Bool.not_false, Bool.false_eq_true, if_false, retF_rt, seqF_nx, seqF_rt, asSq_lst, asSq_tup, partP_int, leP_int, ltP_int, gtP_int, geP_int, addP_int, subP_int, intP_int, tupleP_lst, asLi_lst, s1]
        rw [PN_app]
      | false =>
        simp -implicitDefEqProofs only [bind_val, asB_bl, if_true, Bool.not_true, Bool.not_false, Bool.false_eq_true, if_false, retF_rt, seqF_nx, seqF_rt, asSq_lst, asSq_tup, partP_int, leP_int, ltP_int, gtP_int, geP_int, addP_int, subP_int, intP_int, tupleP_lst, asLi_lst]
  simp -implicitDefEqProofs only [bind_val, sz] at lp
  rw [r1, bind_val] at lp
  have st : PN ((List.range 0).filter (uB T q)) = [] := rfl
  rw [st] at lp
  unfold m__law_units
  simp -implicitDefEqProofs only [bind_val, asB_bl, if_true, Bool.not_true, Bool.not_false, Bool.false_eq_true, if_false, retF_rt, seqF_nx, seqF_rt, asSq_lst, asSq_tup, partP_int, leP_int, ltP_int, gtP_int, geP_int, addP_int, subP_int, intP_int, tupleP_lst, asLi_lst, tabN_len, n0, r1, sz, lp]
  rfl
theorem chk_seq {b : Bool} {v : PV} {r : List MO} {L : Type} : (seqF (S1 := Unit) (L := L) (if b = true then Res.val (Fl.nx ()) else Res.val (Fl.rt v r)) fun _ => Res.val (Fl.nx ())) = if b = true then .val (.nx ()) else .val (.rt v r) := by
  cases b <;> rfl
theorem assocN (hT : ∀ a b, a < q → b < q → T a b < q) (hq : q ≤ 13) : m__is_associative (tabN T q) = .val (.bl (aB T q)) := by
  have rg := rgL_nat (q := q) (by omega)
  have sz : sized (PN (List.range q)).length = .val () := sized_small (by rw [PN_len, List.length_range]; omega)
  have inner : ∀ a b, a < q → b < q → lcF (fun x => Res.val x) (fun (_ : PV) => Res.val true) (fun (a10 : PV) => (((ixP (tabN T q) (.int (a : Nat)) >>= fun x13 => ixP x13 (.int (b : Nat))) >>= fun x16 => ixP (tabN T q) x16) >>= fun x17 => ixP x17 a10) >>= fun x27 => (ixP (tabN T q) (.int (a : Nat)) >>= fun x25 => (ixP (tabN T q) (.int (b : Nat)) >>= fun x23 => ixP x23 a10) >>= fun x26 => ixP x25 x26) >>= fun x28 => eqP x27 x28) (PN (List.range q)) = .val (((List.range q).map fun c => Nat.beq (T (T a b) c) (T a (T b c))).map PV.bl) := fun a b ha hb => lcMap fun c hc => by
    have hc' := List.mem_range.mp hc
    simp -implicitDefEqProofs only [bind_val, asB_bl, if_true, Bool.not_true, Bool.not_false, Bool.false_eq_true, if_false, retF_rt, seqF_nx, seqF_rt, asSq_lst, asSq_tup, partP_int, leP_int, ltP_int, gtP_int, geP_int, addP_int, subP_int, intP_int, tupleP_lst, asLi_lst, tabN_ix ha, tabN_ix2 hb, tabN_ix (hT a b ha hb), tabN_ix2 hc', tabN_ix hb, tabN_ix2 (hT b c hb hc'), eqP_nat]
  unfold m__is_associative
  simp -implicitDefEqProofs only [bind_val, asB_bl, if_true, Bool.not_true, Bool.not_false, Bool.false_eq_true, if_false, retF_rt, seqF_nx, seqF_rt, asSq_lst, asSq_tup, partP_int, leP_int, ltP_int, gtP_int, geP_int, addP_int, subP_int, intP_int, tupleP_lst, asLi_lst, tabN_len, rg]
  rw [forF_chkN (f := fun a => (List.range q).all fun b => (List.range q).all fun c => Nat.beq (T (T a b) c) (T a (T b c))) (v := .bl false) (r := []) ?ho]
  case ho =>
    intro a ha
    rw [forF_chkN (f := fun b => (List.range q).all fun c => Nat.beq (T (T a b) c) (T a (T b c))) (v := .bl false) (r := []) ?hi]
    case hi =>
      intro b hb
      have i2 := inner a b (List.mem_range.mp ha) (List.mem_range.mp hb)
      simp -implicitDefEqProofs only [bind_val] at i2
      simp -implicitDefEqProofs only [bind_val, asB_bl, if_true, Bool.not_true, Bool.not_false, Bool.false_eq_true, if_false, retF_rt, seqF_nx, seqF_rt, asSq_lst, asSq_tup, partP_int, leP_int, ltP_int, gtP_int, geP_int, addP_int, subP_int, intP_int, tupleP_lst, asLi_lst, sz, i2, allB']
      cases (List.range q).all fun c => Nat.beq (T (T a b) c) (T a (T b c)) <;> rfl
    exact chk_seq
  show retF (seqF (if aB T q = true then _ else _) _) = _
  cases aB T q <;> rfl
end
/-! ### what is asked of a table, and what the program tells -/
section
variable {T : Nat → Nat → Nat} {q : Nat}
theorem okN_le {q : Nat} (h : okN q = true) : 3 ≤ q ∧ q ≤ 13 := by
  unfold okN at h
  simp only [Bool.and_eq_true, Nat.ble_eq] at h
  exact ⟨h.1, h.2.1⟩
theorem tabN_len' : ((List.range q).map fun a => PV.tup (PN (rowTN T q a))).length = q := by rw [List.length_map, List.length_range]
theorem distinctN (hq : q ≤ 13) : lcF (fun x => Res.val x) (fun (_ : PV) => Res.val true) (fun (a8 : PV) => lenSetP a8 >>= fun x9 => eqP x9 (.int (q : Nat))) ((List.range q).map fun a => PV.tup (PN (rowTN T q a))) = .val (((List.range q).map fun a => Nat.beq (dedupI ((rowTN T q a).map fun n => ((n : Nat) : Int))).length q).map PV.bl) := lcMap fun a ha => by
  have ls := lenSetG (l := rowTN T q a) (by rw [rowTN_len]; omega)
  simp -implicitDefEqProofs only [bind_val, asB_bl, if_true, Bool.not_true, Bool.not_false, Bool.false_eq_true, if_false, retF_rt, seqF_nx, seqF_rt, asSq_lst, asSq_tup, partP_int, leP_int, ltP_int, gtP_int, geP_int, addP_int, subP_int, intP_int, tupleP_lst, asLi_lst, ls, eqP_nat]
theorem grouptableN (hs : sqB (tabN T q) = true) (hT : ∀ a b, a < q → b < q → T a b < q) (hq : q ≤ 13) (ht : okTab (tabN T q) = true) : m__is_group_table (tabN T q) = .val (.bl (gB T q)) := by
  have sq := squareG ht
  rw [hs] at sq
  have tu : truP (.lst (PN (UL T q))) = .val (!(UL T q).isEmpty) := by
    show Res.val (!(PN (UL T q)).isEmpty) = _
    unfold PN
    cases UL T q <;> rfl
  have as : asSq (tabN T q) = .val ((List.range q).map fun a => PV.tup (PN (rowTN T q a))) := rfl
  have sz : sized ((List.range q).map fun a => PV.tup (PN (rowTN T q a))).length = .val () := sized_small (by rw [tabN_len']; omega)
  have di := distinctN (T := T) hq
  try simp -implicitDefEqProofs only [bind_val] at di
  have e : ((List.range q).all fun a => Nat.beq (dedupI ((rowTN T q a).map fun n => ((n : Nat) : Int))).length q) = dB T q := rfl
  unfold m__is_group_table gB
  cases hu : (UL T q).isEmpty with
  | true => simp -implicitDefEqProofs only [bind_val, asB_bl, if_true, Bool.not_true, Bool.not_false, Bool.false_eq_true, if_false, retF_rt, seqF_nx, seqF_rt, asSq_lst, asSq_tup, partP_int, leP_int, ltP_int, gtP_int, geP_int, addP_int, subP_int, intP_int, tupleP_lst, asLi_lst, sq, unitsN hq, tu, hu, Bool.false_and]
  | false =>
    cases hd : dB T q with
    | true => simp -implicitDefEqProofs only [bind_val, asB_bl, if_true, Bool.not_true, Bool.not_false, Bool.false_eq_true, if_false, retF_rt, seqF_nx, seqF_rt, asSq_lst, asSq_tup, partP_int, leP_int, ltP_int, gtP_int, geP_int, addP_int, subP_int, intP_int, tupleP_lst, asLi_lst, sq, unitsN hq, tu, hu, as, sz, tabN_len, di, allB', e, hd, assocN hT hq, Bool.true_and]
    | false => simp -implicitDefEqProofs only [bind_val, asB_bl, if_true, Bool.not_true, Bool.not_false, Bool.false_eq_true, if_false, retF_rt, seqF_nx, seqF_rt, asSq_lst, asSq_tup, partP_int, leP_int, ltP_int, gtP_int, geP_int, addP_int, subP_int, intP_int, tupleP_lst, asLi_lst, sq, unitsN hq, tu, hu, as, sz, tabN_len, di, allB', e, hd, Bool.true_and, Bool.false_and]
theorem lawgroupN (hs : sqB (tabN T q) = true) (hT : ∀ a b, a < q → b < q → T a b < q) (hq : q ≤ 13) (ht : okTab (tabN T q) = true) : m__law_is_group (tabN T q) = .val (.bl (gB T q)) := by
  have sq := lawsquareG ht
  rw [hs] at sq
  have r1 : rng1 (.int (q : Nat)) = .val (PN (List.range q)) := rng1_nat (by omega)
  have lu : lenP (.lst (PN (UL T q))) = .val (.int ((UL T q).length : Nat)) := by rw [lenP_lst, PN_len]
  have z0 : ∀ n : Nat, eqP (.int (n : Nat)) (.int 0) = .val (.bl (Nat.beq n 0)) := fun n => eqP_nat (b := 0)
  have zl : Nat.beq (UL T q).length 0 = (UL T q).isEmpty := by cases UL T q <;> rfl
  have as : asSq (tabN T q) = .val ((List.range q).map fun a => PV.tup (PN (rowTN T q a))) := rfl
  have sz : sized ((List.range q).map fun a => PV.tup (PN (rowTN T q a))).length = .val () := sized_small (by rw [tabN_len']; omega)
  have di := distinctN (T := T) hq
  try simp -implicitDefEqProofs only [bind_val] at di
  have e : ((List.range q).all fun a => Nat.beq (dedupI ((rowTN T q a).map fun n => ((n : Nat) : Int))).length q) = dB T q := rfl
  unfold m__law_is_group gB
  cases hu : (UL T q).isEmpty with
  | true => simp -implicitDefEqProofs only [bind_val, asB_bl, if_true, Bool.not_true, Bool.not_false, Bool.false_eq_true, if_false, retF_rt, seqF_nx, seqF_rt, asSq_lst, asSq_tup, partP_int, leP_int, ltP_int, gtP_int, geP_int, addP_int, subP_int, intP_int, tupleP_lst, asLi_lst, sq, lawunitsN hq, lu, z0, zl, hu, Bool.false_and]
  | false =>
    cases hd : dB T q with
    | false => simp -implicitDefEqProofs only [bind_val, asB_bl, if_true, Bool.not_true, Bool.not_false, Bool.false_eq_true, if_false, retF_rt, seqF_nx, seqF_rt, asSq_lst, asSq_tup, partP_int, leP_int, ltP_int, gtP_int, geP_int, addP_int, subP_int, intP_int, tupleP_lst, asLi_lst, sq, lawunitsN hq, lu, z0, zl, hu, as, sz, tabN_len, di, allB', e, hd, Bool.true_and, Bool.false_and]
    | true =>
      simp -implicitDefEqProofs only [bind_val, asB_bl, if_true, Bool.not_true, Bool.not_false, Bool.false_eq_true, if_false, retF_rt, seqF_nx, seqF_rt, asSq_lst, asSq_tup, partP_int, leP_int, ltP_int, gtP_int, geP_int, addP_int, subP_int, intP_int, tupleP_lst, asLi_lst, sq, lawunitsN hq, lu, z0, zl, hu, as, sz, tabN_len, di, allB', e, hd, Bool.true_and, r1]
      rw [forF_chkN (f := fun a => (List.range q).all fun b => (List.range q).all fun c => Nat.beq (T (T a b) c) (T a (T b c))) (v := .bl false) (r := []) ?ho]
      case ho =>
        intro a ha
        have ha' := List.mem_range.mp ha
        rw [forF_chkN (f := fun b => (List.range q).all fun c => Nat.beq (T (T a b) c) (T a (T b c))) (v := .bl false) (r := []) ?hi]
        case hi =>
          intro b hb
          have hb' := List.mem_range.mp hb
          simp -implicitDefEqProofs only [bind_val, asB_bl, if_true, Bool.not_true, Bool.not_false, Bool.false_eq_true, if_false, retF_rt, seqF_nx, seqF_rt, asSq_lst, asSq_tup, partP_int, leP_int, ltP_int, gtP_int, geP_int, addP_int, subP_int, intP_int, tupleP_lst, asLi_lst, tabN_ix ha', tabN_ix2 hb']
          rw [forF_chkN (f := fun c => Nat.beq (T (T a b) c) (T a (T b c))) (v := .bl false) (r := []) ?hc]
          case hc =>
            intro c hc
            have hc' := List.mem_range.mp hc
            cases cc : Nat.beq (T (T a b) c) (T a (T b c)) with
            | true => simp -implicitDefEqProofs only [bind_val, asB_bl, if_true, Bool.not_true, Bool.not_false, Bool.false_eq_true, if_false, retF_rt, seqF_nx, seqF_rt, asSq_lst, asSq_tup, partP_int, leP_int, ltP_int, gtP_int, geP_int, addP_int, subP_int, intP_int, tupleP_lst, asLi_lst, tabN_ix (hT a b ha' hb'), tabN_ix2 hc', tabN_ix ha', tabN_ix hb', tabN_ix2 (hT b c hb' hc'), neP_nat, cc]
            | false => simp -implicitDefEqProofs only [bind_val, asB_bl, if_true, Bool.not_true, Bool.not_false, Bool.false_eq_true, if_false, retF_rt, seqF_nx, seqF_rt, asSq_lst, asSq_tup, partP_int, leP_int, ltP_int, gtP_int, geP_int, addP_int, subP_int, intP_int, tupleP_lst, asLi_lst, tabN_ix (hT a b ha' hb'), tabN_ix2 hc', tabN_ix ha', tabN_ix hb', tabN_ix2 (hT b c hb' hc'), neP_nat, cc]
          exact chk_seq
        exact chk_seq
      show retF (seqF (if aB T q = true then _ else _) _) = _
      cases aB T q <;> rfl
def seqT (T : Nat → Nat → Nat) (u g : Nat) : Nat → Nat
  | 0 => u
  | k + 1 => T (seqT T u g k) g
theorem seqT_lt (hT : ∀ a b, a < q → b < q → T a b < q) {u g : Nat} (hu : u < q) (hg : g < q) : ∀ k, seqT T u g k < q
  | 0 => hu
  | k + 1 => hT _ _ (seqT_lt hT hu hg k) hg
theorem makeN (hq3 : 3 ≤ q) (hq : q ≤ 13) (hT : ∀ a b, a < q → b < q → T a b < q) (hg : m__is_group_table (tabN T q) = .val (.bl true)) {u : Nat} {us : List Nat} (hU : UL T q = u :: us) :
    ∃ g P D, m_TableGroup___init__ (.ob "TableGroup" []) (tabN T q) = .val (.non, .ob "TableGroup" (fsTg (tabN T q) q u (List.range q) g P D)) := by
  have hu : u < q := by
    have : u ∈ UL T q := by rw [hU]; exact List.mem_cons_self
    exact List.mem_range.mp (List.mem_filter.mp this).1
  obtain ⟨g, eg, gq⟩ : ∃ g, g = (if 0 = u then 1 else 0) ∧ g < q := ⟨_, rfl, by split <;> omega⟩
  obtain ⟨D, dc⟩ := dcAny (PL (seqT T u g) q) 0 []
  have f1 : ∀ a : PV, setF cs_table "TableGroup" [] "table" a = .val [("table", a)] := fun _ => rfl
  have g4 : ∀ a b c d e : PV, fldP cs_table "table" (.ins "TableGroup" [("table", a), ("order", b), ("unit", c), ("members", d), ("generator", e)]) = .val a := fun _ _ _ _ _ => rfl
  have hi := initTg (a := tabN T q) (q := q) (u := u) (g := g) (M := List.range q) (m0 := 0) (m1 := 1) (P := seqT T u g) (by omega) (by omega) (List.getElem?_range (by omega)) (List.getElem?_range (by omega)) eg rfl dc fun e k hk => by
    have lt := seqT_lt hT hu gq k
    rw [ap3_three]
    unfold m_TableGroup_multiply
    simp -implicitDefEqProofs only [bind_val, asB_bl, if_true, Bool.not_true, Bool.not_false, Bool.false_eq_true, if_false, retF_rt, seqF_nx, seqF_rt, asSq_lst, asSq_tup, partP_int, leP_int, ltP_int, gtP_int, geP_int, addP_int, subP_int, intP_int, tupleP_lst, asLi_lst, g4, tabN_ix lt, tabN_ix2 gq]
    rfl
  have u0 : ixP (.lst (PN (u :: us))) (.int 0) = .val (.int (u : Nat)) := ixP_lst (l := PN (u :: us)) (i := 0) rfl
  have rg := rgL_nat (q := q) (by omega)
  refine ⟨g, PL (seqT T u g) q, D, ?_⟩
  unfold m_TableGroup___init__
  simp -implicitDefEqProofs only [bind_val, asB_bl, if_true, Bool.not_true, Bool.not_false, Bool.false_eq_true, if_false, retF_rt, seqF_nx, seqF_rt, asSq_lst, asSq_tup, partP_int, leP_int, ltP_int, gtP_int, geP_int, addP_int, subP_int, intP_int, tupleP_lst, asLi_lst, hg, f1, tabN_len, unitsN hq, hU, u0, rg]
  unfold supP
  simp -implicitDefEqProofs only [bind_val, asB_bl, if_true, Bool.not_true, Bool.not_false, Bool.false_eq_true, if_false, retF_rt, seqF_nx, seqF_rt, asSq_lst, asSq_tup, partP_int, leP_int, ltP_int, gtP_int, geP_int, addP_int, subP_int, intP_int, tupleP_lst, asLi_lst, if_pos, apR3_t, hi, noX_val, retR_nx]
end
theorem sh3 : SeqAt.shaped (.str "told") = true := by decide +kernel
theorem sh4 : SeqAt.shaped (.str "group") = true := by decide +kernel
theorem hitBG : hit_BadGroup "BadGroup" = some true := rfl
theorem mk1 (a : PV) : mkT [a] = .val (.tup [a]) := mkT_ok (by show 1 ≤ 10000000; decide)
theorem mk6 (a b c d e f : PV) : mkT [a, b, c, d, e, f] = .val (.tup [a, b, c, d, e, f]) := mkT_ok (by show 6 ≤ 10000000; decide)
theorem alike_bl (n : Nat) (b : Bool) : m__law_alike (n + 1) (.bl b) (.bl b) = .val (.bl true) := by
  have h1 : isiP2 "tuple" "list" (.bl b) = .val (.bl false) := rfl
  have h2 : isiP (.bl b) (.ty "bool") = .val (.bl true) := rfl
  have h5 : isP (.bl b) .non = .val (.bl false) := rfl
  unfold m__law_alike
  simp -implicitDefEqProofs only [bind_val, asB_bl, if_true, Bool.not_true, Bool.not_false, Bool.false_eq_true, if_false, retF_rt, seqF_nx, seqF_rt, asSq_lst, asSq_tup, partP_int, leP_int, ltP_int, gtP_int, geP_int, addP_int, subP_int, intP_int, tupleP_lst, asLi_lst, h1, h2, h5, eqP_bl, decide_true]
theorem alG : m__law_alike 5 (.tup [.str "group"]) (.tup [.str "group"]) = .val (.bl true) := alike_tup 4 _ (by show 1 ≤ 10000000; decide) fun x hx => by
  rcases List.mem_singleton.mp hx with rfl
  exact alike_str 3 _ sh4
theorem right_ok {t : PV} (ht : okTab t = true) : m__law_right t = .val (.bl true) := by
  cases hs : sqB t with
  | false =>
    have s1 := squareG ht
    have s2 := lawsquareG ht
    rw [hs] at s1 s2
    have g1 : m__is_group_table t = .val (.bl false) := by
      unfold m__is_group_table
      simp -implicitDefEqProofs only [bind_val, asB_bl, if_true, Bool.not_true, Bool.not_false, Bool.false_eq_true, if_false, retF_rt, seqF_nx, seqF_rt, asSq_lst, asSq_tup, partP_int, leP_int, ltP_int, gtP_int, geP_int, addP_int, subP_int, intP_int, tupleP_lst, asLi_lst, s1]
    have g2 : m__law_is_group t = .val (.bl false) := by
      unfold m__law_is_group
      simp -implicitDefEqProofs only [bind_val, asB_bl, if_true, Bool.not_true, Bool.not_false, Bool.false_eq_true, if_false, retF_rt, seqF_nx, seqF_rt, asSq_lst, asSq_tup, partP_int, leP_int, ltP_int, gtP_int, geP_int, addP_int, subP_int, intP_int, tupleP_lst, asLi_lst, s2]
    have iv : m_TableGroup___init__ (.ob "TableGroup" []) t = .exc "BadGroup" := by
      unfold m_TableGroup___init__
      simp -implicitDefEqProofs only [bind_val, asB_bl, if_true, Bool.not_true, Bool.not_false, Bool.false_eq_true, if_false, retF_rt, seqF_nx, seqF_rt, asSq_lst, asSq_tup, partP_int, leP_int, ltP_int, gtP_int, geP_int, addP_int, subP_int, intP_int, tupleP_lst, asLi_lst, g1]
      rfl
    have as : m__law_asked t = .val (.tup [.str "group"]) := by
      unfold m__law_asked tryF
      simp -implicitDefEqProofs only [bind_val, asB_bl, if_true, Bool.not_true, Bool.not_false, Bool.false_eq_true, if_false, retF_rt, seqF_nx, seqF_rt, asSq_lst, asSq_tup, partP_int, leP_int, ltP_int, gtP_int, geP_int, addP_int, subP_int, intP_int, tupleP_lst, asLi_lst, apR1_o, iv, exc_bind, hitBG, mk1, noX_val]
    unfold m__law_right
    simp -implicitDefEqProofs only [bind_val, asB_bl, if_true, Bool.not_true, Bool.not_false, Bool.false_eq_true, if_false, retF_rt, seqF_nx, seqF_rt, asSq_lst, asSq_tup, partP_int, leP_int, ltP_int, gtP_int, geP_int, addP_int, subP_int, intP_int, tupleP_lst, asLi_lst, mk1, g2, as, alG]
  | true =>
    obtain ⟨T, q, rfl, hN, hT⟩ := sq_tab hs
    obtain ⟨h3, h13⟩ := okN_le hN
    have g1 := grouptableN hs hT h13 ht
    have g2 := lawgroupN hs hT h13 ht
    cases hg : gB T q with
    | false =>
      rw [hg] at g1 g2
      have iv : m_TableGroup___init__ (.ob "TableGroup" []) (tabN T q) = .exc "BadGroup" := by
        unfold m_TableGroup___init__
        simp -implicitDefEqProofs only [bind_val, asB_bl, if_true, Bool.not_true, Bool.not_false, Bool.false_eq_true, if_false, retF_rt, seqF_nx, seqF_rt, asSq_lst, asSq_tup, partP_int, leP_int, ltP_int, gtP_int, geP_int, addP_int, subP_int, intP_int, tupleP_lst, asLi_lst, g1]
        rfl
      have as : m__law_asked (tabN T q) = .val (.tup [.str "group"]) := by
        unfold m__law_asked tryF
        simp -implicitDefEqProofs only [bind_val, asB_bl, if_true, Bool.not_true, Bool.not_false, Bool.false_eq_true, if_false, retF_rt, seqF_nx, seqF_rt, asSq_lst, asSq_tup, partP_int, leP_int, ltP_int, gtP_int, geP_int, addP_int, subP_int, intP_int, tupleP_lst, asLi_lst, apR1_o, iv, exc_bind, hitBG, mk1, noX_val]
      unfold m__law_right
      simp -implicitDefEqProofs only [bind_val, asB_bl, if_true, Bool.not_true, Bool.not_false, Bool.false_eq_true, if_false, retF_rt, seqF_nx, seqF_rt, asSq_lst, asSq_tup, partP_int, leP_int, ltP_int, gtP_int, geP_int, addP_int, subP_int, intP_int, tupleP_lst, asLi_lst, mk1, g2, as, alG]
    | true =>
      rw [hg] at g1 g2
      obtain ⟨u, us, hU⟩ : ∃ u us, UL T q = u :: us := by
        have h := hg
        unfold gB at h
        cases e : UL T q with
        | nil => rw [e] at h; cases h
        | cons u us => exact ⟨u, us, rfl⟩
      obtain ⟨g, P, D, mk⟩ := makeN h3 h13 hT g1 hU
      have i1 : isiC it_Group (.ins "TableGroup" (fsTg (tabN T q) q u (List.range q) g P D)) = .val (.bl true) := rfl
      have f1 : fldP cs_table "table" (.ins "TableGroup" (fsTg (tabN T q) q u (List.range q) g P D)) = .val (tabN T q) := rfl
      have f2 : fldP cs_order "order" (.ins "TableGroup" (fsTg (tabN T q) q u (List.range q) g P D)) = .val (.int (q : Nat)) := rfl
      have f3 : fldP cs_unit "unit" (.ins "TableGroup" (fsTg (tabN T q) q u (List.range q) g P D)) = .val (.int (u : Nat)) := rfl
      have f4 : fldP cs_members "members" (.ins "TableGroup" (fsTg (tabN T q) q u (List.range q) g P D)) = .val (.tup (PN (List.range q))) := rfl
      have as : m__law_asked (tabN T q) = .val (.tup [.str "told", .bl true, tabN T q, .int (q : Nat), .int (u : Nat), .tup (PN (List.range q))]) := by
        unfold m__law_asked tryF
        simp -implicitDefEqProofs only [bind_val, asB_bl, if_true, Bool.not_true, Bool.not_false, Bool.false_eq_true, if_false, retF_rt, seqF_nx, seqF_rt, asSq_lst, asSq_tup, partP_int, leP_int, ltP_int, gtP_int, geP_int, addP_int, subP_int, intP_int, tupleP_lst, asLi_lst, apR1_o, mk, frO_ob, i1, f1, f2, f3, f4, mk6]
      have u0 : ixP (.lst (PN (u :: us))) (.int 0) = .val (.int (u : Nat)) := ixP_lst (l := PN (u :: us)) (i := 0) rfl
      have r1 : rng1 (.int (q : Nat)) = .val (PN (List.range q)) := rng1_nat (by omega)
      have sz : sized (PN (List.range q)).length = .val () := sized_small (by rw [PN_len, List.length_range]; omega)
      have lc := lcN (c := fun _ => Res.val true) (e := fun a => Res.val a) (k := fun _ => true) (g := fun n => PV.int (n : Nat)) (l := List.range q) (fun _ _ => rfl) (fun _ _ _ => rfl)
      rw [List.filter_eq_self.mpr fun _ _ => rfl] at lc
      change lcF _ _ _ _ = .val (PN (List.range q)) at lc
      have alR : ∀ n, m__law_alike (n + 2) (.tup (PN (List.range q))) (.tup (PN (List.range q))) = .val (.bl true) := fun n => by
        rw [PN_ints]
        exact alike_ints n _ (by rw [List.length_map, List.length_range]; omega)
      have alT : m__law_alike 4 (tabN T q) (tabN T q) = .val (.bl true) := alike_tup 3 _ (by rw [List.length_map, List.length_range]; omega) fun x hx => by
        obtain ⟨a, _, rfl⟩ := List.mem_map.mp hx
        rw [PN_ints]
        exact alike_ints 1 _ (by rw [List.length_map, List.length_map, List.length_range]; omega)
      have al : m__law_alike 5 (.tup [.str "told", .bl true, tabN T q, .int (q : Nat), .int (u : Nat), .tup (PN (List.range q))]) (.tup [.str "told", .bl true, tabN T q, .int (q : Nat), .int (u : Nat), .tup (PN (List.range q))]) = .val (.bl true) := alike_tup 4 _ (by show 6 ≤ 10000000; decide) fun x hx => by
        simp only [List.mem_cons, List.not_mem_nil, or_false] at hx
        rcases hx with rfl | rfl | rfl | rfl | rfl | rfl
        · exact alike_str 3 _ sh3
        · exact alike_bl 3 _
        · exact alT
        · exact alike_int 3 _
        · exact alike_int 3 _
        · exact alR 2
      unfold m__law_right
      simp -implicitDefEqProofs only [bind_val, asB_bl, if_true, Bool.not_true, Bool.not_false, Bool.false_eq_true, if_false, retF_rt, seqF_nx, seqF_rt, asSq_lst, asSq_tup, partP_int, leP_int, ltP_int, gtP_int, geP_int, addP_int, subP_int, intP_int, tupleP_lst, asLi_lst, mk1, g2, tabN_len, lawunitsN h13, hU, u0, r1, sz, lc, mk6, as, al]
/-! ### what is drawn -/
theorem forF_find {S L : Type} {body : PV → S → Res (Fl S S)} {Good : PV → List MO → Prop} {s : S} : ∀ {ps : List PV}, (∀ p, p ∈ ps → body p s = .val (.nx s) ∨ ∃ v r, body p s = .val (.rt v r) ∧ Good v r) →
    (forF (L := L) body ps s = .val (.nx s) ∧ ∀ p, p ∈ ps → body p s = .val (.nx s)) ∨ ∃ v r, forF (L := L) body ps s = .val (.rt v r) ∧ Good v r
  | [], _ => .inl ⟨rfl, fun _ h => (nomatch h)⟩
  | p :: ps, h => by
    unfold forF
    rcases h p List.mem_cons_self with e | ⟨v, r, e, g⟩
    · rcases forF_find (L := L) (fun q hq => h q (List.mem_cons_of_mem _ hq)) with ⟨e2, a⟩ | ⟨v, r, e2, g⟩
      · rw [e]
        exact .inl ⟨e2, fun q hq => by
          rcases List.mem_cons.mp hq with rfl | hq
          · exact e
          · exact a q hq⟩
      · rw [e]
        exact .inr ⟨v, r, e2, g⟩
    · rw [e]
      exact .inr ⟨v, r, rfl, g⟩
theorem three : prB 3 = true := by decide +kernel
theorem forF_same {S L : Type} {body : PV → S → Res (Fl S S)} {s : S} : ∀ {ps : List PV}, (∀ p, p ∈ ps → body p s = .val (.nx s)) → forF (L := L) body ps s = .val (.nx s)
  | [], _ => rfl
  | p :: ps, h => by
    unfold forF
    rw [h p List.mem_cons_self]
    exact forF_same fun q hq => h q (List.mem_cons_of_mem _ hq)
/-! ### the law -/
theorem forF_inv {S L : Type} {body : PV → S → Res (Fl S S)} {I : S → Prop} : ∀ {ps : List PV} {s : S}, I s → (∀ p, p ∈ ps → ∀ s, I s → ∃ s', body p s = .val (.nx s') ∧ I s') → ∃ s', forF (L := L) body ps s = .val (.nx s') ∧ I s'
  | [], s, h, _ => ⟨s, rfl, h⟩
  | p :: ps, s, h, hb => by
    obtain ⟨s1, e, h1⟩ := hb p List.mem_cons_self s h
    obtain ⟨s2, e2, h2⟩ := forF_inv (L := L) h1 fun q hq => hb q (List.mem_cons_of_mem _ hq)
    refine ⟨s2, ?_, h2⟩
    unfold forF
    rw [e]
    exact e2
theorem prime_ok {l : List PV} (hb : Bx l) {hi : Nat} (h13 : 13 ≤ hi) (h127 : hi ≤ 127) : ∃ (n : Nat) (l' : List PV), m__law_prime (.lst l) (.int 3) (.int (hi : Nat)) = .val (.int (n : Nat), .lst l') ∧ Bx l' ∧ 3 ≤ n ∧ n ≤ hi ∧ prB n = true := by
  obtain ⟨r, l', d, hr, hb'⟩ := draw_nat hb (m := hi - 2) (by omega) (by omega)
  have d' : m__law_draw (.lst l) (.int ((hi - 2 : Nat) : Int)) = .val (.int (r : Nat), .lst l') := d
  have a1 : ((hi : Nat) : Int) - 3 + 1 = ((hi - 2 : Nat) : Int) := by omega
  have r1 : rng1 (.int ((hi - 2 : Nat) : Int)) = .val (PN (List.range (hi - 2))) := rng1_nat (by omega)
  have st : ∀ k : Nat, k < hi - 2 → (addP (.int (r : Nat)) (.int (k : Nat)) = .val (.int ((r + k : Nat) : Int))) := fun k _ => rfl
  have md : ∀ k : Nat, modP (.int ((k : Nat) : Int)) (.int ((hi - 2 : Nat) : Int)) = .val (.int ((k % (hi - 2) : Nat) : Int)) := fun k => modP_nat (by omega)
  have a3 : ∀ k : Nat, (3 : Int) + ((k : Nat) : Int) = ((3 + k : Nat) : Int) := fun k => by omega
  have a2 : ∀ k : Nat, ((r : Nat) : Int) + ((k : Nat) : Int) = ((r + k : Nat) : Int) := fun k => by omega
  have fd := forF_find (S := Unit) (L := Empty) (body := fun (x39 : PV) (s22 : Unit) => (((((addP (.int (r : Nat)) x39) >>= intP) >>= fun x30 => modP x30 (.int ((hi - 2 : Nat) : Int))) >>= fun x33 => addP (.int 3) x33) >>= fun x34 => ((m__law_is_prime x34 >>= asB) >>= fun b36 => if b36 = true then (Res.val (Fl.rt x34 [.lst l'])) else (Res.val (Fl.nx ())))))
    (s := ()) (ps := PN (List.range (hi - 2))) (Good := fun v r => r = [.lst l'] ∧ ∃ n : Nat, v = .int (n : Nat) ∧ 3 ≤ n ∧ n ≤ hi ∧ prB n = true) fun p hp => by
      obtain ⟨k, hk, rfl⟩ := List.mem_map.mp hp
      have hm : (r + k) % (hi - 2) < hi - 2 := Nat.mod_lt _ (by omega)
      have ip := (isPrime (n := 3 + (r + k) % (hi - 2)) (by omega)).2
      cases h : prB (3 + (r + k) % (hi - 2)) with
      | true =>
        refine .inr ⟨_, _, ?_, rfl, 3 + (r + k) % (hi - 2), rfl, by omega, by omega, h⟩
        simp -implicitDefEqProofs only [bind_val, asB_bl, if_true, Bool.not_true, Bool.not_false, Bool.false_eq_true, if_false, retF_rt, seqF_nx, seqF_rt, asSq_lst, asSq_tup, partP_int, leP_int, ltP_int, gtP_int, geP_int, addP_int, subP_int, intP_int, tupleP_lst, asLi_lst, a2, md, a3, ip, h]
      | false =>
        refine .inl ?_
        simp -implicitDefEqProofs only [bind_val, asB_bl, if_true, Bool.not_true, Bool.not_false, Bool.false_eq_true, if_false, retF_rt, seqF_nx, seqF_rt, asSq_lst, asSq_tup, partP_int, leP_int, ltP_int, gtP_int, geP_int, addP_int, subP_int, intP_int, tupleP_lst, asLi_lst, a2, md, a3, ip, h]
  unfold m__law_prime
  rcases fd with ⟨e, -⟩ | ⟨v, rr, e, rfl, n, rfl, h1, h2, h3⟩
  · try simp -implicitDefEqProofs only [bind_val] at e
    refine ⟨3, l', ?_, hb', by decide, by omega, three⟩
    simp -implicitDefEqProofs only [bind_val, asB_bl, if_true, Bool.not_true, Bool.not_false, Bool.false_eq_true, if_false, retF_rt, seqF_nx, seqF_rt, asSq_lst, asSq_tup, partP_int, leP_int, ltP_int, gtP_int, geP_int, addP_int, subP_int, intP_int, tupleP_lst, asLi_lst, noX_val, a1, apR1_o, d', moL_lst, r1, e, retR_rt]
    rfl
  · try simp -implicitDefEqProofs only [bind_val] at e
    refine ⟨n, l', ?_, hb', h1, h2, h3⟩
    simp -implicitDefEqProofs only [bind_val, asB_bl, if_true, Bool.not_true, Bool.not_false, Bool.false_eq_true, if_false, retF_rt, seqF_nx, seqF_rt, asSq_lst, asSq_tup, partP_int, leP_int, ltP_int, gtP_int, geP_int, addP_int, subP_int, intP_int, tupleP_lst, asLi_lst, noX_val, a1, apR1_o, d', moL_lst, r1, e, retR_rt]
theorem mk2 (a b : PV) : mkT [a, b] = .val (.tup [a, b]) := mkT_ok (by show 2 ≤ 10000000; decide)
/-! ### rows in a drawn sequence, and their tables -/
theorem pop_perm : ∀ {l : List Nat} {i : Nat} (h : i < l.length), (l[i] :: l.eraseIdx i).Perm l
  | x :: l, 0, _ => List.Perm.refl _
  | x :: l, i + 1, h => (List.Perm.swap x _ _).trans (List.Perm.cons x (pop_perm (Nat.lt_of_succ_lt_succ h)))
theorem PN_erase : ∀ {l : List Nat} {i : Nat}, (PN l).eraseIdx i = PN (l.eraseIdx i)
  | [], _ => rfl
  | x :: l, 0 => rfl
  | x :: l, i + 1 => congrArg (PV.int (x : Nat) :: ·) (PN_erase (l := l) (i := i))
theorem popL_PN {l : List Nat} {i : Nat} (h : i < l.length) (h2 : i < 100000) : popL (PN l) (.int (i : Nat)) = .val (.int (l[i] : Nat), PN (l.eraseIdx i)) := by
  have e : seqIndex? ((i : Nat) : Int) (PN l).length = some i := by
    have := (ixN_seq (n := (PN l).length) (i := ((i : Nat) : Int)) (j := i) (by
      unfold ixN
      rw [if_pos (by omega), if_pos (by rw [PN_len]; omega)]
      rfl)).1
    exact this
  unfold popL
  show (if -(2 ^ 63) ≤ ((i : Nat) : Int) ∧ ((i : Nat) : Int) < 2 ^ 63 then _ else _) = _
  rw [if_pos ⟨by omega, by omega⟩, e]
  show (match (PN l)[i]? with | some y => Res.val (y, (PN l).eraseIdx i) | none => .stuck) = _
  rw [PN_get (List.getElem?_eq_getElem h), PN_erase]
theorem setL_nat {l : List PV} {i : Nat} {x : PV} (h : i < l.length) : setL l (.int (i : Nat)) x = .val (l.set i x) := by
  have e : ixN l.length ((i : Nat) : Int) = some i := by
    unfold ixN
    rw [if_pos (by omega), if_pos (by omega)]
    rfl
  unfold setL
  simp only [e]
def RowOk (row : List Nat) (q : Nat) : Prop := row.Perm (List.range q)
def Rg (row : List Nat) (i : Nat) : Nat := row.getD i 0
def pl (row : List Nat) (a : Nat) : Nat := row.idxOf a
section
variable {row : List Nat} {q : Nat}
theorem RowOk.len (h : RowOk row q) : row.length = q := by have := h.length_eq; rwa [List.length_range] at this
theorem RowOk.nd (h : RowOk row q) : row.Nodup := (List.Perm.nodup_iff h).mpr List.nodup_range
theorem RowOk.mem (h : RowOk row q) {a : Nat} : a ∈ row ↔ a < q := by rw [h.mem_iff, List.mem_range]
theorem RowOk.get (h : RowOk row q) {i : Nat} (hi : i < q) : row[i]? = some (Rg row i) := by
  have : i < row.length := by rw [h.len]; exact hi
  unfold Rg
  rw [List.getD_eq_getElem?_getD, List.getElem?_eq_getElem this]
  rfl
theorem RowOk.lt (h : RowOk row q) {i : Nat} (hi : i < q) : Rg row i < q := h.mem.mp (List.mem_of_getElem? (h.get hi))
theorem RowOk.pl_lt (h : RowOk row q) {a : Nat} (ha : a < q) : pl row a < q := by
  have := List.idxOf_lt_length_of_mem (h.mem.mpr ha)
  rw [h.len] at this
  exact this
theorem RowOk.Rg_pl (h : RowOk row q) {a : Nat} (ha : a < q) : Rg row (pl row a) = a := by
  have hl := List.idxOf_lt_length_of_mem (h.mem.mpr ha)
  unfold Rg pl
  rw [List.getD_eq_getElem?_getD, List.getElem?_eq_getElem hl, Option.getD_some, List.getElem_idxOf]
theorem RowOk.pl_Rg (h : RowOk row q) {i : Nat} (hi : i < q) : pl row (Rg row i) = i := by
  have hl : i < row.length := by rw [h.len]; exact hi
  unfold Rg pl
  rw [List.getD_eq_getElem?_getD, List.getElem?_eq_getElem hl, Option.getD_some, h.nd.idxOf_getElem]
end
/-- the sequence is drawn -/
theorem order_run (body : PV → (List PV × List PV) → Res (PV × (List PV × List PV))) (hb : ∀ (x : PV) (L : List Nat) (s : List PV), Bx s → 0 < L.length → L.length < 100000 → ∃ (i : Nat) (h : i < L.length) (s' : List PV), body x (PN L, s) = .val (.int (L[i] : Nat), (PN (L.eraseIdx i), s')) ∧ Bx s') :
    ∀ (ps : List PV) (L : List Nat) (s : List PV), ps.length = L.length → L.length < 100000 → Bx s → ∃ (ys : List Nat) (s' : List PV), lcE (fun x => Res.val x) (fun (_ : PV) (t : List PV × List PV) => Res.val (true, t)) body ps (PN L, s) = .val (PN ys, ([], s')) ∧ ys.Perm L ∧ Bx s'
  | [], L, s, h, _, hs => by
    have : L = [] := List.length_eq_zero_iff.mp h.symm
    subst this
    exact ⟨[], s, rfl, List.Perm.refl _, hs⟩
  | p :: ps, L, s, h, h2, hs => by
    have hl : 0 < L.length := by rw [← h]; exact Nat.succ_pos _
    obtain ⟨i, hi, s1, e, h1⟩ := hb p L s hs hl h2
    have len : (L.eraseIdx i).length = L.length - 1 := by rw [List.length_eraseIdx, if_pos hi]
    obtain ⟨ys, s2, e2, pm, h3⟩ := order_run body hb ps (L.eraseIdx i) s1 (by rw [len]; simp only [List.length_cons] at h; omega) (by rw [len]; omega) h1
    refine ⟨L[i] :: ys, s2, ?_, (List.Perm.cons _ pm).trans (pop_perm hi), h3⟩
    unfold lcE
    rw [noX_val, bind_val, bind_val, if_pos rfl, e, bind_val, e2, bind_val]
    rfl
def rowT (row : List Nat) (q a : Nat) : List Nat := (List.range q).map fun b => Rg row ((pl row a + pl row b) % q)
def tabV (row : List Nat) (q : Nat) : PV := .tup ((List.range q).map fun a => PV.tup (PN (rowT row q a)))
theorem rowT_len {row : List Nat} {q a : Nat} : (rowT row q a).length = q := by unfold rowT; rw [List.length_map, List.length_range]
theorem rowT_get {row : List Nat} {q a b : Nat} (h : b < q) : (rowT row q a)[b]? = some (Rg row ((pl row a + pl row b) % q)) := by
  unfold rowT
  rw [List.getElem?_map, List.getElem?_range h]
  rfl
theorem tab_ix {row : List Nat} {q a : Nat} (h : a < q) : ixP (tabV row q) (.int (a : Nat)) = .val (.tup (PN (rowT row q a))) := ixP_tup (by rw [List.getElem?_map, List.getElem?_range h]; rfl)
theorem tab_ix2 {row : List Nat} {q a b : Nat} (h : b < q) : ixP (.tup (PN (rowT row q a))) (.int (b : Nat)) = .val (.int (Rg row ((pl row a + pl row b) % q) : Nat)) := ixP_tup (PN_get (rowT_get h))
theorem tab_len {row : List Nat} {q : Nat} : lenP (tabV row q) = .val (.int (q : Nat)) := by
  show Res.val (PV.int (((List.range q).map fun a => PV.tup (PN (rowT row q a))).length : Nat)) = _
  rw [List.length_map, List.length_range]
theorem place_step {row : List Nat} {q : Nat} (h : RowOk row q) {i : Nat} (hi : i < q) : (PN ((List.range q).map fun a => if pl row a < i then pl row a else 0)).set (Rg row i) (.int (i : Nat)) = PN ((List.range q).map fun a => if pl row a < i + 1 then pl row a else 0) := by
  unfold PN
  rw [List.map_map, List.map_map]
  refine List.ext_getElem (by rw [List.length_set, List.length_map, List.length_map]) fun j h1 h2 => ?_
  rw [List.length_map, List.length_range] at h2
  rw [List.getElem_set, List.getElem_map, List.getElem_map, List.getElem_range]
  by_cases c : Rg row i = j
  · rw [if_pos c]
    show _ = PV.int ((if pl row j < i + 1 then pl row j else 0 : Nat) : Int)
    rw [← c, h.pl_Rg hi, if_pos (Nat.lt_succ_self _)]
  · rw [if_neg c]
    show PV.int ((if pl row j < i then pl row j else 0 : Nat) : Int) = PV.int ((if pl row j < i + 1 then pl row j else 0 : Nat) : Int)
    have ne : pl row j ≠ i := fun e => c (by rw [← e, h.Rg_pl h2])
    by_cases c2 : pl row j < i
    · rw [if_pos c2, if_pos (Nat.lt_succ_of_lt c2)]
    · rw [if_neg c2, if_neg (by omega)]
theorem lawtable_ok {row : List Nat} {q : Nat} (h : RowOk row q) (h0 : 0 < q) (hq : q < 10000) : m__law_table (.lst (PN row)) = .val (tabV row q) := by
  have e1 : ∀ a : PV, mkL [a] = .val (.lst [a]) := fun a => mkL_ok (by show 1 ≤ 10000000; decide)
  have ln : lenP (.lst (PN row)) = .val (.int (q : Nat)) := by rw [lenP_lst, PN_len, h.len]
  have rp : repL (.lst [.int 0]) (.int (q : Nat)) = .val (.lst (List.replicate q (.int 0))) := by
    have c : -(2 ^ 63) ≤ ((q : Nat) : Int) ∧ ((q : Nat) : Int) < 2 ^ 63 ∧ ([PV.int 0] : List PV).length * ((q : Nat) : Int).toNat ≤ sizeLine := ⟨by omega, by omega, by
      show 1 * q ≤ _
      exact Nat.le_trans (show 1 * q ≤ 10000 by omega) (by unfold sizeLine; decide)⟩
    have fl : ∀ n : Nat, (List.replicate n [PV.int 0]).flatten = List.replicate n (PV.int 0) := fun n => by
      induction n with
      | zero => rfl
      | succ n ih => rw [List.replicate_succ, List.flatten_cons, ih]; rfl
    have e : repL (.lst [.int 0]) (.int (q : Nat)) = (if -(2 ^ 63) ≤ ((q : Nat) : Int) ∧ ((q : Nat) : Int) < 2 ^ 63 ∧ ([PV.int 0] : List PV).length * ((q : Nat) : Int).toNat ≤ sizeLine then .val (.lst (List.replicate ((q : Nat) : Int).toNat [PV.int 0]).flatten) else .stuck) := rfl
    rw [e, if_pos c, show ((q : Nat) : Int).toNat = q from rfl, fl]
  have st : List.replicate q (PV.int 0) = PN ((List.range q).map fun a => if pl row a < 0 then pl row a else 0) := by
    unfold PN
    rw [List.map_map]
    refine List.ext_getElem (by rw [List.length_replicate, List.length_map, List.length_range]) fun j h1 h2 => ?_
    rw [List.getElem_replicate, List.getElem_map]
    rfl
  have lp := forF_rng1 (S := List PV) (L := Empty) (n := q) (body := fun (x15 : PV) (s7 : List PV) => ixP (.lst (PN row)) x15 >>= fun k12 => setL s7 k12 x15 >>= fun qs13 => Res.val (Fl.nx qs13))
    (fun i => PN ((List.range q).map fun a => if pl row a < i then pl row a else 0)) (by omega) fun i hi => by
      have hx : ixP (.lst (PN row)) (.int (i : Nat)) = .val (.int (Rg row i : Nat)) := ixP_lst (PN_get (h.get hi))
      have hs := setL_nat (l := PN ((List.range q).map fun a => if pl row a < i then pl row a else 0)) (i := Rg row i) (x := .int (i : Nat)) (by rw [PN_len, List.length_map, List.length_range]; exact h.lt hi)
      rw [place_step h hi] at hs
      simp -implicitDefEqProofs only [bind_val, asB_bl, if_true, Bool.not_true, Bool.not_false, Bool.false_eq_true, if_false, retF_rt, seqF_nx, seqF_rt, asSq_lst, asSq_tup, partP_int, leP_int, ltP_int, gtP_int, geP_int, addP_int, subP_int, intP_int, tupleP_lst, asLi_lst, hx, hs]
  rw [← st] at lp
  have pe : PN ((List.range q).map fun a => if pl row a < q then pl row a else 0) = PN ((List.range q).map fun a => pl row a) := by
    have : ((List.range q).map fun a => if pl row a < q then pl row a else 0) = (List.range q).map fun a => pl row a := List.map_congr_left fun a ha => by rw [if_pos (h.pl_lt (List.mem_range.mp ha))]
    rw [this]
  rw [pe] at lp
  generalize hP : PN ((List.range q).map fun a => pl row a) = Pp at lp
  have px : ∀ a, a < q → ixP (.lst Pp) (.int (a : Nat)) = .val (.int (pl row a : Nat)) := fun a ha => by
    rw [← hP]
    exact ixP_lst (PN_get (by rw [List.getElem?_map, List.getElem?_range ha]; rfl))
  have ad : ∀ a b : Nat, ((a : Nat) : Int) + ((b : Nat) : Int) = ((a + b : Nat) : Int) := fun a b => by omega
  have inner : ∀ a, a < q → (rng1 (.int (q : Nat)) >>= fun ps29 => sized ps29.length >>= fun _ => lcF (fun x => Res.val x) (fun (_ : PV) => Res.val true) (fun (a18 : PV) => ((((ixP (.lst Pp) (.int (a : Nat)) >>= fun x23 => ixP (.lst Pp) a18 >>= fun x24 => addP x23 x24) >>= intP) >>= fun x25 => modP x25 (.int (q : Nat))) >>= fun x28 => ixP (.lst (PN row)) x28)) ps29) = .val (PN (rowT row q a)) := fun a ha => by
    rw [lc_rng1 (fun b => PV.int (Rg row ((pl row a + pl row b) % q) : Nat)) (by omega) fun b hb => by
      have hx : ixP (.lst (PN row)) (.int ((pl row a + pl row b) % q : Nat)) = .val (.int (Rg row ((pl row a + pl row b) % q) : Nat)) := ixP_lst (PN_get (h.get (Nat.mod_lt _ h0)))
      simp -implicitDefEqProofs only [bind_val, asB_bl, if_true, Bool.not_true, Bool.not_false, Bool.false_eq_true, if_false, retF_rt, seqF_nx, seqF_rt, asSq_lst, asSq_tup, partP_int, leP_int, ltP_int, gtP_int, geP_int, addP_int, subP_int, intP_int, tupleP_lst, asLi_lst, px a ha, px b hb, ad, modP_nat h0, hx]]
    unfold PN rowT
    rw [List.map_map]
    rfl
  have outer : (rng1 (.int (q : Nat)) >>= fun ps31 => sized ps31.length >>= fun _ => lcF (fun x => Res.val x) (fun (_ : PV) => Res.val true) (fun (a17 : PV) => (((rng1 (.int (q : Nat)) >>= fun ps29 => sized ps29.length >>= fun _ => lcF (fun x => Res.val x) (fun (_ : PV) => Res.val true) (fun (a18 : PV) => ((((ixP (.lst Pp) a17 >>= fun x23 => ixP (.lst Pp) a18 >>= fun x24 => addP x23 x24) >>= intP) >>= fun x25 => modP x25 (.int (q : Nat))) >>= fun x28 => ixP (.lst (PN row)) x28)) ps29) >>= fun ps30 => Res.val (PV.lst ps30)) >>= tupleP)) ps31) = .val ((List.range q).map fun a => PV.tup (PN (rowT row q a))) := by
    rw [lc_rng1 (fun a => PV.tup (PN (rowT row q a))) (by omega) fun a ha => by
      rw [inner a ha]
      rfl]
  have outer' := outer
  simp -implicitDefEqProofs only [bind_val] at outer' lp
  unfold m__law_table
  simp -implicitDefEqProofs only [bind_val, asB_bl, if_true, Bool.not_true, Bool.not_false, Bool.false_eq_true, if_false, retF_rt, seqF_nx, seqF_rt, asSq_lst, asSq_tup, partP_int, leP_int, ltP_int, gtP_int, geP_int, addP_int, subP_int, intP_int, tupleP_lst, asLi_lst, ln, e1, rp]
  rw [lp]
  simp -implicitDefEqProofs only [bind_val, asB_bl, if_true, Bool.not_true, Bool.not_false, Bool.false_eq_true, if_false, retF_rt, seqF_nx, seqF_rt, asSq_lst, asSq_tup, partP_int, leP_int, ltP_int, gtP_int, geP_int, addP_int, subP_int, intP_int, tupleP_lst, asLi_lst]
  rw [outer']
  rfl
theorem order_ok {l : List PV} (hb : Bx l) {q : Nat} (hq : q < 10000) : ∃ (row : List Nat) (l' : List PV), m__law_order (.lst l) (.int (q : Nat)) = .val (.lst (PN row), .lst l') ∧ Bx l' ∧ RowOk row q := by
  have r1 : rng1 (.int (q : Nat)) = .val (PN (List.range q)) := rng1_nat (by omega)
  have sz : sized (PN (List.range q)).length = .val () := sized_small (by rw [PN_len, List.length_range]; omega)
  have l1 := lcN (c := fun _ => Res.val true) (e := fun a => Res.val a) (k := fun _ => true) (g := fun n => PV.int (n : Nat)) (l := List.range q) (fun _ _ => rfl) (fun _ _ _ => rfl)
  rw [List.filter_eq_self.mpr fun _ _ => rfl] at l1
  change lcF _ _ _ _ = .val (PN (List.range q)) at l1
  obtain ⟨ys, s', e, pm, hs'⟩ := order_run (fun (a8 : PV) => (fun (s11 : List PV × List PV) => (fun (s12 : List PV × List PV) => (fun (s16 : List PV × List PV) => (fun (s13 : List PV × List PV) => noX ((Res.val (PV.lst s13.1)) >>= lenP) >>= fun v14 => Res.val (v14, s13)) s16 >>= fun x17 => (fun (s15 : List PV × List PV) => Res.val (([] : List PV), s15)) x17.2 >>= fun xs18 => Res.val (x17.1 :: xs18.1, xs18.2)) s12 >>= fun x19 => (apR1 m__law_draw) (MO.lst x19.2.2) x19.1 >>= fun r20 => ((fun (s12 : List PV × List PV) (mo : MO) => moL mo >>= fun l => Res.val (s12.1, l)) x19.2 r20.2) >>= fun s21 => Res.val (r20.1, s21)) s11 >>= fun k22 => popL k22.2.1 k22.1 >>= fun r23 => Res.val (r23.1, (r23.2, k22.2.2))))
    (fun x L s hs hl hl2 => by
      obtain ⟨i, s1, d, hi, h1⟩ := draw_nat hs (m := L.length) hl (by omega)
      refine ⟨i, hi, s1, ?_, h1⟩
      have ln : lenP (.lst (PN L)) = .val (.int (L.length : Nat)) := by rw [lenP_lst, PN_len]
      simp -implicitDefEqProofs only [bind_val, asB_bl, if_true, Bool.not_true, Bool.not_false, Bool.false_eq_true, if_false, retF_rt, seqF_nx, seqF_rt, asSq_lst, asSq_tup, partP_int, leP_int, ltP_int, gtP_int, geP_int, addP_int, subP_int, intP_int, tupleP_lst, asLi_lst, ln, noX_val, apR1_o, d, moL_lst, popL_PN hi (show i < 100000 by omega)]) (PN (List.range q)) (List.range q) l (by rw [PN_len]) (by rw [List.length_range]; omega) hb
  refine ⟨ys, s', ?_, hs', pm⟩
  unfold m__law_order
  simp -implicitDefEqProofs only [bind_val, asB_bl, if_true, Bool.not_true, Bool.not_false, Bool.false_eq_true, if_false, retF_rt, seqF_nx, seqF_rt, asSq_lst, asSq_tup, partP_int, leP_int, ltP_int, gtP_int, geP_int, addP_int, subP_int, intP_int, tupleP_lst, asLi_lst, r1, sz, l1, noX_val, apR1_o]
  simp -implicitDefEqProofs only [bind_val, noX_val, apR1_o] at e
  rw [e]
  rfl
/-! ### a group of a table is made -/
theorem allT {l : List PV} : allP (.lst (l.map fun _ => PV.bl true)) = .val (.bl true) := by
  have : (l.map fun _ => PV.bl true) = (l.map fun _ => true).map PV.bl := by rw [List.map_map]; rfl
  have ha : ((l.map fun _ => true).all id) = true := by
    rw [List.all_map]
    exact List.all_eq_true.mpr fun _ _ => rfl
  rw [this, allP_bls, ha]
theorem allTN {l : List Nat} : allP (.lst (l.map fun _ => PV.bl true)) = .val (.bl true) := by
  have : (l.map fun _ => PV.bl true) = (l.map fun _ => true).map PV.bl := by rw [List.map_map]; rfl
  have ha : ((l.map fun _ => true).all id) = true := by
    rw [List.all_map]
    exact List.all_eq_true.mpr fun _ _ => rfl
  rw [this, allP_bls, ha]
theorem lcT {e : PV → Res PV} {l : List PV} (h : ∀ p, p ∈ l → e p = .val (.bl true)) : lcF (fun x => Res.val x) (fun (_ : PV) => Res.val true) e l = .val (l.map fun _ => PV.bl true) := lcF_val (fun _ _ => rfl) h
theorem filt {r : Nat} : ∀ {q : Nat}, r < q → (List.range q).filter (fun u => Nat.beq u r) = [r]
  | 0, h => by omega
  | n + 1, h => by
    rw [List.range_succ, List.filter_append]
    by_cases c : r = n
    · subst c
      have : (List.range r).filter (fun u => Nat.beq u r) = [] := List.filter_eq_nil_iff.mpr fun a ha z => by
        have h1 := List.mem_range.mp ha
        have h2 := Nat.beq_eq.mp z
        omega
      rw [this, List.filter_cons_of_pos (by rw [Nat.beq_refl])]
      rfl
    · have hn : [n].filter (fun u => Nat.beq u r) = [] := List.filter_eq_nil_iff.mpr fun a ha z => by
        rcases List.mem_singleton.mp ha with rfl
        exact c (Nat.beq_eq.mp z).symm
      rw [filt (by omega), hn, List.append_nil]
section
variable {row : List Nat} {q : Nat}
/-- the product by the places -/
def Tp (row : List Nat) (q a b : Nat) : Nat := Rg row ((pl row a + pl row b) % q)
theorem Tp_lt (h : RowOk row q) (h0 : 0 < q) {a b : Nat} : Tp row q a b < q := h.lt (Nat.mod_lt _ h0)
theorem tab2 {a b : Nat} (ha : a < q) (hb : b < q) : (ixP (tabV row q) (.int (a : Nat)) >>= fun x => ixP x (.int (b : Nat))) = .val (.int (Tp row q a b : Nat)) := by
  rw [tab_ix ha, bind_val, tab_ix2 hb]
  rfl
theorem residue_ok {x : Nat} (hx : x < q) : m_is_residue (.int (q : Nat)) (.int (x : Nat)) = .val (.bl true) := by
  have e1 : isiP (.int (x : Nat)) (.ty "int") = .val (.bl true) := rfl
  have c1 : (0 : Int) ≤ (x : Nat) := by omega
  have c2 : ((x : Nat) : Int) < (q : Nat) := by omega
  unfold m_is_residue
  simp -implicitDefEqProofs only [bind_val, asB_bl, if_true, Bool.not_true, Bool.not_false, Bool.false_eq_true, if_false, retF_rt, seqF_nx, seqF_rt, asSq_lst, asSq_tup, partP_int, leP_int, ltP_int, gtP_int, geP_int, addP_int, subP_int, intP_int, tupleP_lst, asLi_lst, e1, decide_eq_true c1, decide_eq_true c2]
theorem residue_row {l : List Nat} (hl : l.length = q) (hq : q < 10000) (h : ∀ x, x ∈ l → x < q) : m_is_residue_row (.int (q : Nat)) (.int (q : Nat)) (.tup (PN l)) = .val (.bl true) := by
  have e1 : isiP (.tup (PN l)) (.ty "tuple") = .val (.bl true) := rfl
  have e2 : lenP (.tup (PN l)) = .val (.int (q : Nat)) := by rw [lenP_tup, PN_len, hl]
  have e3 : eqP (.int (q : Nat)) (.int (q : Nat)) = .val (.bl true) := by rw [eqP_nat, Nat.beq_refl]
  have e4 : m_is_tuple_of (.int (q : Nat)) (.tup (PN l)) = .val (.bl true) := by
    unfold m_is_tuple_of
    simp -implicitDefEqProofs only [bind_val, asB_bl, if_true, Bool.not_true, Bool.not_false, Bool.false_eq_true, if_false, retF_rt, seqF_nx, seqF_rt, asSq_lst, asSq_tup, partP_int, leP_int, ltP_int, gtP_int, geP_int, addP_int, subP_int, intP_int, tupleP_lst, asLi_lst, e1, e2, e3]
  have sz : sized (PN l).length = .val () := sized_small (by rw [PN_len]; omega)
  have lc := lcT (e := fun a => m_is_residue (.int (q : Nat)) a) (l := PN l) fun p hp => by
    obtain ⟨x, hx, rfl⟩ := List.mem_map.mp hp
    exact residue_ok (h x hx)
  unfold m_is_residue_row
  simp -implicitDefEqProofs only [bind_val, asB_bl, if_true, Bool.not_true, Bool.not_false, Bool.false_eq_true, if_false, retF_rt, seqF_nx, seqF_rt, asSq_lst, asSq_tup, partP_int, leP_int, ltP_int, gtP_int, geP_int, addP_int, subP_int, intP_int, tupleP_lst, asLi_lst, e4, sz, lc, allT]
theorem square_ok (h : RowOk row q) (h3 : 3 ≤ q) (h13 : q ≤ 13) (hp : prB q = true) : m__is_square (tabV row q) = .val (.bl true) := by
  have e1 : isiP (tabV row q) (.ty "tuple") = .val (.bl true) := rfl
  have c1 : (3 : Int) ≤ (q : Nat) := by omega
  have c2 : ((q : Nat) : Int) ≤ 13 := by omega
  have ip := (isPrime (n := q) (by omega)).1
  have sq : asSq (tabV row q) = .val ((List.range q).map fun a => PV.tup (PN (rowT row q a))) := rfl
  have sz : sized ((List.range q).map fun a => PV.tup (PN (rowT row q a))).length = .val () := sized_small (by rw [List.length_map, List.length_range]; omega)
  have lc := lcT (e := fun a => m_is_residue_row (.int (q : Nat)) (.int (q : Nat)) a) (l := (List.range q).map fun a => PV.tup (PN (rowT row q a))) fun p hp => by
    obtain ⟨a, ha, rfl⟩ := List.mem_map.mp hp
    refine residue_row rowT_len (by omega) fun x hx => ?_
    obtain ⟨b, _, rfl⟩ := List.mem_map.mp hx
    exact h.lt (Nat.mod_lt _ (by omega))
  unfold m__is_square
  simp -implicitDefEqProofs only [bind_val, asB_bl, if_true, Bool.not_true, Bool.not_false, Bool.false_eq_true, if_false, retF_rt, seqF_nx, seqF_rt, asSq_lst, asSq_tup, partP_int, leP_int, ltP_int, gtP_int, geP_int, addP_int, subP_int, intP_int, tupleP_lst, asLi_lst, e1, tab_len, decide_eq_true c1, decide_eq_true c2, ip, hp, sq, sz, lc, allT]
theorem units_ok (h : RowOk row q) (h3 : 3 ≤ q) (h13 : q ≤ 13) : m__units (tabV row q) = .val (.lst [.int (Rg row 0 : Nat)]) := by
  have r0 : Rg row 0 < q := h.lt (by omega)
  have rg := rgL_nat (q := q) (by omega)
  have sz : sized (PN (List.range q)).length = .val () := sized_small (by rw [PN_len, List.length_range]; omega)
  have inner : ∀ u, u < q → lcF (fun x => Res.val x) (fun (_ : PV) => Res.val true) (fun (a7 : PV) => (((ixP (tabV row q) (.int (u : Nat)) >>= fun x16 => ixP x16 a7) >>= fun x18 => eqP x18 a7) >>= asB) >>= fun b20 => if b20 = true then ((ixP (tabV row q) a7 >>= fun x10 => ixP x10 (.int (u : Nat))) >>= fun x12 => eqP x12 a7) else Res.val (PV.bl false)) (PN (List.range q)) = .val (((List.range q).map fun a => Nat.beq (Tp row q u a) a && Nat.beq (Tp row q a u) a).map PV.bl) := fun u hu => by
    have l := lcN (c := fun _ => Res.val true) (e := fun (a7 : PV) => (((ixP (tabV row q) (.int (u : Nat)) >>= fun x16 => ixP x16 a7) >>= fun x18 => eqP x18 a7) >>= asB) >>= fun b20 => if b20 = true then ((ixP (tabV row q) a7 >>= fun x10 => ixP x10 (.int (u : Nat))) >>= fun x12 => eqP x12 a7) else Res.val (PV.bl false)) (k := fun _ => true) (g := fun a => PV.bl (Nat.beq (Tp row q u a) a && Nat.beq (Tp row q a u) a)) (l := List.range q) (fun _ _ => rfl) fun a ha _ => by
      have ha' := List.mem_range.mp ha
      have t1 := tab2 (row := row) hu ha'
      have t2 := tab2 (row := row) ha' hu
      cases c : Nat.beq (Tp row q u a) a with
      | true => simp -implicitDefEqProofs only [bind_val, asB_bl, if_true, Bool.not_true, Bool.not_false, Bool.false_eq_true, if_false, retF_rt, seqF_nx, seqF_rt, asSq_lst, asSq_tup, partP_int, leP_int, ltP_int, gtP_int, geP_int, addP_int, subP_int, intP_int, tupleP_lst, asLi_lst, t1, t2, eqP_nat, c, Bool.true_and]
      | false => simp -implicitDefEqProofs only [bind_val, asB_bl, if_true, Bool.not_true, Bool.not_false, Bool.false_eq_true, if_false, retF_rt, seqF_nx, seqF_rt, asSq_lst, asSq_tup, partP_int, leP_int, ltP_int, gtP_int, geP_int, addP_int, subP_int, intP_int, tupleP_lst, asLi_lst, t1, t2, eqP_nat, c, Bool.false_and]
    rw [l, List.filter_eq_self.mpr fun _ _ => rfl, List.map_map]
    rfl
  have val : ∀ u, u < q → ((List.range q).map fun a => Nat.beq (Tp row q u a) a && Nat.beq (Tp row q a u) a).all id = Nat.beq u (Rg row 0) := fun u hu => by
    rw [List.all_map]
    cases c : Nat.beq u (Rg row 0) with
    | true =>
      have e := Nat.beq_eq.mp c
      subst e
      refine List.all_eq_true.mpr fun a ha => ?_
      have ha' := List.mem_range.mp ha
      have p0 : pl row (Rg row 0) = 0 := h.pl_Rg (by omega)
      have t1 : Tp row q (Rg row 0) a = a := by
        unfold Tp
        rw [p0, Nat.zero_add, Nat.mod_eq_of_lt (h.pl_lt ha'), h.Rg_pl ha']
      have t2 : Tp row q a (Rg row 0) = a := by
        unfold Tp
        rw [p0, Nat.add_zero, Nat.mod_eq_of_lt (h.pl_lt ha'), h.Rg_pl ha']
      show (Nat.beq (Tp row q (Rg row 0) a) a && Nat.beq (Tp row q a (Rg row 0)) a) = true
      rw [t1, t2, Nat.beq_refl]
      rfl
    | false =>
      refine Bool.eq_false_iff.mpr fun z => ?_
      have := List.all_eq_true.mp z (Rg row 0) (List.mem_range.mpr r0)
      have := (Bool.and_eq_true_iff.mp this).1
      have e := Nat.beq_eq.mp this
      have t1 : Tp row q u (Rg row 0) = u := by
        unfold Tp
        rw [h.pl_Rg (by omega), Nat.add_zero, Nat.mod_eq_of_lt (h.pl_lt hu), h.Rg_pl hu]
      rw [t1] at e
      exact Bool.eq_false_iff.mp c (Nat.beq_eq.mpr e)
  have outer := lcN (c := fun (a6 : PV) => (((((sized (PN (List.range q)).length >>= fun _ => lcF (fun x => Res.val x) (fun (_ : PV) => Res.val true) (fun (a7 : PV) => (((ixP (tabV row q) a6 >>= fun x16 => ixP x16 a7) >>= fun x18 => eqP x18 a7) >>= asB) >>= fun b20 => if b20 = true then ((ixP (tabV row q) a7 >>= fun x10 => ixP x10 a6) >>= fun x12 => eqP x12 a7) else Res.val (PV.bl false)) (PN (List.range q))) >>= fun ps22 => Res.val (PV.lst ps22)) >>= allP) >>= asB))) (e := fun a => Res.val a) (k := fun u => Nat.beq u (Rg row 0)) (g := fun n => .int (n : Nat)) (l := List.range q)
    (fun u hu => by
      have hu' := List.mem_range.mp hu
      rw [sz, bind_val, inner u hu', bind_val, bind_val, allP_bls, val u hu']
      rfl) (fun _ _ _ => rfl)
  rw [filt r0] at outer
  simp -implicitDefEqProofs only [bind_val, sz] at outer
  have ap : ∀ l : List PV, asSq (.lst l) = .val l := fun _ => rfl
  unfold m__units
  simp -implicitDefEqProofs only [bind_val, asB_bl, if_true, Bool.not_true, Bool.not_false, Bool.false_eq_true, if_false, retF_rt, seqF_nx, seqF_rt, asSq_lst, asSq_tup, partP_int, leP_int, ltP_int, gtP_int, geP_int, addP_int, subP_int, intP_int, tupleP_lst, asLi_lst, tab_len, rg, sz, outer]
  rfl
theorem assoc_ok (h : RowOk row q) (h3 : 3 ≤ q) (h13 : q ≤ 13) : m__is_associative (tabV row q) = .val (.bl true) := by
  have q0 : 0 < q := by omega
  have rg := rgL_nat (q := q) (by omega)
  have sz : sized (PN (List.range q)).length = .val () := sized_small (by rw [PN_len, List.length_range]; omega)
  have as : ∀ a b c, Tp row q (Tp row q a b) c = Tp row q a (Tp row q b c) := fun a b c => by
    unfold Tp
    rw [h.pl_Rg (Nat.mod_lt _ q0), h.pl_Rg (Nat.mod_lt _ q0), Nat.mod_add_mod, Nat.add_mod_mod, Nat.add_assoc]
  have inner : ∀ a b, a < q → b < q → lcF (fun x => Res.val x) (fun (_ : PV) => Res.val true) (fun (a10 : PV) => (((ixP (tabV row q) (.int (a : Nat)) >>= fun x13 => ixP x13 (.int (b : Nat))) >>= fun x16 => ixP (tabV row q) x16) >>= fun x17 => ixP x17 a10) >>= fun x27 => (ixP (tabV row q) (.int (a : Nat)) >>= fun x25 => (ixP (tabV row q) (.int (b : Nat)) >>= fun x23 => ixP x23 a10) >>= fun x26 => ixP x25 x26) >>= fun x28 => eqP x27 x28) (PN (List.range q)) = .val ((PN (List.range q)).map fun _ => PV.bl true) := fun a b ha hb => lcT fun p hp => by
    obtain ⟨c, hc, rfl⟩ := List.mem_map.mp hp
    have hc' := List.mem_range.mp hc
    have t1 := tab2 (row := row) ha hb
    have t2 := tab2 (row := row) hb hc'
    have t3 := tab2 (row := row) (a := Tp row q a b) (b := c) (Tp_lt h q0) hc'
    have t4 := tab2 (row := row) (a := a) (b := Tp row q b c) ha (Tp_lt h q0)
    rw [tab_ix ha, bind_val] at t1 t4
    rw [tab_ix hb, bind_val] at t2
    rw [tab_ix (Tp_lt h q0), bind_val] at t3
    simp -implicitDefEqProofs only [bind_val, asB_bl, if_true, Bool.not_true, Bool.not_false, Bool.false_eq_true, if_false, retF_rt, seqF_nx, seqF_rt, asSq_lst, asSq_tup, partP_int, leP_int, ltP_int, gtP_int, geP_int, addP_int, subP_int, intP_int, tupleP_lst, asLi_lst, tab_ix ha, t1, tab_ix hb, t2, tab_ix (Tp_lt h q0), t3, t4, as, eqP_nat, Nat.beq_refl]
  unfold m__is_associative
  simp -implicitDefEqProofs only [bind_val, asB_bl, if_true, Bool.not_true, Bool.not_false, Bool.false_eq_true, if_false, retF_rt, seqF_nx, seqF_rt, asSq_lst, asSq_tup, partP_int, leP_int, ltP_int, gtP_int, geP_int, addP_int, subP_int, intP_int, tupleP_lst, asLi_lst, tab_len, rg]
  rw [forF_unit ?ho]
  case ho =>
    intro p hp
    obtain ⟨a, ha, rfl⟩ := List.mem_map.mp hp
    rw [forF_unit ?hi]
    case hi =>
      intro p2 hp2
      obtain ⟨b, hb, rfl⟩ := List.mem_map.mp hp2
      have i2 := inner a b (List.mem_range.mp ha) (List.mem_range.mp hb)
      simp -implicitDefEqProofs only [bind_val] at i2
      simp -implicitDefEqProofs only [bind_val, asB_bl, if_true, Bool.not_true, Bool.not_false, Bool.false_eq_true, if_false, retF_rt, seqF_nx, seqF_rt, asSq_lst, asSq_tup, partP_int, leP_int, ltP_int, gtP_int, geP_int, addP_int, subP_int, intP_int, tupleP_lst, asLi_lst, sz, i2, allT]
    try simp -implicitDefEqProofs only [bind_val, asB_bl, if_true, Bool.not_true, Bool.not_false, Bool.false_eq_true, if_false, retF_rt, seqF_nx, seqF_rt, asSq_lst, asSq_tup, partP_int, leP_int, ltP_int, gtP_int, geP_int, addP_int, subP_int, intP_int, tupleP_lst, asLi_lst]
  try simp -implicitDefEqProofs only [bind_val, asB_bl, if_true, Bool.not_true, Bool.not_false, Bool.false_eq_true, if_false, retF_rt, seqF_nx, seqF_rt, asSq_lst, asSq_tup, partP_int, leP_int, ltP_int, gtP_int, geP_int, addP_int, subP_int, intP_int, tupleP_lst, asLi_lst]
theorem rowT_nodup (h : RowOk row q) (q0 : 0 < q) {a : Nat} (ha : a < q) : (rowT row q a).Nodup := List.pairwise_iff_getElem.mpr fun i j hi hj hij e => by
  have hi' := hi
  have hj' := hj
  rw [rowT_len] at hi' hj'
  have e1 := rowT_get (row := row) (a := a) hi'
  have e2 := rowT_get (row := row) (a := a) hj'
  rw [List.getElem?_eq_getElem hi] at e1
  rw [List.getElem?_eq_getElem hj] at e2
  rw [e] at e1
  have e3 := Option.some.inj (e1.symm.trans e2)
  have e4 := congrArg (pl row) e3
  rw [h.pl_Rg (Nat.mod_lt _ q0), h.pl_Rg (Nat.mod_lt _ q0)] at e4
  have p1 := h.pl_lt hi'
  have p2 := h.pl_lt hj'
  have p3 := h.pl_lt ha
  have e5 : pl row i = pl row j := by
    by_cases c1 : pl row a + pl row i < q
    · rw [Nat.mod_eq_of_lt c1] at e4
      by_cases c2 : pl row a + pl row j < q
      · rw [Nat.mod_eq_of_lt c2] at e4
        omega
      · rw [Nat.mod_eq_sub_mod (by omega), Nat.mod_eq_of_lt (by omega)] at e4
        omega
    · rw [Nat.mod_eq_sub_mod (by omega), Nat.mod_eq_of_lt (by omega)] at e4
      by_cases c2 : pl row a + pl row j < q
      · rw [Nat.mod_eq_of_lt c2] at e4
        omega
      · rw [Nat.mod_eq_sub_mod (show pl row a + pl row j ≥ q by omega), Nat.mod_eq_of_lt (by omega)] at e4
        omega
  have := h.Rg_pl hi'
  rw [e5, h.Rg_pl hj'] at this
  omega
theorem nodup_ints : ∀ {l : List Nat}, l.Nodup → (l.map fun n => ((n : Nat) : Int)).Nodup := fun h => List.pairwise_map.mpr (List.Pairwise.imp (fun h e => h (by omega)) h)
theorem lenSet_ok {l : List Nat} (h : l.Nodup) (hl : l.length < 1000) : lenSetP (.tup (PN l)) = .val (.int (l.length : Nat)) := by
  unfold lenSetP
  rw [PN_ints]
  simp only [allI_map]
  rw [if_pos (by rw [List.length_map]; exact hl), dedupI_nodup (nodup_ints h), List.length_map]
theorem grouptable_ok (h : RowOk row q) (h3 : 3 ≤ q) (h13 : q ≤ 13) (hp : prB q = true) : m__is_group_table (tabV row q) = .val (.bl true) := by
  have t1 : truP (.lst [.int (Rg row 0 : Nat)]) = .val true := rfl
  have sq : asSq (tabV row q) = .val ((List.range q).map fun a => PV.tup (PN (rowT row q a))) := rfl
  have sz : sized ((List.range q).map fun a => PV.tup (PN (rowT row q a))).length = .val () := sized_small (by rw [List.length_map, List.length_range]; omega)
  have lc := lcT (e := fun a => lenSetP a >>= fun x9 => lenP (tabV row q) >>= fun x10 => eqP x9 x10) (l := (List.range q).map fun a => PV.tup (PN (rowT row q a))) fun p hp => by
    obtain ⟨a, ha, rfl⟩ := List.mem_map.mp hp
    have ls := lenSet_ok (rowT_nodup h (by omega) (List.mem_range.mp ha)) (by rw [rowT_len]; omega)
    rw [rowT_len] at ls
    simp -implicitDefEqProofs only [bind_val, asB_bl, if_true, Bool.not_true, Bool.not_false, Bool.false_eq_true, if_false, retF_rt, seqF_nx, seqF_rt, asSq_lst, asSq_tup, partP_int, leP_int, ltP_int, gtP_int, geP_int, addP_int, subP_int, intP_int, tupleP_lst, asLi_lst, ls, tab_len, eqP_nat, Nat.beq_refl]
  have lc' := lc
  simp -implicitDefEqProofs only [bind_val, tab_len] at lc'
  unfold m__is_group_table
  simp -implicitDefEqProofs only [bind_val, asB_bl, if_true, Bool.not_true, Bool.not_false, Bool.false_eq_true, if_false, retF_rt, seqF_nx, seqF_rt, asSq_lst, asSq_tup, partP_int, leP_int, ltP_int, gtP_int, geP_int, addP_int, subP_int, intP_int, tupleP_lst, asLi_lst, square_ok h h3 h13 hp, units_ok h h3 h13, t1, sq, sz, tab_len, lc', allT, assoc_ok h h3 h13]
/-- a factor that can be taken back -/
theorem mulinv {c d q k : Nat} (e : c * d % q = 1) (hk : k < q) : d * (c * k % q) % q = k := by
  have q1 : 1 < q := by
    by_cases h : q = 1
    · subst h
      rw [Nat.mod_one] at e
      cases e
    · omega
  rw [Nat.mul_mod, Nat.mod_mod, ← Nat.mul_mod, ← Nat.mul_assoc, Nat.mul_comm d c, Nat.mul_mod, e, Nat.one_mul, Nat.mod_mod, Nat.mod_eq_of_lt hk]
def tgG (row : List Nat) : Nat := if 0 = Rg row 0 then 1 else 0
def tgC (row : List Nat) : Nat := pl row (tgG row)
theorem tgG_lt (h3 : 3 ≤ q) : tgG row < q := by unfold tgG; split <;> omega
theorem tgC_lt (h : RowOk row q) (h3 : 3 ≤ q) : tgC row < q := h.pl_lt (tgG_lt h3)
theorem tgC_ne (h : RowOk row q) (h3 : 3 ≤ q) : tgC row ≠ 0 := fun z => by
  have e := h.Rg_pl (tgG_lt (row := row) h3)
  have z' : pl row (tgG row) = 0 := z
  rw [z'] at e
  unfold tgG at e
  split at e <;> omega
def tgP (row : List Nat) (q k : Nat) : Nat := Rg row (tgC row * k % q)
theorem tgP_nodup (h : RowOk row q) (h3 : 3 ≤ q) (h127 : q ≤ 127) (hp : prB q = true) : (PL (tgP row q) q).Nodup := by
  obtain ⟨d, hd, e⟩ := invN hp h127 (tgC_lt h h3) (tgC_ne h h3)
  refine List.pairwise_iff_getElem.mpr fun i j hi hj hij ee => ?_
  have hi' := hi
  have hj' := hj
  rw [PL_len] at hi' hj'
  have e1 := PL_get (P := tgP row q) hi'
  have e2 := PL_get (P := tgP row q) hj'
  rw [List.getElem?_eq_getElem hi] at e1
  rw [List.getElem?_eq_getElem hj] at e2
  rw [ee] at e1
  have e3 := congrArg (pl row) (Option.some.inj (e1.symm.trans e2))
  unfold tgP at e3
  rw [h.pl_Rg (Nat.mod_lt _ (by omega)), h.pl_Rg (Nat.mod_lt _ (by omega))] at e3
  have k1 := mulinv e hi'
  have k2 := mulinv e hj'
  rw [e3, k2] at k1
  omega
theorem makeT (h : RowOk row q) (h3 : 3 ≤ q) (h13 : q ≤ 13) (hp : prB q = true) : m_TableGroup___init__ (.ob "TableGroup" []) (tabV row q) = .val (.non, .ob "TableGroup" (fsTg (tabV row q) q (Rg row 0) (List.range q) (tgG row) (PL (tgP row q) q) (DX 0 (PL (tgP row q) q)))) := by
  have q0 : 0 < q := by omega
  have f1 : ∀ a : PV, setF cs_table "TableGroup" [] "table" a = .val [("table", a)] := fun _ => rfl
  have g4 : ∀ a b c d e : PV, fldP cs_table "table" (.ins "TableGroup" [("table", a), ("order", b), ("unit", c), ("members", d), ("generator", e)]) = .val a := fun _ _ _ _ _ => rfl
  have hi := initTg (a := tabV row q) (q := q) (u := Rg row 0) (g := tgG row) (M := List.range q) (m0 := 0) (m1 := 1) (P := tgP row q) (by omega) (by omega) (List.getElem?_range (by omega)) (List.getElem?_range (by omega)) rfl (by unfold tgP; rw [Nat.mul_zero, Nat.zero_mod]) (dcX (PL (tgP row q) q) 0 [] (tgP_nodup h h3 (by omega) hp) fun _ _ => rfl) fun e k hk => by
    have lt : tgP row q k < q := h.lt (Nat.mod_lt _ q0)
    have lg := tgG_lt (row := row) h3
    have t := tab2 (row := row) lt lg
    have hs : Tp row q (tgP row q k) (tgG row) = tgP row q (k + 1) := by
      unfold Tp tgP
      rw [h.pl_Rg (Nat.mod_lt _ q0), Nat.mod_add_mod]
      rfl
    rw [hs, tab_ix lt, bind_val] at t
    rw [ap3_three]
    unfold m_TableGroup_multiply
    simp -implicitDefEqProofs only [bind_val, asB_bl, if_true, Bool.not_true, Bool.not_false, Bool.false_eq_true, if_false, retF_rt, seqF_nx, seqF_rt, asSq_lst, asSq_tup, partP_int, leP_int, ltP_int, gtP_int, geP_int, addP_int, subP_int, intP_int, tupleP_lst, asLi_lst, g4, tab_ix lt, t]
  rw [List.nil_append] at hi
  have u0 : ixP (.lst [.int (Rg row 0 : Nat)]) (.int 0) = .val (.int (Rg row 0 : Nat)) := rfl
  have rg := rgL_nat (q := q) (by omega)
  unfold m_TableGroup___init__
  simp -implicitDefEqProofs only [bind_val, asB_bl, if_true, Bool.not_true, Bool.not_false, Bool.false_eq_true, if_false, retF_rt, seqF_nx, seqF_rt, asSq_lst, asSq_tup, partP_int, leP_int, ltP_int, gtP_int, geP_int, addP_int, subP_int, intP_int, tupleP_lst, asLi_lst, grouptable_ok h h3 h13 hp, f1, tab_len, units_ok h h3 h13, u0, rg]
  unfold supP
  simp -implicitDefEqProofs only [bind_val, asB_bl, if_true, Bool.not_true, Bool.not_false, Bool.false_eq_true, if_false, retF_rt, seqF_nx, seqF_rt, asSq_lst, asSq_tup, partP_int, leP_int, ltP_int, gtP_int, geP_int, addP_int, subP_int, intP_int, tupleP_lst, asLi_lst, if_pos, apR3_t, hi, noX_val, retR_nx]
end
/-! ### a group of a table -/
structure GW (O : PV) (row : List Nat) (q : Nat) : Prop where
  q3 : 3 ≤ q
  q127 : q ≤ 127
  qp : prB q = true
  len : row.length = q
  lt : ∀ i, i < q → Rg row i < 100000
  spow : sel [("TableGroup", ap3 m_Group_power)] "power" O = .val (ap3 m_Group_power)
  sinv : sel [("TableGroup", ap2 m_Group_inverse_of)] "inverse_of" O = .val (ap2 m_Group_inverse_of)
  shas : sel [("TableGroup", ap2 m_Group_has)] "has" O = .val (ap2 m_Group_has)
  isg : isiC it_Group O = .val (.bl true)
  mul : ∃ f, sel [("TableGroup", ap3 m_TableGroup_multiply)] "multiply" O = .val f ∧ ∀ i j, i < q → j < q → f [O, .int (Rg row i : Nat), .int (Rg row j : Nat)] = .val (.int (Rg row ((i + j) % q) : Nat))
  ord : fldP cs_order "order" O = .val (.int (q : Nat))
  uni : fldP cs_unit "unit" O = .val (.int (Rg row 0 : Nat))
  pow : ∃ (P : List Nat) (c d : Nat), fldP cs__powers "_powers" O = .val (.tup (PN P)) ∧ fldP cs__exponents "_exponents" O = .val (.dct (DX 0 P)) ∧ P.length = q ∧ P.Nodup ∧ c < q ∧ d < q ∧ c * d % q = 1 ∧ ∀ k, k < q → P[k]? = some (Rg row (c * k % q))
theorem gwT {row : List Nat} {q : Nat} (h : RowOk row q) (h3 : 3 ≤ q) (h13 : q ≤ 13) (hp : prB q = true) : GW (.ins "TableGroup" (fsTg (tabV row q) q (Rg row 0) (List.range q) (tgG row) (PL (tgP row q) q) (DX 0 (PL (tgP row q) q)))) row q := by
  have q0 : 0 < q := by omega
  obtain ⟨d, hd, e⟩ := invN hp (by omega) (tgC_lt h h3) (tgC_ne h h3)
  refine ⟨h3, by omega, hp, h.len, fun i hi => ?_, rfl, rfl, rfl, rfl, ⟨_, rfl, fun i j hi hj => ?_⟩, rfl, rfl, ⟨PL (tgP row q) q, tgC row, d, rfl, rfl, PL_len, tgP_nodup h h3 (by omega) hp, tgC_lt h h3, hd, e, fun k hk => PL_get hk⟩⟩
  · have := h.lt hi
    omega
  · have ft : fldP cs_table "table" (.ins "TableGroup" (fsTg (tabV row q) q (Rg row 0) (List.range q) (tgG row) (PL (tgP row q) q) (DX 0 (PL (tgP row q) q)))) = .val (tabV row q) := rfl
    have t := tab2 (row := row) (h.lt hi) (h.lt hj)
    have hs : Tp row q (Rg row i) (Rg row j) = Rg row ((i + j) % q) := by
      unfold Tp
      rw [h.pl_Rg hi, h.pl_Rg hj]
    rw [hs, tab_ix (h.lt hi), bind_val] at t
    rw [ap3_three]
    unfold m_TableGroup_multiply
    simp -implicitDefEqProofs only [bind_val, asB_bl, if_true, Bool.not_true, Bool.not_false, Bool.false_eq_true, if_false, retF_rt, seqF_nx, seqF_rt, asSq_lst, asSq_tup, partP_int, leP_int, ltP_int, gtP_int, geP_int, addP_int, subP_int, intP_int, tupleP_lst, asLi_lst, ft, tab_ix (h.lt hi), t]
section
variable {O : PV} {row : List Nat} {q : Nat}
theorem GW.get (W : GW O row q) {i : Nat} (hi : i < q) : row[i]? = some (Rg row i) := by
  have : i < row.length := by rw [W.len]; exact hi
  unfold Rg
  rw [List.getD_eq_getElem?_getD, List.getElem?_eq_getElem this]
  rfl
theorem GW.inj (W : GW O row q) {i j : Nat} (hi : i < q) (hj : j < q) (e : Rg row i = Rg row j) : i = j := by
  obtain ⟨P, c, d, h1, h2, len, nd, hc, hd, ec, al⟩ := W.pow
  have q0 : 0 < q := by omega
  have ed : d * c % q = 1 := by rw [Nat.mul_comm]; exact ec
  have a1 := al (d * i % q) (Nat.mod_lt _ q0)
  have a2 := al (d * j % q) (Nat.mod_lt _ q0)
  rw [mulinv ed hi] at a1
  rw [mulinv ed hj, ← e] at a2
  have l1 : d * i % q < P.length := by rw [len]; exact Nat.mod_lt _ q0
  have l2 : d * j % q < P.length := by rw [len]; exact Nat.mod_lt _ q0
  rw [List.getElem?_eq_getElem l1] at a1
  rw [List.getElem?_eq_getElem l2] at a2
  have e2 : d * i % q = d * j % q := (List.getElem_inj (h₀ := l1) (h₁ := l2) nd).mp ((Option.some.inj a1).trans (Option.some.inj a2).symm)
  have k1 := mulinv ed hi
  rw [e2, mulinv ed hj] at k1
  omega
theorem GW.power (W : GW O row q) {i : Nat} (hi : i < q) (n : Int) : ∃ j : Nat, ((i : Int) * n) % (q : Int) = (j : Int) ∧ j < q ∧ m_Group_power O (.int (Rg row i : Nat)) (.int n) = .val (.int (Rg row j : Nat)) := by
  obtain ⟨P, c, d, h1, h2, len, nd, hc, hd, ec, al⟩ := W.pow
  have h3 := W.q3
  have h127 := W.q127
  have q0 : 0 < q := by omega
  have q0' : (0 : Int) < (q : Int) := by omega
  have ed : d * c % q = 1 := by rw [Nat.mul_comm]; exact ec
  have eE : d * i % q < q := Nat.mod_lt _ q0
  have a1 := al (d * i % q) eE
  rw [mulinv ed hi] at a1
  have dg : dgetP (.dct (DX 0 P)) (.int (Rg row i : Nat)) = .val (.int ((d * i % q : Nat) : Int)) := by
    have e := DX_get (k := 0) nd a1
    unfold dgetP
    show (match valP (DX 0 P) (.inl (Rg row i : Nat)) with | some p => Res.val p | none => .stuck) = _
    rw [e, Nat.zero_add]
  obtain ⟨j, hj⟩ := Int.eq_ofNat_of_zero_le (Int.emod_nonneg (((d * i % q : Nat) : Int) * n) (by omega : (q : Int) ≠ 0))
  have hj2 := Int.emod_lt_of_pos (((d * i % q : Nat) : Int) * n) q0'
  have jq : j < q := by omega
  have ml : mulP (.int ((d * i % q : Nat) : Int)) (.int n) = .val (.int (((d * i % q : Nat) : Int) * n)) := mulP_l (by omega) (by omega)
  have md : modP (.int (((d * i % q : Nat) : Int) * n)) (.int (q : Nat)) = .val (.int (j : Nat)) := by rw [modP_pos q0', hj]
  have ix : ixP (.tup (PN P)) (.int (j : Nat)) = .val (.int (Rg row (c * j % q) : Nat)) := ixP_tup (PN_get (al j jq))
  refine ⟨c * j % q, ?_, Nat.mod_lt _ q0, ?_⟩
  · have e1 : ((c * j % q : Nat) : Int) = ((c : Int) * (((d * i % q : Nat) : Int) * n)) % (q : Int) := by
      rw [Int.natCast_emod, Int.natCast_mul, ← hj, Int.mul_emod, Int.emod_emod, ← Int.mul_emod]
    have e2 : ((c : Int) * ((d * i % q : Nat) : Int)) % (q : Int) = (i : Int) := by
      have := mulinv ed hi
      have e3 : ((c * (d * i % q) % q : Nat) : Int) = (i : Int) := by rw [this]
      rw [Int.natCast_emod, Int.natCast_mul] at e3
      exact e3
    rw [e1, ← Int.mul_assoc, Int.mul_emod ((c : Int) * ((d * i % q : Nat) : Int)) n, e2, Int.mul_emod (i : Int) n, Int.emod_eq_of_lt (a := (i : Int)) (by omega) (by omega)]
  · unfold m_Group_power
    simp -implicitDefEqProofs only [bind_val, asB_bl, if_true, Bool.not_true, Bool.not_false, Bool.false_eq_true, if_false, retF_rt, seqF_nx, seqF_rt, asSq_lst, asSq_tup, partP_int, leP_int, ltP_int, gtP_int, geP_int, addP_int, subP_int, intP_int, tupleP_lst, asLi_lst, h1, h2, dg, ml, W.ord, md, ix]
theorem GW.ixr (W : GW O row q) {i : Nat} (hi : i < q) : ixP (.lst (PN row)) (.int (i : Nat)) = .val (.int (Rg row i : Nat)) := ixP_lst (PN_get (W.get hi))
theorem GW.inv (W : GW O row q) {i : Nat} (hi : i < q) : ∃ j : Nat, ((i : Int) * (-1)) % (q : Int) = (j : Int) ∧ j < q ∧ m_Group_inverse_of O (.int (Rg row i : Nat)) = .val (.int (Rg row j : Nat)) := by
  obtain ⟨j, e1, hj, e2⟩ := W.power hi (-1)
  have ng : negP (.int 1) = .val (.int (-1)) := rfl
  refine ⟨j, e1, hj, ?_⟩
  unfold m_Group_inverse_of
  simp -implicitDefEqProofs only [bind_val, asB_bl, if_true, Bool.not_true, Bool.not_false, Bool.false_eq_true, if_false, retF_rt, seqF_nx, seqF_rt, asSq_lst, asSq_tup, partP_int, leP_int, ltP_int, gtP_int, geP_int, addP_int, subP_int, intP_int, tupleP_lst, asLi_lst, W.spow, ng, ap3_three, e2]
theorem has_int (h : RowOk row q) (h3 : 3 ≤ q) (h13 : q ≤ 13) (hp : prB q = true) (x : Int) : m_Group_has (.ins "TableGroup" (fsTg (tabV row q) q (Rg row 0) (List.range q) (tgG row) (PL (tgP row q) q) (DX 0 (PL (tgP row q) q)))) (.int x) = .val (.bl (decide (0 ≤ x) && decide (x < (q : Int)))) := by
  have q0 : 0 < q := by omega
  have ii : isiP (.int x) (.ty "int") = .val (.bl true) := rfl
  have fe : fldP cs__exponents "_exponents" (.ins "TableGroup" (fsTg (tabV row q) q (Rg row 0) (List.range q) (tgG row) (PL (tgP row q) q) (DX 0 (PL (tgP row q) q)))) = .val (.dct (DX 0 (PL (tgP row q) q))) := rfl
  have d : dinP false (.int x) (.dct (DX 0 (PL (tgP row q) q))) = .val (.bl (decide (0 ≤ x) && decide (x < (q : Int)))) := by
    show Res.val (PV.bl (valP (DX 0 (PL (tgP row q) q)) (.inl x)).isSome) = _
    by_cases c : 0 ≤ x ∧ x < (q : Int)
    · obtain ⟨n, rfl⟩ := Int.eq_ofNat_of_zero_le c.1
      have hn : n < q := by omega
      obtain ⟨d, hd, e⟩ := invN hp (by omega) (tgC_lt h h3) (tgC_ne h h3)
      have ed : d * tgC row % q = 1 := by rw [Nat.mul_comm]; exact e
      have hi := h.pl_lt hn
      have g := PL_get (P := tgP row q) (n := q) (i := d * pl row n % q) (Nat.mod_lt _ q0)
      have ev : tgP row q (d * pl row n % q) = n := by
        unfold tgP
        rw [mulinv ed hi, h.Rg_pl hn]
      rw [ev] at g
      rw [DX_get (k := 0) (tgP_nodup h h3 (by omega) hp) g, decide_eq_true c.1, decide_eq_true c.2]
      rfl
    · have hn : valP (DX 0 (PL (tgP row q) q)) (.inl x) = none := DX_none fun n hn e => c (by
        obtain ⟨k, hk, rfl⟩ := List.mem_map.mp hn
        have : tgP row q k < q := h.lt (Nat.mod_lt _ q0)
        omega)
      rw [hn]
      by_cases c0 : 0 ≤ x
      · have c1 : ¬ x < (q : Int) := fun z => c ⟨c0, z⟩
        rw [decide_eq_true c0, decide_eq_false c1]
        rfl
      · rw [decide_eq_false c0]
        rfl
  unfold m_Group_has
  simp -implicitDefEqProofs only [bind_val, asB_bl, if_true, Bool.not_true, Bool.not_false, Bool.false_eq_true, if_false, retF_rt, seqF_nx, seqF_rt, asSq_lst, asSq_tup, partP_int, leP_int, ltP_int, gtP_int, geP_int, addP_int, subP_int, intP_int, tupleP_lst, asLi_lst, ii, fe, d]
theorem has_not {O v : PV} (h : isiP v (.ty "int") = .val (.bl false)) : m_Group_has O v = .val (.bl false) := by
  unfold m_Group_has
  simp -implicitDefEqProofs only [bind_val, asB_bl, if_true, Bool.not_true, Bool.not_false, Bool.false_eq_true, if_false, retF_rt, seqF_nx, seqF_rt, asSq_lst, asSq_tup, partP_int, leP_int, ltP_int, gtP_int, geP_int, addP_int, subP_int, intP_int, tupleP_lst, asLi_lst, h]
end
/-! ### products by places -/
def GoodP (R : Res (PV × MO)) : Prop := ∃ l', R = .val (.bl true, .lst l') ∧ Bx l'
theorem partG {S S1 L : Type} {G : Res (PV × MO) → Prop} {M : Res (Fl S1 L)} {N : S1 → Res (Fl S L)} {ret : Res (Fl S L) → Res (PV × MO)} (I : S1 → Prop) (h1 : ∃ s, M = .val (.nx s) ∧ I s) (h2 : ∀ s, I s → G (ret (N s))) : G (ret (seqF M N)) := by
  obtain ⟨s, e, hs⟩ := h1
  rw [e]
  exact h2 s hs
theorem mult_ok {row : List Nat} {q : Nat} {l : List PV} (hb : Bx l) (h : RowOk row q) (h3 : 3 ≤ q) (h13 : q ≤ 13) (hp : prB q = true) : GoodP (m__law_multiplies (.lst l) (.lst (PN row))) := by
  have q0 : 0 < q := by omega
  have q0' : (0 : Int) < (q : Int) := by omega
  have tb := lawtable_ok h (by omega) (by omega)
  have mk := makeT h h3 h13 hp
  have W := gwT h h3 h13 hp
  have hh := has_int h h3 h13 hp
  generalize hO : PV.ins "TableGroup" (fsTg (tabV row q) q (Rg row 0) (List.range q) (tgG row) (PL (tgP row q) q) (DX 0 (PL (tgP row q) q))) = O at W hh
  have fr : frO (.non, .ob "TableGroup" (fsTg (tabV row q) q (Rg row 0) (List.range q) (tgG row) (PL (tgP row q) q) (DX 0 (PL (tgP row q) q)))) = .val O := by rw [frO_ob, hO]
  have ln : lenP (.lst (PN row)) = .val (.int (q : Nat)) := by rw [lenP_lst, PN_len, h.len]
  have gk : ∀ a : PV, g_TableGroup___init___1_table [.non] [a] = [.non, a] := fun _ => rfl
  have tl : ∀ a : PV, tlP [.non, a] = .val [a] := fun _ => rfl
  have r10 : rng1 (.int 10) = .val (PN (List.range 10)) := rng1_nat (a := 10) (by decide)
  have gm : ∀ a b c : PV, g_TableGroup_multiply_1_second_first [a] [b, c] = [a, c, b] := fun _ _ _ => rfl
  have ng : ∀ a : Int, negP (.int a) = .val (.int (-a)) := fun _ => rfl
  have ali : ∀ a b : Nat, m__law_alike 5 (.tup [.int (a : Nat), .int (b : Nat)]) (.tup [.int (a : Nat), .int (b : Nat)]) = .val (.bl true) := fun a b => alike_ints 3 [(a : Int), (b : Int)] (by show 2 ≤ 10000000; decide)
  unfold m__law_multiplies
  simp -implicitDefEqProofs only [bind_val, asB_bl, if_true, Bool.not_true, Bool.not_false, Bool.false_eq_true, if_false, retF_rt, seqF_nx, seqF_rt, asSq_lst, asSq_tup, partP_int, leP_int, ltP_int, gtP_int, geP_int, addP_int, subP_int, intP_int, tupleP_lst, asLi_lst, tb, gk, tl, apR1_o, mk, fr, ln]
  refine partG (G := GoodP) (ret := retR) Bx ?_ ?_
  · rw [r10, bind_val]
    refine forF_inv hb fun x hx s hs => ?_
    obtain ⟨i, s1, d1, hi, hs1⟩ := draw_nat hs (m := q) q0 (by omega)
    obtain ⟨k, s2, d2, hk, hs2⟩ := draw_nat hs1 (m := q) q0 (by omega)
    obtain ⟨f, sf, mf⟩ := W.mul
    have m1 := mf i k hi hk
    have m2 := mf k i hk hi
    rw [Nat.add_comm k i] at m2
    have ad : ((i : Nat) : Int) + ((k : Nat) : Int) = ((i + k : Nat) : Int) := by omega
    obtain ⟨j, ej, hj, iv⟩ := W.inv hi
    have md : modP (.int (0 - (i : Nat))) (.int (q : Nat)) = .val (.int (j : Nat)) := by
      have e2 : (0 - (i : Int)) % (q : Int) = (j : Int) := by
        rw [← ej, show (0 - (i : Int)) = (i : Int) * (-1) by omega]
      rw [modP_pos q0', e2]
    refine ⟨s2, ?_, hs2⟩
    simp -implicitDefEqProofs only [bind_val, asB_bl, if_true, Bool.not_true, Bool.not_false, Bool.false_eq_true, if_false, retF_rt, seqF_nx, seqF_rt, asSq_lst, asSq_tup, partP_int, leP_int, ltP_int, gtP_int, geP_int, addP_int, subP_int, intP_int, tupleP_lst, asLi_lst, noX_val, apR1_o, d1, moL_lst, d2, ad, modP_nat q0, W.ixr (Nat.mod_lt (i + k) q0), W.ixr hi, W.ixr hk, sf, m1, gm, m2, mk2, ali, W.sinv, ap2_two, iv, md, W.ixr hj, alike_int]
  · intro s hs
    have l9 : ∀ a b c d e f g h i : PV, mkL [a, b, c, d, e, f, g, h, i] = .val (.lst [a, b, c, d, e, f, g, h, i]) := fun _ _ _ _ _ _ _ _ _ => mkL_ok (by show 9 ≤ 10000000; decide)
    have p9 : powP (.int 10) (.int 9) = .val (.int 1000000000) := rfl
    have t0 : mkT [] = .val (.tup []) := mkT_ok (by show 0 ≤ 10000000; decide)
    have sq : ((q : Nat) : Int) - 1 = ((q - 1 : Nat) : Int) := by omega
    simp -implicitDefEqProofs only [bind_val, asB_bl, if_true, Bool.not_true, Bool.not_false, Bool.false_eq_true, if_false, retF_rt, seqF_nx, seqF_rt, asSq_lst, asSq_tup, partP_int, leP_int, ltP_int, gtP_int, geP_int, addP_int, subP_int, intP_int, tupleP_lst, asLi_lst, sq, ng, p9, t0, mk1, l9]
    refine partG (G := GoodP) (ret := retR) (fun _ => True) ⟨(), ?_, trivial⟩ fun _ _ => ⟨s, rfl, hs⟩
    refine forF_unit fun x hx => ?_
    have hc : (∃ z : Int, x = .int z) ∨ isiP x (.ty "int") = .val (.bl false) := by
      simp only [List.mem_cons, List.not_mem_nil, or_false] at hx
      rcases hx with rfl | rfl | rfl | rfl | rfl | rfl | rfl | rfl | rfl
      all_goals first
        | exact .inl ⟨_, rfl⟩
        | exact .inr rfl
    rcases hc with ⟨z, rfl⟩ | hc
    · have ii : isiP (.int z) (.ty "int") = .val (.bl true) := rfl
      have h1 := hh z
      by_cases c : 0 ≤ z
      · rw [decide_eq_true c, Bool.true_and] at h1
        simp -implicitDefEqProofs only [bind_val, asB_bl, if_true, Bool.not_true, Bool.not_false, Bool.false_eq_true, if_false, retF_rt, seqF_nx, seqF_rt, asSq_lst, asSq_tup, partP_int, leP_int, ltP_int, gtP_int, geP_int, addP_int, subP_int, intP_int, tupleP_lst, asLi_lst, W.shas, ap2_two, h1, ii, decide_eq_true c, alike_bl]
      · rw [decide_eq_false c, Bool.false_and] at h1
        simp -implicitDefEqProofs only [bind_val, asB_bl, if_true, Bool.not_true, Bool.not_false, Bool.false_eq_true, if_false, retF_rt, seqF_nx, seqF_rt, asSq_lst, asSq_tup, partP_int, leP_int, ltP_int, gtP_int, geP_int, addP_int, subP_int, intP_int, tupleP_lst, asLi_lst, W.shas, ap2_two, h1, ii, decide_eq_false c, alike_bl]
    · simp -implicitDefEqProofs only [bind_val, asB_bl, if_true, Bool.not_true, Bool.not_false, Bool.false_eq_true, if_false, retF_rt, seqF_nx, seqF_rt, asSq_lst, asSq_tup, partP_int, leP_int, ltP_int, gtP_int, geP_int, addP_int, subP_int, intP_int, tupleP_lst, asLi_lst, W.shas, ap2_two, has_not hc, hc, alike_bl]
/-! ### tables that are spoilt -/
theorem flatsP_PN : ∀ l : List Nat, flatsP (PN l) = some (l.map fun n : Nat => V.int (n : Nat))
  | [] => rfl
  | n :: l => by
    show ((flatP (.int (n : Nat))).bind fun v => (flatsP (PN l)).map fun vs => v :: vs) = _
    rw [flatsP_PN l]
    rfl
theorem okTab_of {ls : List PV} (h : ∀ x, x ∈ ls → okRow x = true) (hl : ls.length ≤ 1000) : okTab (.tup ls) = true := by
  show (ls.all okRow && Nat.ble ls.length 1000) = true
  rw [Bool.and_eq_true, Nat.ble_eq]
  exact ⟨List.all_eq_true.mpr h, hl⟩
theorem okRow_of {ps : List PV} (h : ∀ x, x ∈ ps → okPart x = true) (hl : ps.length ≤ 1000) : okRow (.tup ps) = true := by
  show (ps.all okPart && Nat.ble ps.length 1000) = true
  rw [Bool.and_eq_true, Nat.ble_eq]
  exact ⟨List.all_eq_true.mpr h, hl⟩
theorem okRow_PN {l : List Nat} (hl : l.length ≤ 1000) : okRow (.tup (PN l)) = true := okRow_of (fun x hx => by
  obtain ⟨n, _, rfl⟩ := List.mem_map.mp hx
  rfl) (by rw [PN_len]; exact hl)
theorem okRow_inv {ps : List PV} (h : okRow (.tup ps) = true) : (∀ x, x ∈ ps → okPart x = true) ∧ ps.length ≤ 1000 := by
  have h' : (ps.all okPart && Nat.ble ps.length 1000) = true := h
  rw [Bool.and_eq_true, Nat.ble_eq] at h'
  exact ⟨fun x hx => List.all_eq_true.mp h'.1 x hx, h'.2⟩
theorem mem_set' {α : Type} {l : List α} {i : Nat} {v x : α} (h : x ∈ l.set i v) : x ∈ l ∨ x = v := List.mem_or_eq_of_mem_set h
theorem okTab_N {T : Nat → Nat → Nat} {q : Nat} (hq : q ≤ 1000) : okTab (tabN T q) = true := okTab_of (fun x hx => by
  obtain ⟨a, _, rfl⟩ := List.mem_map.mp hx
  exact okRow_PN (by rw [List.length_map, List.length_range]; exact hq)) (by rw [List.length_map, List.length_range]; exact hq)
theorem cut_to {xs : List PV} {a : Nat} : cutP xs none (some (a : Nat)) = xs.take a := by
  unfold cutP
  rw [HT.sIx_none, HT.sIx_nat, List.drop_zero, Nat.sub_zero, ← List.take_take, List.take_length]
theorem cut_from {xs : List PV} {a : Nat} : cutP xs (some (a : Nat)) none = xs.drop a := by
  unfold cutP
  rw [HT.sIx_none, HT.sIx_nat]
  by_cases c : a ≤ xs.length
  · rw [Nat.min_eq_left c]
    exact List.take_of_length_le (by rw [List.length_drop]; omega)
  · rw [Nat.min_eq_right (by omega), List.drop_eq_nil_of_le (Nat.le_refl _), List.drop_eq_nil_of_le (by omega), List.take_nil]
theorem slT {ps : List PV} {lo hi : Option Int} : slP (.tup ps) lo hi = .val (.tup (cutP ps lo hi)) := rfl
theorem set_cut {ps : List PV} {b : Nat} {v : PV} (h : b < ps.length) : ps.take b ++ [v] ++ ps.drop (b + 1) = ps.set b v := by
  rw [List.set_eq_take_append_cons_drop, if_pos h, List.append_assoc]
  rfl
theorem with_ok {ls ps : List PV} {a b : Nat} {v : PV} (hls : ls.length ≤ 1000) (hps : ps.length ≤ 1000) (ha : ls[a]? = some (.tup ps)) (hb : b < ps.length) : m__law_with (.tup ls) (.int (a : Nat)) (.int (b : Nat)) v = .val (.tup (ls.set a (.tup (ps.set b v)))) := by
  have hal : a < ls.length := (List.getElem?_eq_some_iff.mp ha).1
  have x1 : ixP (.tup ls) (.int (a : Nat)) = .val (.tup ps) := ixP_tup ha
  have m1 : ∀ a : PV, mkT [a] = .val (.tup [a]) := mk1
  have a1 : ∀ n : Nat, ((n : Nat) : Int) + 1 = ((n + 1 : Nat) : Int) := fun _ => rfl
  have t1 : (ps.take b).length ≤ 1000 := by rw [List.length_take]; omega
  have t2 : (ps.drop (b + 1)).length ≤ 1000 := by rw [List.length_drop]; omega
  have t3 : (ls.take a).length ≤ 1000 := by rw [List.length_take]; omega
  have t4 : (ls.drop (a + 1)).length ≤ 1000 := by rw [List.length_drop]; omega
  have ad1 := addP_tups (a := ps.take b) (b := [v]) (by show _ + 1 ≤ _; omega)
  have ad2 := addP_tups (a := ps.take b ++ [v]) (b := ps.drop (b + 1)) (by rw [List.length_append]; show _ + 1 + _ ≤ _; omega)
  rw [set_cut hb] at ad2
  have ad3 := addP_tups (a := ls.take a) (b := [.tup (ps.set b v)]) (by show _ + 1 ≤ _; omega)
  have ad4 := addP_tups (a := ls.take a ++ [.tup (ps.set b v)]) (b := ls.drop (a + 1)) (by rw [List.length_append]; show _ + 1 + _ ≤ _; omega)
  rw [set_cut hal] at ad4
  unfold m__law_with
  simp -implicitDefEqProofs only [bind_val, asB_bl, if_true, Bool.not_true, Bool.not_false, Bool.false_eq_true, if_false, retF_rt, seqF_nx, seqF_rt, asSq_lst, asSq_tup, partP_int, leP_int, ltP_int, gtP_int, geP_int, addP_int, subP_int, intP_int, tupleP_lst, asLi_lst, slT, cut_to, x1, m1, ad1, a1, cut_from, ad2, ad3, ad4]
theorem tabComp {q : Nat} {e : PV → PV → Res PV} {F : Nat → Nat → Nat} (h : ∀ x y, x < q → y < q → e (.int (x : Nat)) (.int (y : Nat)) = .val (.int (F x y : Nat))) :
    lcF (fun x => Res.val x) (fun (_ : PV) => Res.val true) (fun a => (lcF (fun x => Res.val x) (fun (_ : PV) => Res.val true) (fun b => e a b) (PN (List.range q)) >>= fun ps => Res.val (PV.lst ps)) >>= tupleP) (PN (List.range q)) = .val ((List.range q).map fun x => PV.tup (PN ((List.range q).map fun y => F x y))) := by
  have l := lcN (c := fun _ => Res.val true) (e := fun a => (lcF (fun x => Res.val x) (fun (_ : PV) => Res.val true) (fun b => e a b) (PN (List.range q)) >>= fun ps => Res.val (PV.lst ps)) >>= tupleP) (k := fun _ => true) (g := fun x => PV.tup (PN ((List.range q).map fun y => F x y))) (l := List.range q) (fun _ _ => rfl) fun x hx _ => by
    have l2 := lcN (c := fun _ => Res.val true) (e := fun b => e (.int (x : Nat)) b) (k := fun _ => true) (g := fun y => PV.int (F x y : Nat)) (l := List.range q) (fun _ _ => rfl) fun y hy _ => h x y (List.mem_range.mp hx) (List.mem_range.mp hy)
    rw [List.filter_eq_self.mpr fun _ _ => rfl] at l2
    rw [l2]
    unfold PN
    rw [List.map_map]
    rfl
  rw [List.filter_eq_self.mpr fun _ _ => rfl] at l
  exact l
theorem tupN {F : Nat → Nat → Nat} {q : Nat} : tupleP (.lst ((List.range q).map fun x => PV.tup (PN ((List.range q).map fun y => F x y)))) = .val (tabN F q) := rfl
section
variable {row : List Nat} {q : Nat}
theorem idx_ok (h : RowOk row q) {k : Nat} (hk : k < q) : idxQ (PN row) (.int (k : Nat)) = .val (.int (pl row k : Nat)) := by
  have hl := List.idxOf_lt_length_of_mem (h.mem.mpr hk)
  have e : (row.map fun n : Nat => V.int (n : Nat)).findIdx? (fun z => eqV z (.int (k : Nat))) = some (pl row k) := by
    refine List.findIdx?_eq_some_iff_getElem.mpr ⟨by rw [List.length_map]; exact hl, ?_, fun j hj => ?_⟩
    · rw [List.getElem_map]
      have := h.Rg_pl hk
      unfold Rg at this
      rw [List.getD_eq_getElem?_getD, List.getElem?_eq_getElem (show pl row k < row.length from hl), Option.getD_some] at this
      rw [this]
      show ((k : Int) == (k : Int)) = true
      exact beq_self_eq_true _
    · rw [List.getElem_map]
      have hj' : j < row.length := Nat.lt_trans hj hl
      intro z
      have z' : ((row[j] : Nat) : Int) = (k : Int) := eq_of_beq z
      have : row.idxOf row[j] = j := h.nd.idxOf_getElem j hj'
      rw [show row[j] = k by omega] at this
      have : pl row k = j := this
      omega
  unfold idxQ
  rw [flatsP_PN]
  show (match (row.map fun n : Nat => V.int (n : Nat)).findIdx? (fun z => eqV z (.int (k : Nat))) with | some j => Res.val (PV.int (j : Nat)) | none => .stuck) = _
  rw [e]
theorem places_ok (h : RowOk row q) : lcF (fun x => Res.val x) (fun (_ : PV) => Res.val true) (fun (a2 : PV) => idxQ (PN row) a2) (PN (List.range q)) = .val (PN ((List.range q).map (pl row))) := by
  have l := lcN (c := fun _ => Res.val true) (e := fun a2 => idxQ (PN row) a2) (k := fun _ => true) (g := fun k => PV.int (pl row k : Nat)) (l := List.range q) (fun _ _ => rfl) fun k hk _ => idx_ok h (List.mem_range.mp hk)
  rw [List.filter_eq_self.mpr fun _ _ => rfl] at l
  rw [l]
  unfold PN
  rw [List.map_map]
  rfl
theorem place_ix {k : Nat} (hk : k < q) : ixP (.lst (PN ((List.range q).map (pl row)))) (.int (k : Nat)) = .val (.int (pl row k : Nat)) := ixP_lst (PN_get (by rw [List.getElem?_map, List.getElem?_range hk]; rfl))
theorem rowix (h : RowOk row q) {i : Nat} (hi : i < q) : ixP (.lst (PN row)) (.int (i : Nat)) = .val (.int (Rg row i : Nat)) := ixP_lst (PN_get (h.get hi))
theorem named_ok (h : RowOk row q) (hq : q ≤ 13) {F : Nat → Nat → Nat} (hF : ∀ a b, a < q → b < q → F a b < q) : m__law_named (.lst (PN row)) (tabN F q) = .val (tabN (fun a b => Rg row (F (pl row a) (pl row b))) q) := by
  have ln : lenP (.lst (PN row)) = .val (.int (q : Nat)) := by rw [lenP_lst, PN_len, h.len]
  have r1 : rng1 (.int (q : Nat)) = .val (PN (List.range q)) := rng1_nat (by omega)
  have sz : sized (PN (List.range q)).length = .val () := sized_small (by rw [PN_len, List.length_range]; omega)
  unfold m__law_named
  simp -implicitDefEqProofs only [bind_val, asB_bl, if_true, Bool.not_true, Bool.not_false, Bool.false_eq_true, if_false, retF_rt, seqF_nx, seqF_rt, asSq_lst, asSq_tup, partP_int, leP_int, ltP_int, gtP_int, geP_int, addP_int, subP_int, intP_int, tupleP_lst, asLi_lst, ln, r1, sz, places_ok h]
  rw [tabComp (F := fun a b => Rg row (F (pl row a) (pl row b))) ?hh]
  case hh =>
    intro x y hx hy
    have px := h.pl_lt hx
    have py := h.pl_lt hy
    simp -implicitDefEqProofs only [bind_val, asB_bl, if_true, Bool.not_true, Bool.not_false, Bool.false_eq_true, if_false, retF_rt, seqF_nx, seqF_rt, asSq_lst, asSq_tup, partP_int, leP_int, ltP_int, gtP_int, geP_int, addP_int, subP_int, intP_int, tupleP_lst, asLi_lst, place_ix hx, tabN_ix px, place_ix hy, tabN_ix2 py, rowix h (hF _ _ px py)]
  rfl
theorem mx3_nat {a b : Nat} : mx3 (a : Nat) (b : Nat) 0 = ((max a b : Nat) : Int) := by
  unfold mx3
  split <;> split <;> omega
theorem filt_len {r : Nat} : ∀ {q : Nat}, r < q → ((List.range q).filter (fun u => !Nat.beq u r)).length = q - 1
  | 0, h => by omega
  | n + 1, h => by
    rw [List.range_succ, List.filter_append, List.length_append]
    by_cases c : r = n
    · subst c
      have : (List.range r).filter (fun u => !Nat.beq u r) = List.range r := List.filter_eq_self.mpr fun a ha => by
        have h1 := List.mem_range.mp ha
        rw [Bool.not_eq_true']
        exact Bool.eq_false_iff.mpr fun z => by have := Nat.beq_eq.mp z; omega
      rw [this, List.length_range, List.filter_cons_of_neg (by rw [Nat.beq_refl]; decide)]
      rfl
    · have hn : [n].filter (fun u => !Nat.beq u r) = [n] := List.filter_eq_self.mpr fun a ha => by
        rcases List.mem_singleton.mp ha with rfl
        rw [Bool.not_eq_true']
        exact Bool.eq_false_iff.mpr fun z => c (Nat.beq_eq.mp z).symm
      rw [filt_len (by omega), hn]
      show n - 1 + 1 = n + 1 - 1
      omega
end
/-! ### each condition broken alone -/
theorem alone_ok {row : List Nat} {q : Nat} {l : List PV} (hb : Bx l) (h : RowOk row q) (h3 : 3 ≤ q) (h13 : q ≤ 13) : ∃ (L l' : List PV), m__law_alone (.lst l) (.lst (PN row)) = .val (.lst L, .lst l') ∧ Bx l' ∧ L.length = 8 ∧ ∀ t, t ∈ L → okTab t = true := by
  have q0 : 0 < q := by omega
  have tb := lawtable_ok h q0 (by omega)
  have ln : lenP (.lst (PN row)) = .val (.int (q : Nat)) := by rw [lenP_lst, PN_len, h.len]
  have sq : ((q : Nat) : Int) - 1 = ((q - 1 : Nat) : Int) := by omega
  have r1 : rng1 (.int (q : Nat)) = .val (PN (List.range q)) := rng1_nat (by omega)
  have sz : sized (PN (List.range q)).length = .val () := sized_small (by rw [PN_len, List.length_range]; omega)
  have r0 : Rg row 0 < q := h.lt q0
  obtain ⟨i1, s1, d1, hi1, hs1⟩ := draw_nat hb (m := q - 1) (by omega) (by omega)
  have a1 : (1 : Int) + ((i1 : Nat) : Int) = ((1 + i1 : Nat) : Int) := by omega
  have ha : Rg row (1 + i1) < q := h.lt (by omega)
  generalize ea : Rg row (1 + i1) = a at ha
  have xa : ixP (.lst (PN row)) (.int ((1 + i1 : Nat) : Int)) = .val (.int (a : Nat)) := by rw [rowix h (by omega), ea]
  have x0 : ixP (.lst (PN row)) (.int 0) = .val (.int (Rg row 0 : Nat)) := rowix h q0
  have pl1 := lcN (c := fun a31 => neP a31 (.int (Rg row 0 : Nat)) >>= asB) (e := fun a => Res.val a) (k := fun n => !Nat.beq n (Rg row 0)) (g := fun n => PV.int (n : Nat)) (l := List.range q) (fun n _ => by simp -implicitDefEqProofs only [bind_val, asB_bl, if_true, Bool.not_true, Bool.not_false, Bool.false_eq_true, if_false, retF_rt, seqF_nx, seqF_rt, asSq_lst, asSq_tup, partP_int, leP_int, ltP_int, gtP_int, geP_int, addP_int, subP_int, intP_int, tupleP_lst, asLi_lst, neP_nat]) (fun _ _ _ => rfl)
  change lcF _ _ _ _ = .val (PN ((List.range q).filter fun n => !Nat.beq n (Rg row 0))) at pl1
  have pln := filt_len r0
  have plm : ∀ n, n ∈ (List.range q).filter (fun n => !Nat.beq n (Rg row 0)) → n < q := fun n hn => List.mem_range.mp (List.mem_filter.mp hn).1
  generalize hP : ((List.range q).filter fun n => !Nat.beq n (Rg row 0)) = P at pl1 pln plm
  have lP : lenP (.lst (PN P)) = .val (.int ((q - 1 : Nat) : Int)) := by rw [lenP_lst, PN_len, pln]
  obtain ⟨i2, s2, d2, hi2, hs2⟩ := draw_nat hs1 (m := q - 1) (by omega) (by omega)
  have hi2' : i2 < P.length := by omega
  have pp := popL_PN hi2' (by omega)
  have hb' : P[i2] < q := plm _ (List.getElem_mem hi2')
  generalize eb : P[i2] = b at pp hb'
  have lE : (P.eraseIdx i2).length = q - 2 := by rw [List.length_eraseIdx, if_pos hi2']; omega
  have lPe : lenP (.lst (PN (P.eraseIdx i2))) = .val (.int ((q - 2 : Nat) : Int)) := by rw [lenP_lst, PN_len, lE]
  obtain ⟨i3, s3, d3, hi3, hs3⟩ := draw_nat hs2 (m := q - 2) (by omega) (by omega)
  have hi3' : i3 < (P.eraseIdx i2).length := by omega
  have hc : (P.eraseIdx i2)[i3] < q := plm _ (List.mem_of_mem_eraseIdx (List.getElem_mem hi3'))
  have xc : ixP (.lst (PN (P.eraseIdx i2))) (.int (i3 : Nat)) = .val (.int ((P.eraseIdx i2)[i3] : Nat)) := ixP_lst (PN_get (List.getElem?_eq_getElem hi3'))
  generalize (P.eraseIdx i2)[i3] = c at xc hc
  -- the table
  have eT : tabV row q = tabN (Tp row q) q := rfl
  rw [eT] at tb
  have hT : ∀ a b, a < q → b < q → Tp row q a b < q := fun a b _ _ => Tp_lt h q0
  generalize hLS : ((List.range q).map fun a => PV.tup (PN (rowTN (Tp row q) q a))) = LS
  have eLS : tabN (Tp row q) q = .tup LS := by rw [← hLS]; rfl
  have lLS : LS.length = q := by rw [← hLS, List.length_map, List.length_range]
  have rLS : ∀ x, x ∈ LS → okRow x = true := fun x hx => by
    rw [← hLS] at hx
    obtain ⟨a, _, rfl⟩ := List.mem_map.mp hx
    exact okRow_PN (by rw [rowTN_len]; omega)
  have gLS : ∀ a, a < q → LS[a]? = some (.tup (PN (rowTN (Tp row q) q a))) := fun a ha => by
    rw [← hLS, List.getElem?_map, List.getElem?_range ha]
    rfl
  have lR : ∀ a, (PN (rowTN (Tp row q) q a)).length = q := fun a => by rw [PN_len, rowTN_len]
  have xT : ∀ a, a < q → ixP (.tup LS) (.int (a : Nat)) = .val (.tup (PN (rowTN (Tp row q) q a))) := fun a ha => ixP_tup (gLS a ha)
  have w1 := with_ok (v := .int (Tp row q a c : Nat)) (b := b) (by omega) (by rw [lR]; omega) (gLS a ha) (by rw [lR]; exact hb')
  have w2 := with_ok (ls := LS.set a (.tup ((PN (rowTN (Tp row q) q a)).set b (.int (Tp row q a c : Nat))))) (ps := (PN (rowTN (Tp row q) q a)).set b (.int (Tp row q a c : Nat))) (a := a) (b := c) (v := .int (Tp row q a b : Nat)) (by rw [List.length_set]; omega) (by rw [List.length_set, lR]; omega) (by rw [List.getElem?_set_self (by omega)]) (by rw [List.length_set, lR]; exact hc)
  obtain ⟨i4, s4, d4, hi4, hs4⟩ := draw_nat hs3 (m := q - 1) (by omega) (by omega)
  have ad4 : ((Tp row q a b : Nat) : Int) + 1 + ((i4 : Nat) : Int) = ((Tp row q a b + 1 + i4 : Nat) : Int) := by omega
  have md4 : modP (.int ((Tp row q a b + 1 + i4 : Nat) : Int)) (.int (q : Nat)) = .val (.int ((Tp row q a b + 1 + i4) % q : Nat)) := modP_nat q0
  have w4 := with_ok (v := .int ((Tp row q a b + 1 + i4) % q : Nat)) (b := b) (by omega) (by rw [lR]; omega) (gLS a ha) (by rw [lR]; exact hb')
  have setR : ∀ (ps : List PV) (i n : Nat), okRow (.tup ps) = true → okRow (.tup (ps.set i (.int (n : Nat)))) = true := fun ps i n hp => by
    obtain ⟨h1, h2⟩ := okRow_inv hp
    refine okRow_of (fun x hx => ?_) (by rw [List.length_set]; exact h2)
    rcases mem_set' hx with hx | rfl
    · exact h1 x hx
    · rfl
  have setT : ∀ (ls : List PV) (i : Nat) (r : PV), (∀ x, x ∈ ls → okRow x = true) → okRow r = true → ∀ x, x ∈ ls.set i r → okRow x = true := fun ls i r h1 h2 x hx => by
    rcases mem_set' hx with hx | rfl
    · exact h1 x hx
    · exact h2
  have okR : ∀ a, okRow (.tup (PN (rowTN (Tp row q) q a))) = true := fun a => okRow_PN (by rw [rowTN_len]; omega)
  have t1ok : okTab (.tup ((LS.set a (.tup ((PN (rowTN (Tp row q) q a)).set b (.int (Tp row q a c : Nat))))).set a (.tup (((PN (rowTN (Tp row q) q a)).set b (.int (Tp row q a c : Nat))).set c (.int (Tp row q a b : Nat)))))) = true :=
    okTab_of (setT _ _ _ (setT _ _ _ rLS (setR _ _ _ (okR a))) (setR _ _ _ (setR _ _ _ (okR a)))) (by rw [List.length_set, List.length_set]; omega)
  have t5ok : okTab (.tup (LS.set a (.tup ((PN (rowTN (Tp row q) q a)).set b (.int ((Tp row q a b + 1 + i4) % q : Nat)))))) = true :=
    okTab_of (setT _ _ _ rLS (setR _ _ _ (okR a))) (by rw [List.length_set]; omega)
  have n1 : ∀ a : PV, mkN [a] = .val [a] := fun a => mkN_ok (by show 1 ≤ 10000000; decide)
  have lT : listP (.tup LS) = .val (.lst LS) := rfl
  have nm := named_ok h h13 (F := fun x y => x * y % q) fun _ _ _ _ => Nat.mod_lt _ q0
  have szL : sized LS.length = .val () := sized_small (by omega)
  have sqT : asSq (.tup LS) = .val LS := rfl
  obtain ⟨RV, eRV, lRV, rRV⟩ : ∃ RV : List PV, lcF (fun x => Res.val x) (fun (_ : PV) => Res.val true) (fun (a206 : PV) => (listP a206 >>= asLi) >>= fun ps207 => Res.val (PV.tup ps207.reverse)) LS = .val RV ∧ RV.length = q ∧ ∀ x, x ∈ RV → okRow x = true := by
    refine ⟨LS.map fun p => match p with | .tup ps => .tup ps.reverse | x => x, lcF_val (fun _ _ => rfl) (fun p hp => ?_), by rw [List.length_map, lLS], fun x hx => ?_⟩
    · rw [← hLS] at hp
      obtain ⟨a, _, rfl⟩ := List.mem_map.mp hp
      rfl
    · obtain ⟨p, hp, rfl⟩ := List.mem_map.mp hx
      have hr := rLS p hp
      rw [← hLS] at hp
      obtain ⟨a, _, rfl⟩ := List.mem_map.mp hp
      obtain ⟨g1, g2⟩ := okRow_inv hr
      exact okRow_of (fun x hx => g1 x (List.mem_reverse.mp hx)) (by rw [List.length_reverse]; exact g2)
  have ct1 : cutP LS (some 1) none = LS.drop 1 := cut_from (a := 1)
  have ct2 : cutP LS none (some 1) = LS.take 1 := cut_to (a := 1)
  have adT := addP_tups (a := LS.drop 1) (b := LS.take 1) (by rw [List.length_drop, List.length_take]; omega)
  have m2 : ∀ a b : PV, mkL [a, b] = .val (.lst [a, b]) := fun a b => mkL_ok (by show 2 ≤ 10000000; decide)
  have nm' : m__law_named (.lst (PN row)) (.tup ((List.range q).map fun x => PV.tup (PN ((List.range q).map fun y => x * y % q)))) = .val (tabN (fun a b => Rg row (pl row a * pl row b % q)) q) := nm
  have z1 : ∀ x : PV, sized ([x].length + 1) = .val () := fun _ => sized_small (by show 2 ≤ 10000000; decide)
  have z2 : ∀ x y : PV, sized (([x] ++ [y]).length + 1) = .val () := fun _ _ => sized_small (by show 3 ≤ 10000000; decide)
  have z3 : ∀ x y z : PV, sized (([x] ++ [y] ++ [z]).length + 1) = .val () := fun _ _ _ => sized_small (by show 4 ≤ 10000000; decide)
  have z4 : ∀ x y z w : PV, sized (([x] ++ [y] ++ [z] ++ [w]).length + 1) = .val () := fun _ _ _ _ => sized_small (by show 5 ≤ 10000000; decide)
  have z5 : ∀ x y z w v : PV, sized (([x] ++ [y] ++ [z] ++ [w] ++ [v]).length + 1) = .val () := fun _ _ _ _ _ => sized_small (by show 6 ≤ 10000000; decide)
  unfold m__law_alone
  simp -implicitDefEqProofs only [bind_val, asB_bl, if_true, Bool.not_true, Bool.not_false, Bool.false_eq_true, if_false, retF_rt, seqF_nx, seqF_rt, asSq_lst, asSq_tup, partP_int, leP_int, ltP_int, gtP_int, geP_int, addP_int, subP_int, intP_int, tupleP_lst, asLi_lst, tb, ln, noX_val, sq, apR1_o, d1, moL_lst, a1, xa, r1, sz, x0, pl1, lP, d2, pp, lPe, d3, xc, eLS, xT a ha, tabN_ix2 hb', tabN_ix2 hc, w1, w2, n1, z1]
  rw [tabComp (F := fun _ y => y) fun _ _ _ _ => rfl]
  simp -implicitDefEqProofs only [bind_val, asB_bl, if_true, Bool.not_true, Bool.not_false, Bool.false_eq_true, if_false, retF_rt, seqF_nx, seqF_rt, asSq_lst, asSq_tup, partP_int, leP_int, ltP_int, gtP_int, geP_int, addP_int, subP_int, intP_int, tupleP_lst, asLi_lst, z2, places_ok h]
  rw [tabComp (F := fun x y => Rg row (max (pl row x) (pl row y))) ?hh]
  case hh =>
    intro x y hx hy
    have px := h.pl_lt hx
    have py := h.pl_lt hy
    have mx : max (pl row x) (pl row y) < q := by omega
    have m3 : max3P (.int (pl row x : Nat)) (.int (pl row y : Nat)) (.int 0) = .val (.int ((max (pl row x) (pl row y) : Nat) : Int)) := by
      show Res.val (PV.int (mx3 _ _ 0)) = _
      rw [mx3_nat]
    simp -implicitDefEqProofs only [bind_val, asB_bl, if_true, Bool.not_true, Bool.not_false, Bool.false_eq_true, if_false, retF_rt, seqF_nx, seqF_rt, asSq_lst, asSq_tup, partP_int, leP_int, ltP_int, gtP_int, geP_int, addP_int, subP_int, intP_int, tupleP_lst, asLi_lst, place_ix hx, place_ix hy, m3, rowix h mx]
  simp -implicitDefEqProofs only [bind_val, asB_bl, if_true, Bool.not_true, Bool.not_false, Bool.false_eq_true, if_false, retF_rt, seqF_nx, seqF_rt, asSq_lst, asSq_tup, partP_int, leP_int, ltP_int, gtP_int, geP_int, addP_int, subP_int, intP_int, tupleP_lst, asLi_lst, z3]
  rw [tabComp (F := fun x y => x * y % q) ?hh2]
  case hh2 =>
    intro x y hx hy
    simp -implicitDefEqProofs only [bind_val, asB_bl, if_true, Bool.not_true, Bool.not_false, Bool.false_eq_true, if_false, retF_rt, seqF_nx, seqF_rt, asSq_lst, asSq_tup, partP_int, leP_int, ltP_int, gtP_int, geP_int, addP_int, subP_int, intP_int, tupleP_lst, asLi_lst, mulP_nat (show x < 2 ^ 64 by omega), modP_nat q0]
  simp -implicitDefEqProofs only [bind_val, asB_bl, if_true, Bool.not_true, Bool.not_false, Bool.false_eq_true, if_false, retF_rt, seqF_nx, seqF_rt, asSq_lst, asSq_tup, partP_int, leP_int, ltP_int, gtP_int, geP_int, addP_int, subP_int, intP_int, tupleP_lst, asLi_lst, nm', z3, noX_val, apR1_o]
  have adF := fun (x1 x2 x3 x4 x5 x6 y1 y2 : PV) => addP_lsts (a := [x1] ++ [x2] ++ [x3] ++ [x4] ++ [x5] ++ [x6]) (b := [y1, y2]) (by show 6 + 2 ≤ 10000000; decide)
  have szS : sized (List.length LS) = .val () := szL
  simp -implicitDefEqProofs only [bind_val, asB_bl, if_true, Bool.not_true, Bool.not_false, Bool.false_eq_true, if_false, retF_rt, seqF_nx, seqF_rt, asSq_lst, asSq_tup, partP_int, leP_int, ltP_int, gtP_int, geP_int, addP_int, subP_int, intP_int, tupleP_lst, asLi_lst, noX_val, apR1_o, d4, ad4, md4, moL_lst, ap4_four, w4, z4, z5, lT, sqT, szL, eRV, slT, ct1, ct2, adT, m2, adF, retR_rt]
  refine ⟨_, s4, rfl, hs4, ?_, fun t ht => ?_⟩
  · rfl
  simp only [List.mem_append, List.mem_cons, List.not_mem_nil, or_false, false_or, or_assoc] at ht
  rcases ht with rfl | rfl | rfl | rfl | rfl | rfl | rfl | rfl
  · exact t1ok
  · exact okTab_N (T := fun _ y => y) (by omega)
  · exact okTab_N (T := fun x y => Rg row (max (pl row x) (pl row y))) (by omega)
  · exact okTab_N (by omega)
  · exact t5ok
  · exact okTab_of (fun x hx => rLS x (List.mem_reverse.mp hx)) (by rw [List.length_reverse]; omega)
  · exact okTab_of rRV (by omega)
  · exact okTab_of (fun x hx => by
      rcases List.mem_append.mp hx with hx | hx
      · exact rLS x (List.mem_of_mem_drop hx)
      · exact rLS x (List.mem_of_mem_take hx)) (by rw [List.length_append, List.length_drop, List.length_take]; omega)
/-! ### all squares of order five -/
def loopA : Res (Fl PV Empty) := (((Res.val (PV.int 5)) >>= rng1) >>= fun ps25 => forF (fun (x26 : PV) (s4 : PV) => (fun x => Res.val x) x26 >>= fun (a5 : PV) => (((Res.val []) >>= mkL) >>= fun x6 => (seqF (S1 := PV) (((Res.val s4) >>= asSq) >>= fun ps21 => forF (fun (x22 : PV) (s7 : PV) => (fun x => Res.val x) x22 >>= fun (a8 : PV) => (((Res.val s7) >>= fun x18 => ((((Res.val (PV.int 5)) >>= rng1) >>= fun ps16 => sized ps16.length >>= fun _ => lcF (fun x => Res.val x) (fun (a9 : PV) => (((Res.val a9) >>= fun x10 => (Res.val a8) >>= fun x11 => (inP true) x10 x11) >>= asB)) (fun (a9 : PV) => ((Res.val a8) >>= fun x14 => (((Res.val a9) >>= fun x12 => (Res.val []) >>= fun xs13 => Res.val (x12 :: xs13)) >>= mkT) >>= fun x15 => addP x14 x15)) ps16) >>= fun ps17 => Res.val (PV.lst ps17)) >>= fun x19 => addP x18 x19) >>= fun x20 => (Res.val (.nx x20)))) ps21 x6) fun s23 => (((Res.val s23) >>= tupleP) >>= fun x24 => (Res.val (.nx x24)))))) ps25 (PV.lst [PV.tup []]))
def loopB (s27 : PV) : Res (Fl PV Empty) := (((Res.val (PV.int 1)) >>= fun x43 => (Res.val (PV.int 5)) >>= fun x44 => rng2 x43 x44) >>= fun ps66 => forF (fun (x67 : PV) (s45 : PV) => (fun x => Res.val x) x67 >>= fun (a46 : PV) => (((Res.val []) >>= mkT) >>= fun x47 => (seqF (S1 := PV) (((Res.val s45) >>= asSq) >>= fun ps62 => forF (fun (x63 : PV) (s48 : PV) => (fun x => Res.val x) x63 >>= fun (a49 : PV) => (((Res.val s48) >>= fun x59 => ((Res.val a49) >>= fun x57 => ((((Res.val s27) >>= asSq) >>= fun ps55 => sized ps55.length >>= fun _ => lcF (fun x => Res.val x) (fun (a50 : PV) => ((((Res.val a50) >>= fun x51 => (Res.val (PV.int 0)) >>= fun x52 => ixP x51 x52) >>= fun x53 => (Res.val a46) >>= fun x54 => eqP x53 x54) >>= asB)) (fun (a50 : PV) => (Res.val a50)) ps55) >>= fun ps56 => Res.val (PV.lst ps56)) >>= fun x58 => m__law_longer x57 x58) >>= fun x60 => addP x59 x60) >>= fun x61 => (Res.val (.nx x61)))) ps62 x47) fun s64 => ((Res.val s64) >>= fun x65 => (Res.val (.nx x65)))))) ps66 (PV.tup [PV.tup [PV.tup [.int 0, .int 1, .int 2, .int 3, .int 4]]]))
def gotF : Res (Fl PV Empty) → PV
  | .val (.nx v) => v
  | _ => .non
def isF : Res (Fl PV Empty) → Bool
  | .val (.nx _) => true
  | _ => false
theorem gotF_eq {r : Res (Fl PV Empty)} (h : isF r = true) : r = .val (.nx (gotF r)) := by
  unfold isF at h
  split at h
  · rfl
  · cases h
def len5 : PV → Bool
  | .tup ls => Nat.beq ls.length 5
  | _ => false
def goodL : PV → Bool
  | .tup L => Nat.ble 1 L.length && (Nat.ble L.length 1000 && L.all fun t => sqB t && len5 t)
  | _ => false
theorem isA : isF loopA = true := by decide +kernel
theorem isB : (isF (loopB (gotF loopA)) && goodL (gotF (loopB (gotF loopA)))) = true := by decide +kernel
theorem loop_ok {l : List PV} (hb : Bx l) : ∃ (T : Nat → Nat → Nat) (l' : List PV), m__law_loop (.lst l) = .val (tabN T 5, .lst l') ∧ Bx l' ∧ ∀ a b, a < 5 → b < 5 → T a b < 5 := by
  have hA := gotF_eq isA
  have hB' := Bool.and_eq_true_iff.mp isB
  have hB := gotF_eq hB'.1
  have hg := hB'.2
  generalize gotF loopA = lines at hA hB hg
  generalize gotF (loopB lines) = sqs at hB hg
  cases sqs with
  | tup L =>
    have hg' : (Nat.ble 1 L.length && (Nat.ble L.length 1000 && L.all fun t => sqB t && len5 t)) = true := hg
    simp only [Bool.and_eq_true, Nat.ble_eq] at hg'
    obtain ⟨g1, g2, g3⟩ := hg'
    obtain ⟨i, s1, d, hi, hs1⟩ := draw_nat hb (m := L.length) (by omega) (by omega)
    have lL : lenP (.tup L) = .val (.int (L.length : Nat)) := lenP_tup
    have xL : ixP (.tup L) (.int (i : Nat)) = .val L[i] := ixP_tup (List.getElem?_eq_getElem hi)
    have hq := List.all_eq_true.mp g3 L[i] (List.getElem_mem hi)
    rw [Bool.and_eq_true] at hq
    obtain ⟨T, q, e, hN, hT⟩ := sq_tab hq.1
    have q5 : q = 5 := by
      have h5 := hq.2
      rw [e] at h5
      have h5' : Nat.beq ((List.range q).map fun a => PV.tup (PN ((List.range q).map fun b => T a b))).length 5 = true := h5
      rw [List.length_map, List.length_range] at h5'
      exact Nat.beq_eq.mp h5'
    subst q5
    rw [e] at xL
    refine ⟨T, s1, ?_, hs1, hT⟩
    unfold loopA at hA
    unfold loopB at hB
    have t0 : mkT [] = .val (.tup []) := mkT_ok (by show 0 ≤ 10000000; decide)
    have l0 : mkL [] = .val (.lst []) := mkL_ok (by show 0 ≤ 10000000; decide)
    have l1 : ∀ a : PV, mkL [a] = .val (.lst [a]) := fun a => mkL_ok (by show 1 ≤ 10000000; decide)
    have t5 : ∀ a b c d e : PV, mkT [a, b, c, d, e] = .val (.tup [a, b, c, d, e]) := fun _ _ _ _ _ => mkT_ok (by show 5 ≤ 10000000; decide)
    simp -implicitDefEqProofs only [bind_val, asB_bl, if_true, Bool.not_true, Bool.not_false, Bool.false_eq_true, if_false, retF_rt, seqF_nx, seqF_rt, asSq_lst, asSq_tup, partP_int, leP_int, ltP_int, gtP_int, geP_int, addP_int, subP_int, intP_int, tupleP_lst, asLi_lst, t0, l0, l1, mk1, t5] at hA hB
    unfold m__law_loop
    simp -implicitDefEqProofs only [bind_val, asB_bl, if_true, Bool.not_true, Bool.not_false, Bool.false_eq_true, if_false, retF_rt, seqF_nx, seqF_rt, asSq_lst, asSq_tup, partP_int, leP_int, ltP_int, gtP_int, geP_int, addP_int, subP_int, intP_int, tupleP_lst, asLi_lst, t0, l0, l1, mk1, t5]
    rw [hA]
    simp -implicitDefEqProofs only [bind_val, asB_bl, if_true, Bool.not_true, Bool.not_false, Bool.false_eq_true, if_false, retF_rt, seqF_nx, seqF_rt, asSq_lst, asSq_tup, partP_int, leP_int, ltP_int, gtP_int, geP_int, addP_int, subP_int, intP_int, tupleP_lst, asLi_lst]
    rw [hB]
    simp -implicitDefEqProofs only [bind_val, asB_bl, if_true, Bool.not_true, Bool.not_false, Bool.false_eq_true, if_false, retF_rt, seqF_nx, seqF_rt, asSq_lst, asSq_tup, partP_int, leP_int, ltP_int, gtP_int, geP_int, addP_int, subP_int, intP_int, tupleP_lst, asLi_lst, noX_val, lL, apR1_o, d, moL_lst, xL, retR_rt]
  | _ => cases hg
/-! ### tables of other forms -/
theorem forms_ok {T : Nat → Nat → Nat} {q : Nat} {l : List PV} (hb : Bx l) (h3 : 3 ≤ q) (h13 : q ≤ 13) (hT : ∀ a b, a < q → b < q → T a b < q) : ∃ (L l' : List PV), m__law_forms (.lst l) (tabN T q) = .val (.lst L, .lst l') ∧ Bx l' ∧ ∀ t, t ∈ L → okTab t = true := by
  have q0 : 0 < q := by omega
  obtain ⟨a, s1, d1, ha, hs1⟩ := draw_nat hb (m := q) q0 (by omega)
  obtain ⟨b, s2, d2, hb', hs2⟩ := draw_nat hs1 (m := q) q0 (by omega)
  obtain ⟨w, s3, d3, hw, hs3⟩ := draw_nat hs2 (m := 11) (by decide) (by decide)
  have d3' : m__law_draw (.lst s2) (.int 11) = .val (.int (w : Nat), .lst s3) := d3
  obtain ⟨sz, xs, hs0, hs17⟩ : ∃ sz : Nat, ixP (.lst [.int 1, .int 2, .int 4, .int 6, .int 8, .int 9, .int 10, .int 12, .int 14, .int 15, .int 17]) (.int (w : Nat)) = .val (.int (sz : Nat)) ∧ 0 < sz ∧ sz ≤ 17 := by
    have : w = 0 ∨ w = 1 ∨ w = 2 ∨ w = 3 ∨ w = 4 ∨ w = 5 ∨ w = 6 ∨ w = 7 ∨ w = 8 ∨ w = 9 ∨ w = 10 := by omega
    rcases this with rfl | rfl | rfl | rfl | rfl | rfl | rfl | rfl | rfl | rfl | rfl
    · exact ⟨1, rfl, by decide, by decide⟩
    · exact ⟨2, rfl, by decide, by decide⟩
    · exact ⟨4, rfl, by decide, by decide⟩
    · exact ⟨6, rfl, by decide, by decide⟩
    · exact ⟨8, rfl, by decide, by decide⟩
    · exact ⟨9, rfl, by decide, by decide⟩
    · exact ⟨10, rfl, by decide, by decide⟩
    · exact ⟨12, rfl, by decide, by decide⟩
    · exact ⟨14, rfl, by decide, by decide⟩
    · exact ⟨15, rfl, by decide, by decide⟩
    · exact ⟨17, rfl, by decide, by decide⟩
  have tbS := lawtable_ok (row := List.range sz) (q := sz) (List.Perm.refl _) hs0 (by omega)
  have rS : rng1 (.int (sz : Nat)) = .val (PN (List.range sz)) := rng1_nat (by omega)
  have szS : sized (PN (List.range sz)).length = .val () := sized_small (by rw [PN_len, List.length_range]; omega)
  have lcS := lcN (c := fun _ => Res.val true) (e := fun a => Res.val a) (k := fun _ => true) (g := fun n => PV.int (n : Nat)) (l := List.range sz) (fun _ _ => rfl) (fun _ _ _ => rfl)
  rw [List.filter_eq_self.mpr fun _ _ => rfl] at lcS
  change lcF _ _ _ _ = .val (PN (List.range sz)) at lcS
  have okS : okTab (tabV (List.range sz) sz) = true := okTab_N (T := Tp (List.range sz) sz) (by omega)
  generalize hLS : ((List.range q).map fun a => PV.tup (PN (rowTN T q a))) = LS
  have eLS : tabN T q = .tup LS := by rw [← hLS]; rfl
  have lLS : LS.length = q := by rw [← hLS, List.length_map, List.length_range]
  have rLS : ∀ x, x ∈ LS → okRow x = true := fun x hx => by
    rw [← hLS] at hx
    obtain ⟨a, _, rfl⟩ := List.mem_map.mp hx
    exact okRow_PN (by rw [rowTN_len]; omega)
  have gLS : ∀ a, a < q → LS[a]? = some (.tup (PN (rowTN T q a))) := fun a ha => by
    rw [← hLS, List.getElem?_map, List.getElem?_range ha]
    rfl
  have lR : ∀ a, (PN (rowTN T q a)).length = q := fun a => by rw [PN_len, rowTN_len]
  have xT : ∀ a, a < q → ixP (.tup LS) (.int (a : Nat)) = .val (.tup (PN (rowTN T q a))) := fun a ha => ixP_tup (gLS a ha)
  have xT0 : ixP (.tup LS) (.int 0) = .val (.tup (PN (rowTN T q 0))) := xT 0 q0
  have okR : ∀ a, okRow (.tup (PN (rowTN T q a))) = true := fun a => okRow_PN (by rw [rowTN_len]; omega)
  have setR : ∀ (ps : List PV) (i : Nat) (v : PV), okRow (.tup ps) = true → okPart v = true → okRow (.tup (ps.set i v)) = true := fun ps i v hp hv => by
    obtain ⟨h1, h2⟩ := okRow_inv hp
    refine okRow_of (fun x hx => ?_) (by rw [List.length_set]; exact h2)
    rcases mem_set' hx with hx | rfl
    · exact h1 x hx
    · exact hv
  have setT : ∀ (i : Nat) (r : PV), okRow r = true → okTab (.tup (LS.set i r)) = true := fun i r h2 => okTab_of (fun x hx => by
    rcases mem_set' hx with hx | rfl
    · exact rLS x hx
    · exact h2) (by rw [List.length_set]; omega)
  have wv : ∀ v : PV, m__law_with (.tup LS) (.int (a : Nat)) (.int (b : Nat)) v = .val (.tup (LS.set a (.tup ((PN (rowTN T q a)).set b v)))) := fun v => with_ok (v := v) (b := b) (by omega) (by rw [lR]; omega) (gLS a ha) (by rw [lR]; exact hb')
  have wok : ∀ v : PV, okPart v = true → okTab (.tup (LS.set a (.tup ((PN (rowTN T q a)).set b v)))) = true := fun v hv => setT _ _ (setR _ _ _ (okR a) hv)
  have lT : lenP (.tup LS) = .val (.int (q : Nat)) := by rw [lenP_tup, lLS]
  have hal : a < LS.length := by omega
  have a1 : ∀ n : Nat, ((n : Nat) : Int) + 1 = ((n + 1 : Nat) : Int) := fun _ => rfl
  have t0 : mkT [] = .val (.tup []) := mkT_ok (by show 0 ≤ 10000000; decide)
  have t3 : ∀ a b c : PV, mkT [a, b, c] = .val (.tup [a, b, c]) := fun a b c => mkT_ok (by show 3 ≤ 10000000; decide)
  have l1 : ∀ a : PV, mkL [a] = .val (.lst [a]) := fun a => mkL_ok (by show 1 ≤ 10000000; decide)
  have l2 : ∀ a b : PV, mkL [a, b] = .val (.lst [a, b]) := fun a b => mkL_ok (by show 2 ≤ 10000000; decide)
  have l3 : ∀ a b c : PV, mkL [a, b, c] = .val (.lst [a, b, c]) := fun a b c => mkL_ok (by show 3 ≤ 10000000; decide)
  have l8 : ∀ a b c d e f g h : PV, mkL [a, b, c, d, e, f, g, h] = .val (.lst [a, b, c, d, e, f, g, h]) := fun _ _ _ _ _ _ _ _ => mkL_ok (by show 8 ≤ 10000000; decide)
  have l11 : ∀ a b c d e f g h i j k : PV, mkL [a, b, c, d, e, f, g, h, i, j, k] = .val (.lst [a, b, c, d, e, f, g, h, i, j, k]) := fun _ _ _ _ _ _ _ _ _ _ _ => mkL_ok (by show 11 ≤ 10000000; decide)
  have cf1 : cutP LS (some 1) none = LS.drop 1 := cut_from (a := 1)
  have cr1 : cutP (PN (rowTN T q a)) (some 1) none = (PN (rowTN T q a)).drop 1 := cut_from (a := 1)
  have k3 : (LS.take a).length ≤ 1000 := by rw [List.length_take]; omega
  have k4 : (LS.drop (a + 1)).length ≤ 1000 := by rw [List.length_drop]; omega
  have adA := fun v : PV => addP_tups (a := LS.take a) (b := [v]) (by show _ + 1 ≤ _; omega)
  have adB : ∀ v : PV, addP (.tup (LS.take a ++ [v])) (.tup (LS.drop (a + 1))) = .val (.tup (LS.set a v)) := fun v => by
    rw [addP_tups (by rw [List.length_append]; show _ + 1 + _ ≤ _; omega), set_cut hal]
  have adC := fun v : PV => addP_tups (a := LS) (b := [v]) (by show _ + 1 ≤ _; omega)
  have adR := fun v : PV => addP_tups (a := PN (rowTN T q a)) (b := [v]) (by rw [lR]; show _ + 1 ≤ _; omega)
  have ng : negP (.int 1) = .val (.int (-1)) := rfl
  have ad8 := fun (x1 x2 x3 x4 x5 x6 x7 x8 y1 y2 y3 : PV) => addP_lsts (a := [x1, x2, x3, x4, x5, x6, x7, x8]) (b := [y1, y2, y3]) (by show 8 + 3 ≤ 10000000; decide)
  have ad11 := fun (x1 x2 x3 x4 x5 x6 x7 x8 y1 y2 y3 z1 z2 z3 : PV) => addP_lsts (a := [x1, x2, x3, x4, x5, x6, x7, x8] ++ [y1, y2, y3]) (b := [z1, z2, z3]) (by show 11 + 3 ≤ 10000000; decide)
  have ad14 := fun (x1 x2 x3 x4 x5 x6 x7 x8 y1 y2 y3 z1 z2 z3 w1 w2 : PV) => addP_lsts (a := [x1, x2, x3, x4, x5, x6, x7, x8] ++ [y1, y2, y3] ++ [z1, z2, z3]) (b := [w1, w2]) (by show 14 + 2 ≤ 10000000; decide)
  have ad16 := fun (x1 x2 x3 x4 x5 x6 x7 x8 y1 y2 y3 z1 z2 z3 w1 w2 v1 : PV) => addP_lsts (a := [x1, x2, x3, x4, x5, x6, x7, x8] ++ [y1, y2, y3] ++ [z1, z2, z3] ++ [w1, w2]) (b := [v1]) (by show 16 + 1 ≤ 10000000; decide)
  unfold m__law_forms
  simp -implicitDefEqProofs only [bind_val, asB_bl, if_true, Bool.not_true, Bool.not_false, Bool.false_eq_true, if_false, retF_rt, seqF_nx, seqF_rt, asSq_lst, asSq_tup, partP_int, leP_int, ltP_int, gtP_int, geP_int, addP_int, subP_int, intP_int, tupleP_lst, asLi_lst, eLS, lT, noX_val, apR1_o, d1, moL_lst, d2, t0, mk1, t3, slT, cf1, xT0, adC, cut_to, cut_from, xT a ha, cr1, adA, a1, adB, l8, adR, l3, ad8, wv, ng, ad11, tabN_ix2 hb', l2, ad14, l11, d3', xs, rS, szS, lcS, tbS, l1, ad16, retR_rt]
  refine ⟨_, s3, rfl, hs3, fun t ht => ?_⟩
  simp only [List.mem_append, List.mem_cons, List.not_mem_nil, or_false, false_or, or_assoc] at ht
  rcases ht with rfl | rfl | rfl | rfl | rfl | rfl | rfl | rfl | rfl | rfl | rfl | rfl | rfl | rfl | rfl | rfl | rfl
  · rfl
  · rfl
  · rfl
  · rfl
  · rfl
  · exact okTab_of (fun x hx => rLS x (List.mem_of_mem_drop hx)) (by rw [List.length_drop]; omega)
  · exact okTab_of (fun x hx => by
      rcases List.mem_append.mp hx with hx | hx
      · exact rLS x hx
      · rcases List.mem_singleton.mp hx with rfl
        exact okR 0) (by rw [List.length_append]; show _ + 1 ≤ _; omega)
  · exact setT _ _ (okRow_of (fun x hx => (okRow_inv (okR a)).1 x (List.mem_of_mem_drop hx)) (by rw [List.length_drop, lR]; omega))
  · exact setT _ _ (okRow_of (fun x hx => by
      rcases List.mem_append.mp hx with hx | hx
      · exact (okRow_inv (okR a)).1 x hx
      · rcases List.mem_singleton.mp hx with rfl
        rfl) (by rw [List.length_append, lR]; show _ + 1 ≤ _; omega))
  · exact setT _ _ rfl
  · exact okTab_of (fun x hx => by
      rcases List.mem_singleton.mp hx with rfl
      refine okRow_of (fun y hy => ?_) (by omega)
      rw [← hLS] at hy
      obtain ⟨a, _, rfl⟩ := List.mem_map.mp hy
      rfl) (by show 1 ≤ 1000; decide)
  · exact wok _ rfl
  · exact wok _ rfl
  · exact wok _ rfl
  · exact wok _ rfl
  · exact wok _ rfl
  · exact okS
/-! ### the law -/
theorem partF {S S1 L : Type} {M : Res (Fl S1 L)} {N : S1 → Res (Fl S L)} {ret : Res (Fl S L) → Res PV} {v : Res PV} (I : S1 → Prop) (h1 : ∃ s, M = .val (.nx s) ∧ I s) (h2 : ∀ s, I s → ret (N s) = v) : ret (seqF M N) = v := by
  obtain ⟨s, e, hs⟩ := h1
  rw [e]
  exact h2 s hs
theorem law_true (ns : List Int) (h : ns.length ≤ 63) : m_law ns = .val (.bl true) := by
  have b0 := box_ok ns h 0
  have b1 := box_ok ns h 1
  obtain ⟨q, l1, d1, hb1, q3, q13, qp⟩ := prime_ok (bx0 ns 0) (hi := 13) (by decide) (by decide)
  have d1' : m__law_prime (.lst [.int 0, .int 0, .int 0, .int 0, .int 0, .lst (ns.map PV.int)]) (.int 3) (.int 13) = .val (.int (q : Nat), .lst l1) := d1
  obtain ⟨row, l2, d2, hb2, R⟩ := order_ok hb1 (q := q) (by omega)
  have tb := lawtable_ok R (by omega) (by omega)
  have rt := right_ok (t := tabV row q) (okTab_N (T := Tp row q) (by omega))
  obtain ⟨l3, d3, hb3⟩ := mult_ok hb2 R q3 q13 qp
  obtain ⟨L, s1, e1, hs1, lenL, okL⟩ := alone_ok (bx0 ns 1) R q3 q13
  have e1' : m__law_alone (.lst [.int 0, .int 0, .int 1, .int 0, .int 1, .lst (ns.map PV.int)]) (.lst (PN row)) = .val (.lst L, .lst s1) := e1
  obtain ⟨i, s2, e2, hi, hs2⟩ := draw_nat hs1 (m := 3) (by decide) (by decide)
  have e2' : m__law_draw (.lst s1) (.int 3) = .val (.int (i : Nat), .lst s2) := e2
  have hiL : i < L.length := by omega
  have xL : ixP (.lst L) (.int (i : Nat)) = .val L[i] := ixP_lst (List.getElem?_eq_getElem hiL)
  have rL := right_ok (okL L[i] (List.getElem_mem hiL))
  obtain ⟨j, s3, e3, hj, hs3⟩ := draw_nat hs2 (m := 3) (by decide) (by decide)
  have e3' : m__law_draw (.lst s2) (.int 3) = .val (.int (j : Nat), .lst s3) := e3
  obtain ⟨n, xn, n3, n13⟩ : ∃ n : Nat, ixP (.lst [.int 3, .int 5, .int 7]) (.int (j : Nat)) = .val (.int (n : Nat)) ∧ 3 ≤ n ∧ n ≤ 13 := by
    have : j = 0 ∨ j = 1 ∨ j = 2 := by omega
    rcases this with rfl | rfl | rfl
    · exact ⟨3, rfl, by decide, by decide⟩
    · exact ⟨5, rfl, by decide, by decide⟩
    · exact ⟨7, rfl, by decide, by decide⟩
  obtain ⟨few, s4, e4, hs4, Rf⟩ := order_ok hs3 (q := n) (by omega)
  obtain ⟨L2, s5, e5, hs5, _, okL2⟩ := alone_ok hs4 Rf n3 n13
  have tbf := lawtable_ok Rf (by omega) (by omega)
  obtain ⟨k, s6, e6, hk, hs6⟩ := draw_nat hs5 (m := 3) (by decide) (by decide)
  have e6' : m__law_draw (.lst s5) (.int 3) = .val (.int (k : Nat), .lst s6) := e6
  have zk : eqP (.int (k : Nat)) (.int 0) = .val (.bl (Nat.beq k 0)) := eqP_nat (b := 0)
  have m3 : ∀ a b c : PV, mkL [a, b, c] = .val (.lst [a, b, c]) := fun a b c => mkL_ok (by show 3 ≤ 10000000; decide)
  have fin : ∀ s, Bx s → ∃ (L3 s' : List PV), m__law_forms (.lst s) (tabV few n) = .val (.lst L3, .lst s') ∧ ∀ t, t ∈ L3 → okTab t = true := fun s hs => by
    obtain ⟨L3, s', e, _, ok⟩ := forms_ok (T := Tp few n) hs n3 n13 fun a b _ _ => Tp_lt Rf (by omega)
    exact ⟨L3, s', e, ok⟩
  unfold m_law
  simp -implicitDefEqProofs only [bind_val, asB_bl, if_true, Bool.not_true, Bool.not_false, Bool.false_eq_true, if_false, retF_rt, seqF_nx, seqF_rt, asSq_lst, asSq_tup, partP_int, leP_int, ltP_int, gtP_int, geP_int, addP_int, subP_int, intP_int, tupleP_lst, asLi_lst, ap2_two, apN2_t, b0, noX_val, moL_lst, b1, apR2_t, d1', apR1_o, d2, tb, rt, d3, e1', e2', xL, ap1_one, rL, m3, e3', xn, e4, e5]
  refine partF (ret := retF) (fun s => s = s5) ⟨s5, ?_, rfl⟩ fun s hs => ?_
  · refine forF_same fun p hp => ?_
    simp -implicitDefEqProofs only [bind_val, asB_bl, if_true, Bool.not_true, Bool.not_false, Bool.false_eq_true, if_false, retF_rt, seqF_nx, seqF_rt, asSq_lst, asSq_tup, partP_int, leP_int, ltP_int, gtP_int, geP_int, addP_int, subP_int, intP_int, tupleP_lst, asLi_lst, right_ok (okL2 p hp)]
  · subst hs
    cases cz : Nat.beq k 0 with
    | true =>
      obtain ⟨row5, t1, g1, ht1, R5⟩ := order_ok hs6 (q := 5) (by decide)
      have g1' : m__law_order (.lst s6) (.int 5) = .val (.lst (PN row5), .lst t1) := g1
      obtain ⟨T, t2, g2, ht2, hT⟩ := loop_ok ht1
      have nm := named_ok R5 (by decide) hT
      have rn := right_ok (okTab_N (T := fun a b => Rg row5 (T (pl row5 a) (pl row5 b))) (q := 5) (by decide))
      obtain ⟨L3, t3, g3, ok3⟩ := fin t2 ht2
      simp -implicitDefEqProofs only [bind_val, asB_bl, if_true, Bool.not_true, Bool.not_false, Bool.false_eq_true, if_false, retF_rt, seqF_nx, seqF_rt, asSq_lst, asSq_tup, partP_int, leP_int, ltP_int, gtP_int, geP_int, addP_int, subP_int, intP_int, tupleP_lst, asLi_lst, noX_val, apR1_o, e6', moL_lst, zk, cz, g1', apR0_z, g2, ap2_two, nm, ap1_one, rn, tbf, g3]
      refine partF (ret := retF) (fun s => s = t3) ⟨t3, ?_, rfl⟩ fun s hs => rfl
      refine forF_same fun p hp => ?_
      simp -implicitDefEqProofs only [bind_val, asB_bl, if_true, Bool.not_true, Bool.not_false, Bool.false_eq_true, if_false, retF_rt, seqF_nx, seqF_rt, asSq_lst, asSq_tup, partP_int, leP_int, ltP_int, gtP_int, geP_int, addP_int, subP_int, intP_int, tupleP_lst, asLi_lst, right_ok (ok3 p hp)]
    | false =>
      obtain ⟨L3, t3, g3, ok3⟩ := fin s6 hs6
      simp -implicitDefEqProofs only [bind_val, asB_bl, if_true, Bool.not_true, Bool.not_false, Bool.false_eq_true, if_false, retF_rt, seqF_nx, seqF_rt, asSq_lst, asSq_tup, partP_int, leP_int, ltP_int, gtP_int, geP_int, addP_int, subP_int, intP_int, tupleP_lst, asLi_lst, noX_val, apR1_o, e6', moL_lst, zk, cz, tbf, g3]
      refine partF (ret := retF) (fun s => s = t3) ⟨t3, ?_, rfl⟩ fun s hs => rfl
      refine forF_same fun p hp => ?_
      simp -implicitDefEqProofs only [bind_val, asB_bl, if_true, Bool.not_true, Bool.not_false, Bool.false_eq_true, if_false, retF_rt, seqF_nx, seqF_rt, asSq_lst, asSq_tup, partP_int, leP_int, ltP_int, gtP_int, geP_int, addP_int, subP_int, intP_int, tupleP_lst, asLi_lst, right_ok (ok3 p hp)]
theorem all_mk {l : PySem.W.OpenLaw} {w : World} {K : PySem.W.Frag} {h : Heap} {mg : Str → Option Value} {fa : Addr} (X : K.In h) (G : h.Ns mainGlobals mg) (hfa : mg "law" = some (.ref fa))
    {f__law_box : Addr} {od__law_box an__law_box : Option Addr} {sl__law_box : Array (Option Value)} {oc__law_box kV__law_box dc__law_box pm__law_box cd__law_box ct__law_box : Value}
    {f__law_mix : Addr} {od__law_mix an__law_mix : Option Addr} {sl__law_mix : Array (Option Value)} {oc__law_mix kV__law_mix dc__law_mix pm__law_mix cd__law_mix ct__law_mix : Value}
    {f__law_draw : Addr} {od__law_draw an__law_draw : Option Addr} {sl__law_draw : Array (Option Value)} {oc__law_draw kV__law_draw dc__law_draw pm__law_draw cd__law_draw ct__law_draw : Value}
    {f__law_order : Addr} {od__law_order an__law_order : Option Addr} {sl__law_order : Array (Option Value)} {oc__law_order kV__law_order dc__law_order pm__law_order cd__law_order ct__law_order : Value}
    {f__law_table : Addr} {od__law_table an__law_table : Option Addr} {sl__law_table : Array (Option Value)} {oc__law_table kV__law_table dc__law_table pm__law_table cd__law_table ct__law_table : Value}
    {f__law_with : Addr} {od__law_with an__law_with : Option Addr} {sl__law_with : Array (Option Value)} {oc__law_with kV__law_with dc__law_with pm__law_with cd__law_with ct__law_with : Value}
    {f__law_named : Addr} {od__law_named an__law_named : Option Addr} {sl__law_named : Array (Option Value)} {oc__law_named kV__law_named dc__law_named pm__law_named cd__law_named ct__law_named : Value}
    {f__law_alone : Addr} {od__law_alone an__law_alone : Option Addr} {sl__law_alone : Array (Option Value)} {oc__law_alone kV__law_alone dc__law_alone pm__law_alone cd__law_alone ct__law_alone : Value}
    {f__law_forms : Addr} {od__law_forms an__law_forms : Option Addr} {sl__law_forms : Array (Option Value)} {oc__law_forms kV__law_forms dc__law_forms pm__law_forms cd__law_forms ct__law_forms : Value}
    {f__law_is_prime : Addr} {od__law_is_prime an__law_is_prime : Option Addr} {sl__law_is_prime : Array (Option Value)} {oc__law_is_prime kV__law_is_prime dc__law_is_prime pm__law_is_prime cd__law_is_prime ct__law_is_prime : Value}
    {f__law_prime : Addr} {od__law_prime an__law_prime : Option Addr} {sl__law_prime : Array (Option Value)} {oc__law_prime kV__law_prime dc__law_prime pm__law_prime cd__law_prime ct__law_prime : Value}
    {f__law_is_square : Addr} {od__law_is_square an__law_is_square : Option Addr} {sl__law_is_square : Array (Option Value)} {oc__law_is_square kV__law_is_square dc__law_is_square pm__law_is_square cd__law_is_square ct__law_is_square : Value}
    {f__law_units : Addr} {od__law_units an__law_units : Option Addr} {sl__law_units : Array (Option Value)} {oc__law_units kV__law_units dc__law_units pm__law_units cd__law_units ct__law_units : Value}
    {f__law_is_group : Addr} {od__law_is_group an__law_is_group : Option Addr} {sl__law_is_group : Array (Option Value)} {oc__law_is_group kV__law_is_group dc__law_is_group pm__law_is_group cd__law_is_group ct__law_is_group : Value}
    {f__law_alike : Addr} {od__law_alike an__law_alike : Option Addr} {sl__law_alike : Array (Option Value)} {oc__law_alike kV__law_alike dc__law_alike pm__law_alike cd__law_alike ct__law_alike : Value}
    {f_TableGroup_multiply : Addr} {od_TableGroup_multiply an_TableGroup_multiply : Option Addr} {sl_TableGroup_multiply : Array (Option Value)} {oc_TableGroup_multiply kV_TableGroup_multiply dc_TableGroup_multiply pm_TableGroup_multiply cd_TableGroup_multiply ct_TableGroup_multiply : Value}
    {f_Group__powers_of : Addr} {od_Group__powers_of an_Group__powers_of : Option Addr} {sl_Group__powers_of : Array (Option Value)} {oc_Group__powers_of kV_Group__powers_of dc_Group__powers_of pm_Group__powers_of cd_Group__powers_of ct_Group__powers_of : Value}
    {f_Group___init__ : Addr} {od_Group___init__ an_Group___init__ : Option Addr} {sl_Group___init__ : Array (Option Value)} {oc_Group___init__ kV_Group___init__ dc_Group___init__ pm_Group___init__ cd_Group___init__ ct_Group___init__ : Value}
    {f__is_associative : Addr} {od__is_associative an__is_associative : Option Addr} {sl__is_associative : Array (Option Value)} {oc__is_associative kV__is_associative dc__is_associative pm__is_associative cd__is_associative ct__is_associative : Value}
    {f_is_prime : Addr} {od_is_prime an_is_prime : Option Addr} {sl_is_prime : Array (Option Value)} {oc_is_prime kV_is_prime dc_is_prime pm_is_prime cd_is_prime ct_is_prime : Value}
    {f_is_tuple_of : Addr} {od_is_tuple_of an_is_tuple_of : Option Addr} {sl_is_tuple_of : Array (Option Value)} {oc_is_tuple_of kV_is_tuple_of dc_is_tuple_of pm_is_tuple_of cd_is_tuple_of ct_is_tuple_of : Value}
    {f_is_residue : Addr} {od_is_residue an_is_residue : Option Addr} {sl_is_residue : Array (Option Value)} {oc_is_residue kV_is_residue dc_is_residue pm_is_residue cd_is_residue ct_is_residue : Value}
    {f_is_residue_row : Addr} {od_is_residue_row an_is_residue_row : Option Addr} {sl_is_residue_row : Array (Option Value)} {oc_is_residue_row kV_is_residue_row dc_is_residue_row pm_is_residue_row cd_is_residue_row ct_is_residue_row : Value}
    {f__is_square : Addr} {od__is_square an__is_square : Option Addr} {sl__is_square : Array (Option Value)} {oc__is_square kV__is_square dc__is_square pm__is_square cd__is_square ct__is_square : Value}
    {f__units : Addr} {od__units an__units : Option Addr} {sl__units : Array (Option Value)} {oc__units kV__units dc__units pm__units cd__units ct__units : Value}
    {f__is_group_table : Addr} {od__is_group_table an__is_group_table : Option Addr} {sl__is_group_table : Array (Option Value)} {oc__is_group_table kV__is_group_table dc__is_group_table pm__is_group_table cd__is_group_table ct__is_group_table : Value}
    {f_TableGroup___init__ : Addr} {od_TableGroup___init__ an_TableGroup___init__ : Option Addr} {sl_TableGroup___init__ : Array (Option Value)} {oc_TableGroup___init__ kV_TableGroup___init__ dc_TableGroup___init__ pm_TableGroup___init__ ct_TableGroup___init__ : Value}
    {cc_TableGroup___init__ cda_TableGroup___init__ : Addr} {xl_TableGroup___init__ : Value} {xd_TableGroup___init__ qb_TableGroup___init__ : Option Addr} {xs_TableGroup___init__ qc_TableGroup___init__ : Array (Option Value)} {qa_TableGroup___init__ : Value} {qv_TableGroup___init__ : Array Value} {qt_TableGroup___init__ : Tok}
    {f__law_asked : Addr} {od__law_asked an__law_asked : Option Addr} {sl__law_asked : Array (Option Value)} {oc__law_asked kV__law_asked dc__law_asked pm__law_asked cd__law_asked ct__law_asked : Value}
    {f__law_right : Addr} {od__law_right an__law_right : Option Addr} {sl__law_right : Array (Option Value)} {oc__law_right kV__law_right dc__law_right pm__law_right cd__law_right ct__law_right : Value}
    {f_Group_power : Addr} {od_Group_power an_Group_power : Option Addr} {sl_Group_power : Array (Option Value)} {oc_Group_power kV_Group_power dc_Group_power pm_Group_power cd_Group_power ct_Group_power : Value}
    {f_Group_inverse_of : Addr} {od_Group_inverse_of an_Group_inverse_of : Option Addr} {sl_Group_inverse_of : Array (Option Value)} {oc_Group_inverse_of kV_Group_inverse_of dc_Group_inverse_of pm_Group_inverse_of cd_Group_inverse_of ct_Group_inverse_of : Value}
    {f_Group_has : Addr} {od_Group_has an_Group_has : Option Addr} {sl_Group_has : Array (Option Value)} {oc_Group_has kV_Group_has dc_Group_has pm_Group_has cd_Group_has ct_Group_has : Value}
    {f__law_multiplies : Addr} {od__law_multiplies an__law_multiplies : Option Addr} {sl__law_multiplies : Array (Option Value)} {oc__law_multiplies kV__law_multiplies dc__law_multiplies pm__law_multiplies cd__law_multiplies ct__law_multiplies : Value}
    {f__law_longer : Addr} {od__law_longer an__law_longer : Option Addr} {sl__law_longer : Array (Option Value)} {oc__law_longer kV__law_longer dc__law_longer pm__law_longer cd__law_longer ct__law_longer : Value}
    {f__law_loop : Addr} {od__law_loop an__law_loop : Option Addr} {sl__law_loop : Array (Option Value)} {oc__law_loop kV__law_loop dc__law_loop pm__law_loop cd__law_loop ct__law_loop : Value}
    {f_law : Addr} {od_law an_law : Option Addr} {sl_law : Array (Option Value)} {oc_law kV_law dc_law pm_law cd_law ct_law : Value}
    {c_TableGroup : Addr}
    {c_Group : Addr}
    {c_BadGroup : Addr}
    
    
    
    
    
    
    
    
    {t_LARGEST_TABLE_ORDER : Tok}
    {t_SMALLEST_ORDER : Tok}
    
    
    
    
    
    
    
    
    
    (a__law_box : PySem.W.nsIn K mainGlobals "_law_box" = some (some (.ref f__law_box))) (l__law_box : K.lookup f__law_box = some ⟨oc__law_box, od__law_box, .func (PySem.W.fnOf "_law_box" "_law_box" (defArgs s_Lbox) (defBody s_Lbox) (defScope s_Lbox) .none kV__law_box dc__law_box pm__law_box an__law_box cd__law_box ct__law_box), sl__law_box⟩) (c__law_box : PySem.W.codeIn K cd__law_box "_law_box" = true) (k__law_box : PySem.W.keepIn K (.ref f__law_box) = true)
    (a__law_mix : PySem.W.nsIn K mainGlobals "_law_mix" = some (some (.ref f__law_mix))) (l__law_mix : K.lookup f__law_mix = some ⟨oc__law_mix, od__law_mix, .func (PySem.W.fnOf "_law_mix" "_law_mix" (defArgs s_Lmix) (defBody s_Lmix) (defScope s_Lmix) .none kV__law_mix dc__law_mix pm__law_mix an__law_mix cd__law_mix ct__law_mix), sl__law_mix⟩) (c__law_mix : PySem.W.codeIn K cd__law_mix "_law_mix" = true) (k__law_mix : PySem.W.keepIn K (.ref f__law_mix) = true)
    (a__law_draw : PySem.W.nsIn K mainGlobals "_law_draw" = some (some (.ref f__law_draw))) (l__law_draw : K.lookup f__law_draw = some ⟨oc__law_draw, od__law_draw, .func (PySem.W.fnOf "_law_draw" "_law_draw" (defArgs s_Ldraw) (defBody s_Ldraw) (defScope s_Ldraw) .none kV__law_draw dc__law_draw pm__law_draw an__law_draw cd__law_draw ct__law_draw), sl__law_draw⟩) (c__law_draw : PySem.W.codeIn K cd__law_draw "_law_draw" = true) (k__law_draw : PySem.W.keepIn K (.ref f__law_draw) = true)
    (a__law_order : PySem.W.nsIn K mainGlobals "_law_order" = some (some (.ref f__law_order))) (l__law_order : K.lookup f__law_order = some ⟨oc__law_order, od__law_order, .func (PySem.W.fnOf "_law_order" "_law_order" (defArgs s_Lorder) (defBody s_Lorder) (defScope s_Lorder) .none kV__law_order dc__law_order pm__law_order an__law_order cd__law_order ct__law_order), sl__law_order⟩) (c__law_order : PySem.W.codeIn K cd__law_order "_law_order" = true) (k__law_order : PySem.W.keepIn K (.ref f__law_order) = true)
    (a__law_table : PySem.W.nsIn K mainGlobals "_law_table" = some (some (.ref f__law_table))) (l__law_table : K.lookup f__law_table = some ⟨oc__law_table, od__law_table, .func (PySem.W.fnOf "_law_table" "_law_table" (defArgs s_Ltable) (defBody s_Ltable) (defScope s_Ltable) .none kV__law_table dc__law_table pm__law_table an__law_table cd__law_table ct__law_table), sl__law_table⟩) (c__law_table : PySem.W.codeIn K cd__law_table "_law_table" = true) (k__law_table : PySem.W.keepIn K (.ref f__law_table) = true)
    (a__law_with : PySem.W.nsIn K mainGlobals "_law_with" = some (some (.ref f__law_with))) (l__law_with : K.lookup f__law_with = some ⟨oc__law_with, od__law_with, .func (PySem.W.fnOf "_law_with" "_law_with" (defArgs s_Lwith) (defBody s_Lwith) (defScope s_Lwith) .none kV__law_with dc__law_with pm__law_with an__law_with cd__law_with ct__law_with), sl__law_with⟩) (c__law_with : PySem.W.codeIn K cd__law_with "_law_with" = true) (k__law_with : PySem.W.keepIn K (.ref f__law_with) = true)
    (a__law_named : PySem.W.nsIn K mainGlobals "_law_named" = some (some (.ref f__law_named))) (l__law_named : K.lookup f__law_named = some ⟨oc__law_named, od__law_named, .func (PySem.W.fnOf "_law_named" "_law_named" (defArgs s_Lnamed) (defBody s_Lnamed) (defScope s_Lnamed) .none kV__law_named dc__law_named pm__law_named an__law_named cd__law_named ct__law_named), sl__law_named⟩) (c__law_named : PySem.W.codeIn K cd__law_named "_law_named" = true) (k__law_named : PySem.W.keepIn K (.ref f__law_named) = true)
    (a__law_alone : PySem.W.nsIn K mainGlobals "_law_alone" = some (some (.ref f__law_alone))) (l__law_alone : K.lookup f__law_alone = some ⟨oc__law_alone, od__law_alone, .func (PySem.W.fnOf "_law_alone" "_law_alone" (defArgs s_Lalone) (defBody s_Lalone) (defScope s_Lalone) .none kV__law_alone dc__law_alone pm__law_alone an__law_alone cd__law_alone ct__law_alone), sl__law_alone⟩) (c__law_alone : PySem.W.codeIn K cd__law_alone "_law_alone" = true) (k__law_alone : PySem.W.keepIn K (.ref f__law_alone) = true)
    (a__law_forms : PySem.W.nsIn K mainGlobals "_law_forms" = some (some (.ref f__law_forms))) (l__law_forms : K.lookup f__law_forms = some ⟨oc__law_forms, od__law_forms, .func (PySem.W.fnOf "_law_forms" "_law_forms" (defArgs s_Lforms) (defBody s_Lforms) (defScope s_Lforms) .none kV__law_forms dc__law_forms pm__law_forms an__law_forms cd__law_forms ct__law_forms), sl__law_forms⟩) (c__law_forms : PySem.W.codeIn K cd__law_forms "_law_forms" = true) (k__law_forms : PySem.W.keepIn K (.ref f__law_forms) = true)
    (a__law_is_prime : PySem.W.nsIn K mainGlobals "_law_is_prime" = some (some (.ref f__law_is_prime))) (l__law_is_prime : K.lookup f__law_is_prime = some ⟨oc__law_is_prime, od__law_is_prime, .func (PySem.W.fnOf "_law_is_prime" "_law_is_prime" (defArgs s_Lis_prime) (defBody s_Lis_prime) (defScope s_Lis_prime) .none kV__law_is_prime dc__law_is_prime pm__law_is_prime an__law_is_prime cd__law_is_prime ct__law_is_prime), sl__law_is_prime⟩) (c__law_is_prime : PySem.W.codeIn K cd__law_is_prime "_law_is_prime" = true) (k__law_is_prime : PySem.W.keepIn K (.ref f__law_is_prime) = true)
    (a__law_prime : PySem.W.nsIn K mainGlobals "_law_prime" = some (some (.ref f__law_prime))) (l__law_prime : K.lookup f__law_prime = some ⟨oc__law_prime, od__law_prime, .func (PySem.W.fnOf "_law_prime" "_law_prime" (defArgs s_Lprime) (defBody s_Lprime) (defScope s_Lprime) .none kV__law_prime dc__law_prime pm__law_prime an__law_prime cd__law_prime ct__law_prime), sl__law_prime⟩) (c__law_prime : PySem.W.codeIn K cd__law_prime "_law_prime" = true) (k__law_prime : PySem.W.keepIn K (.ref f__law_prime) = true)
    (a__law_is_square : PySem.W.nsIn K mainGlobals "_law_is_square" = some (some (.ref f__law_is_square))) (l__law_is_square : K.lookup f__law_is_square = some ⟨oc__law_is_square, od__law_is_square, .func (PySem.W.fnOf "_law_is_square" "_law_is_square" (defArgs s_Lis_square) (defBody s_Lis_square) (defScope s_Lis_square) .none kV__law_is_square dc__law_is_square pm__law_is_square an__law_is_square cd__law_is_square ct__law_is_square), sl__law_is_square⟩) (c__law_is_square : PySem.W.codeIn K cd__law_is_square "_law_is_square" = true) (k__law_is_square : PySem.W.keepIn K (.ref f__law_is_square) = true)
    (a__law_units : PySem.W.nsIn K mainGlobals "_law_units" = some (some (.ref f__law_units))) (l__law_units : K.lookup f__law_units = some ⟨oc__law_units, od__law_units, .func (PySem.W.fnOf "_law_units" "_law_units" (defArgs s_Lunits) (defBody s_Lunits) (defScope s_Lunits) .none kV__law_units dc__law_units pm__law_units an__law_units cd__law_units ct__law_units), sl__law_units⟩) (c__law_units : PySem.W.codeIn K cd__law_units "_law_units" = true) (k__law_units : PySem.W.keepIn K (.ref f__law_units) = true)
    (a__law_is_group : PySem.W.nsIn K mainGlobals "_law_is_group" = some (some (.ref f__law_is_group))) (l__law_is_group : K.lookup f__law_is_group = some ⟨oc__law_is_group, od__law_is_group, .func (PySem.W.fnOf "_law_is_group" "_law_is_group" (defArgs s_Lis_group) (defBody s_Lis_group) (defScope s_Lis_group) .none kV__law_is_group dc__law_is_group pm__law_is_group an__law_is_group cd__law_is_group ct__law_is_group), sl__law_is_group⟩) (c__law_is_group : PySem.W.codeIn K cd__law_is_group "_law_is_group" = true) (k__law_is_group : PySem.W.keepIn K (.ref f__law_is_group) = true)
    (a__law_alike : PySem.W.nsIn K mainGlobals "_law_alike" = some (some (.ref f__law_alike))) (l__law_alike : K.lookup f__law_alike = some ⟨oc__law_alike, od__law_alike, .func (PySem.W.fnOf "_law_alike" "_law_alike" (defArgs s_Lalike) (defBody s_Lalike) (defScope s_Lalike) .none kV__law_alike dc__law_alike pm__law_alike an__law_alike cd__law_alike ct__law_alike), sl__law_alike⟩) (c__law_alike : PySem.W.codeIn K cd__law_alike "_law_alike" = true) (k__law_alike : PySem.W.keepIn K (.ref f__law_alike) = true)
    (l_TableGroup_multiply : K.lookup f_TableGroup_multiply = some ⟨oc_TableGroup_multiply, od_TableGroup_multiply, .func (PySem.W.fnOf "multiply" "TableGroup.multiply" (defArgs s_TableGroup_multiply) (defBody s_TableGroup_multiply) (defScope s_TableGroup_multiply) .none kV_TableGroup_multiply dc_TableGroup_multiply pm_TableGroup_multiply an_TableGroup_multiply cd_TableGroup_multiply ct_TableGroup_multiply), sl_TableGroup_multiply⟩) (c_TableGroup_multiply : PySem.W.codeIn K cd_TableGroup_multiply "TableGroup.multiply" = true) (k_TableGroup_multiply : PySem.W.keepIn K (.ref f_TableGroup_multiply) = true)
    (l_Group__powers_of : K.lookup f_Group__powers_of = some ⟨oc_Group__powers_of, od_Group__powers_of, .func (PySem.W.fnOf "_powers_of" "Group._powers_of" (defArgs s_Group__powers_of) (defBody s_Group__powers_of) (defScope s_Group__powers_of) .none kV_Group__powers_of dc_Group__powers_of pm_Group__powers_of an_Group__powers_of cd_Group__powers_of ct_Group__powers_of), sl_Group__powers_of⟩) (c_Group__powers_of : PySem.W.codeIn K cd_Group__powers_of "Group._powers_of" = true) (k_Group__powers_of : PySem.W.keepIn K (.ref f_Group__powers_of) = true)
    (l_Group___init__ : K.lookup f_Group___init__ = some ⟨oc_Group___init__, od_Group___init__, .func (PySem.W.fnOf "__init__" "Group.__init__" (defArgs s_Group___init__) (defBody s_Group___init__) (defScope s_Group___init__) .none kV_Group___init__ dc_Group___init__ pm_Group___init__ an_Group___init__ cd_Group___init__ ct_Group___init__), sl_Group___init__⟩) (c_Group___init__ : PySem.W.codeIn K cd_Group___init__ "Group.__init__" = true) (k_Group___init__ : PySem.W.keepIn K (.ref f_Group___init__) = true)
    (a__is_associative : PySem.W.nsIn K mainGlobals "_is_associative" = some (some (.ref f__is_associative))) (l__is_associative : K.lookup f__is_associative = some ⟨oc__is_associative, od__is_associative, .func (PySem.W.fnOf "_is_associative" "_is_associative" (defArgs s__is_associative) (defBody s__is_associative) (defScope s__is_associative) .none kV__is_associative dc__is_associative pm__is_associative an__is_associative cd__is_associative ct__is_associative), sl__is_associative⟩) (c__is_associative : PySem.W.codeIn K cd__is_associative "_is_associative" = true) (k__is_associative : PySem.W.keepIn K (.ref f__is_associative) = true)
    (a_is_prime : PySem.W.nsIn K mainGlobals "is_prime" = some (some (.ref f_is_prime))) (l_is_prime : K.lookup f_is_prime = some ⟨oc_is_prime, od_is_prime, .func (PySem.W.fnOf "is_prime" "is_prime" (defArgs s_is_prime) (defBody s_is_prime) (defScope s_is_prime) .none kV_is_prime dc_is_prime pm_is_prime an_is_prime cd_is_prime ct_is_prime), sl_is_prime⟩) (c_is_prime : PySem.W.codeIn K cd_is_prime "is_prime" = true) (k_is_prime : PySem.W.keepIn K (.ref f_is_prime) = true)
    (a_is_tuple_of : PySem.W.nsIn K mainGlobals "is_tuple_of" = some (some (.ref f_is_tuple_of))) (l_is_tuple_of : K.lookup f_is_tuple_of = some ⟨oc_is_tuple_of, od_is_tuple_of, .func (PySem.W.fnOf "is_tuple_of" "is_tuple_of" (defArgs s_is_tuple_of) (defBody s_is_tuple_of) (defScope s_is_tuple_of) .none kV_is_tuple_of dc_is_tuple_of pm_is_tuple_of an_is_tuple_of cd_is_tuple_of ct_is_tuple_of), sl_is_tuple_of⟩) (c_is_tuple_of : PySem.W.codeIn K cd_is_tuple_of "is_tuple_of" = true) (k_is_tuple_of : PySem.W.keepIn K (.ref f_is_tuple_of) = true)
    (a_is_residue : PySem.W.nsIn K mainGlobals "is_residue" = some (some (.ref f_is_residue))) (l_is_residue : K.lookup f_is_residue = some ⟨oc_is_residue, od_is_residue, .func (PySem.W.fnOf "is_residue" "is_residue" (defArgs s_is_residue) (defBody s_is_residue) (defScope s_is_residue) .none kV_is_residue dc_is_residue pm_is_residue an_is_residue cd_is_residue ct_is_residue), sl_is_residue⟩) (c_is_residue : PySem.W.codeIn K cd_is_residue "is_residue" = true) (k_is_residue : PySem.W.keepIn K (.ref f_is_residue) = true)
    (a_is_residue_row : PySem.W.nsIn K mainGlobals "is_residue_row" = some (some (.ref f_is_residue_row))) (l_is_residue_row : K.lookup f_is_residue_row = some ⟨oc_is_residue_row, od_is_residue_row, .func (PySem.W.fnOf "is_residue_row" "is_residue_row" (defArgs s_is_residue_row) (defBody s_is_residue_row) (defScope s_is_residue_row) .none kV_is_residue_row dc_is_residue_row pm_is_residue_row an_is_residue_row cd_is_residue_row ct_is_residue_row), sl_is_residue_row⟩) (c_is_residue_row : PySem.W.codeIn K cd_is_residue_row "is_residue_row" = true) (k_is_residue_row : PySem.W.keepIn K (.ref f_is_residue_row) = true)
    (a__is_square : PySem.W.nsIn K mainGlobals "_is_square" = some (some (.ref f__is_square))) (l__is_square : K.lookup f__is_square = some ⟨oc__is_square, od__is_square, .func (PySem.W.fnOf "_is_square" "_is_square" (defArgs s__is_square) (defBody s__is_square) (defScope s__is_square) .none kV__is_square dc__is_square pm__is_square an__is_square cd__is_square ct__is_square), sl__is_square⟩) (c__is_square : PySem.W.codeIn K cd__is_square "_is_square" = true) (k__is_square : PySem.W.keepIn K (.ref f__is_square) = true)
    (a__units : PySem.W.nsIn K mainGlobals "_units" = some (some (.ref f__units))) (l__units : K.lookup f__units = some ⟨oc__units, od__units, .func (PySem.W.fnOf "_units" "_units" (defArgs s__units) (defBody s__units) (defScope s__units) .none kV__units dc__units pm__units an__units cd__units ct__units), sl__units⟩) (c__units : PySem.W.codeIn K cd__units "_units" = true) (k__units : PySem.W.keepIn K (.ref f__units) = true)
    (a__is_group_table : PySem.W.nsIn K mainGlobals "_is_group_table" = some (some (.ref f__is_group_table))) (l__is_group_table : K.lookup f__is_group_table = some ⟨oc__is_group_table, od__is_group_table, .func (PySem.W.fnOf "_is_group_table" "_is_group_table" (defArgs s__is_group_table) (defBody s__is_group_table) (defScope s__is_group_table) .none kV__is_group_table dc__is_group_table pm__is_group_table an__is_group_table cd__is_group_table ct__is_group_table), sl__is_group_table⟩) (c__is_group_table : PySem.W.codeIn K cd__is_group_table "_is_group_table" = true) (k__is_group_table : PySem.W.keepIn K (.ref f__is_group_table) = true)
    (l_TableGroup___init__ : K.lookup f_TableGroup___init__ = some ⟨oc_TableGroup___init__, od_TableGroup___init__, .func (PySem.W.fnX "__init__" "TableGroup.__init__" (defArgs s_TableGroup___init__) (defBody s_TableGroup___init__) (defScope s_TableGroup___init__) [(("__class__" : Str), cc_TableGroup___init__)] .none kV_TableGroup___init__ dc_TableGroup___init__ pm_TableGroup___init__ an_TableGroup___init__ (.ref cda_TableGroup___init__) ct_TableGroup___init__), sl_TableGroup___init__⟩) (c_TableGroup___init__ : PySem.W.codeIn K (.ref cda_TableGroup___init__) "TableGroup.__init__" = true) (k_TableGroup___init__ : PySem.W.keepIn K (.ref f_TableGroup___init__) = true)
    (x_TableGroup___init__ : K.lookup cc_TableGroup___init__ = some ⟨xl_TableGroup___init__, xd_TableGroup___init__, .cell (some (.ref c_TableGroup)), xs_TableGroup___init__⟩) (q_TableGroup___init__ : K.lookup cda_TableGroup___init__ = some ⟨qa_TableGroup___init__, qb_TableGroup___init__, .fields qv_TableGroup___init__, qc_TableGroup___init__⟩) (q2_TableGroup___init__ : qv_TableGroup___init__[2]? = some (.str sfile qt_TableGroup___init__))
    (s1_TableGroup___init__ : PySem.W.isClsIn K c_TableGroup = true) (s2_TableGroup___init__ : PySem.W.mroIn K c_TableGroup (.ref c_TableGroup) = some true) (s3_TableGroup___init__ : PySem.W.ks_superIn K c_TableGroup c_TableGroup "__init__" = some (some (.ref f_Group___init__))) (s4_TableGroup___init__ : PySem.W.typeIn K (.ref f_Group___init__) = some (.type "function")) (s5_TableGroup___init__ : PySem.W.nsIn K cStatics "thirdparty.any" = some none) (s6_TableGroup___init__ : PySem.W.fnIn K f_Group___init__ = true)
    (a__law_asked : PySem.W.nsIn K mainGlobals "_law_asked" = some (some (.ref f__law_asked))) (l__law_asked : K.lookup f__law_asked = some ⟨oc__law_asked, od__law_asked, .func (PySem.W.fnOf "_law_asked" "_law_asked" (defArgs s_Lasked) (defBody s_Lasked) (defScope s_Lasked) .none kV__law_asked dc__law_asked pm__law_asked an__law_asked cd__law_asked ct__law_asked), sl__law_asked⟩) (c__law_asked : PySem.W.codeIn K cd__law_asked "_law_asked" = true) (k__law_asked : PySem.W.keepIn K (.ref f__law_asked) = true)
    (a__law_right : PySem.W.nsIn K mainGlobals "_law_right" = some (some (.ref f__law_right))) (l__law_right : K.lookup f__law_right = some ⟨oc__law_right, od__law_right, .func (PySem.W.fnOf "_law_right" "_law_right" (defArgs s_Lright) (defBody s_Lright) (defScope s_Lright) .none kV__law_right dc__law_right pm__law_right an__law_right cd__law_right ct__law_right), sl__law_right⟩) (c__law_right : PySem.W.codeIn K cd__law_right "_law_right" = true) (k__law_right : PySem.W.keepIn K (.ref f__law_right) = true)
    (l_Group_power : K.lookup f_Group_power = some ⟨oc_Group_power, od_Group_power, .func (PySem.W.fnOf "power" "Group.power" (defArgs s_Group_power) (defBody s_Group_power) (defScope s_Group_power) .none kV_Group_power dc_Group_power pm_Group_power an_Group_power cd_Group_power ct_Group_power), sl_Group_power⟩) (c_Group_power : PySem.W.codeIn K cd_Group_power "Group.power" = true) (k_Group_power : PySem.W.keepIn K (.ref f_Group_power) = true)
    (l_Group_inverse_of : K.lookup f_Group_inverse_of = some ⟨oc_Group_inverse_of, od_Group_inverse_of, .func (PySem.W.fnOf "inverse_of" "Group.inverse_of" (defArgs s_Group_inverse_of) (defBody s_Group_inverse_of) (defScope s_Group_inverse_of) .none kV_Group_inverse_of dc_Group_inverse_of pm_Group_inverse_of an_Group_inverse_of cd_Group_inverse_of ct_Group_inverse_of), sl_Group_inverse_of⟩) (c_Group_inverse_of : PySem.W.codeIn K cd_Group_inverse_of "Group.inverse_of" = true) (k_Group_inverse_of : PySem.W.keepIn K (.ref f_Group_inverse_of) = true)
    (l_Group_has : K.lookup f_Group_has = some ⟨oc_Group_has, od_Group_has, .func (PySem.W.fnOf "has" "Group.has" (defArgs s_Group_has) (defBody s_Group_has) (defScope s_Group_has) .none kV_Group_has dc_Group_has pm_Group_has an_Group_has cd_Group_has ct_Group_has), sl_Group_has⟩) (c_Group_has : PySem.W.codeIn K cd_Group_has "Group.has" = true) (k_Group_has : PySem.W.keepIn K (.ref f_Group_has) = true)
    (a__law_multiplies : PySem.W.nsIn K mainGlobals "_law_multiplies" = some (some (.ref f__law_multiplies))) (l__law_multiplies : K.lookup f__law_multiplies = some ⟨oc__law_multiplies, od__law_multiplies, .func (PySem.W.fnOf "_law_multiplies" "_law_multiplies" (defArgs s_Lmultiplies) (defBody s_Lmultiplies) (defScope s_Lmultiplies) .none kV__law_multiplies dc__law_multiplies pm__law_multiplies an__law_multiplies cd__law_multiplies ct__law_multiplies), sl__law_multiplies⟩) (c__law_multiplies : PySem.W.codeIn K cd__law_multiplies "_law_multiplies" = true) (k__law_multiplies : PySem.W.keepIn K (.ref f__law_multiplies) = true)
    (a__law_longer : PySem.W.nsIn K mainGlobals "_law_longer" = some (some (.ref f__law_longer))) (l__law_longer : K.lookup f__law_longer = some ⟨oc__law_longer, od__law_longer, .func (PySem.W.fnOf "_law_longer" "_law_longer" (defArgs s_Llonger) (defBody s_Llonger) (defScope s_Llonger) .none kV__law_longer dc__law_longer pm__law_longer an__law_longer cd__law_longer ct__law_longer), sl__law_longer⟩) (c__law_longer : PySem.W.codeIn K cd__law_longer "_law_longer" = true) (k__law_longer : PySem.W.keepIn K (.ref f__law_longer) = true)
    (a__law_loop : PySem.W.nsIn K mainGlobals "_law_loop" = some (some (.ref f__law_loop))) (l__law_loop : K.lookup f__law_loop = some ⟨oc__law_loop, od__law_loop, .func (PySem.W.fnOf "_law_loop" "_law_loop" (defArgs s_Lloop) (defBody s_Lloop) (defScope s_Lloop) .none kV__law_loop dc__law_loop pm__law_loop an__law_loop cd__law_loop ct__law_loop), sl__law_loop⟩) (c__law_loop : PySem.W.codeIn K cd__law_loop "_law_loop" = true) (k__law_loop : PySem.W.keepIn K (.ref f__law_loop) = true)
    (a_law : PySem.W.nsIn K mainGlobals "law" = some (some (.ref f_law))) (l_law : K.lookup f_law = some ⟨oc_law, od_law, .func (PySem.W.fnOf "law" "law" (defArgs s_law) (defBody s_law) (defScope s_law) .none kV_law dc_law pm_law an_law cd_law ct_law), sl_law⟩) (c_law : PySem.W.codeIn K cd_law "law" = true) (k_law : PySem.W.keepIn K (.ref f_law) = true)
    (a_TableGroup : PySem.W.nsIn K mainGlobals "TableGroup" = some (some (.ref c_TableGroup)))
    (pg_TableGroup : PySem.W.plainGet K c_TableGroup Str.empty = true)
    (hd_TableGroup : PySem.W.hasDictIn K c_TableGroup = true)
    (po_TableGroup : PySem.W.plainOver K c_TableGroup = true)
    (sa_TableGroup : PySem.W.findIn K (.ref c_TableGroup) "__setattr__" = some (some (.builtin "object.__setattr__")))
    (mk_TableGroup : PySem.W.makesIn K c_TableGroup = true)
    (kc_TableGroup : PySem.W.keepIn K (.ref c_TableGroup) = true)
    (in_TableGroup : PySem.W.findIn K (.ref c_TableGroup) "__init__" = some (some (.ref f_TableGroup___init__)))
    (if_TableGroup : PySem.W.isFn K (.ref f_TableGroup___init__) = true)
    (e__powers_of_TableGroup : PySem.W.findIn K (.ref c_TableGroup) "_powers_of" = some (some (.ref f_Group__powers_of)))
    (g__powers_of_TableGroup : PySem.W.isFn K (.ref f_Group__powers_of) = true)
    (e_has_TableGroup : PySem.W.findIn K (.ref c_TableGroup) "has" = some (some (.ref f_Group_has)))
    (g_has_TableGroup : PySem.W.isFn K (.ref f_Group_has) = true)
    (e_inverse_of_TableGroup : PySem.W.findIn K (.ref c_TableGroup) "inverse_of" = some (some (.ref f_Group_inverse_of)))
    (g_inverse_of_TableGroup : PySem.W.isFn K (.ref f_Group_inverse_of) = true)
    (e_multiply_TableGroup : PySem.W.findIn K (.ref c_TableGroup) "multiply" = some (some (.ref f_TableGroup_multiply)))
    (g_multiply_TableGroup : PySem.W.isFn K (.ref f_TableGroup_multiply) = true)
    (e_power_TableGroup : PySem.W.findIn K (.ref c_TableGroup) "power" = some (some (.ref f_Group_power)))
    (g_power_TableGroup : PySem.W.isFn K (.ref f_Group_power) = true)
    (n__exponents_TableGroup : PySem.W.findIn K (.ref c_TableGroup) "_exponents" = some none)
    (n__powers_TableGroup : PySem.W.findIn K (.ref c_TableGroup) "_powers" = some none)
    (n_generator_TableGroup : PySem.W.findIn K (.ref c_TableGroup) "generator" = some none)
    (n_members_TableGroup : PySem.W.findIn K (.ref c_TableGroup) "members" = some none)
    (n_order_TableGroup : PySem.W.findIn K (.ref c_TableGroup) "order" = some none)
    (n_table_TableGroup : PySem.W.findIn K (.ref c_TableGroup) "table" = some none)
    (n_unit_TableGroup : PySem.W.findIn K (.ref c_TableGroup) "unit" = some none)
    (a_Group : PySem.W.nsIn K mainGlobals "Group" = some (some (.ref c_Group))) (in_Group : PySem.W.findIn K (.ref c_Group) "__init__" = some (some (.ref f_Group___init__)))
    (hfile : (l.prog.main.file == sfile) = true) (htop : (l.prog.main.scope.names.lookup ("super" : Str)).isSome = false)
    (z_all : PySem.W.nsIn K mainGlobals "all" = some none)
    (z_bool : PySem.W.nsIn K mainGlobals "bool" = some none)
    (z_enumerate : PySem.W.nsIn K mainGlobals "enumerate" = some none)
    (z_int : PySem.W.nsIn K mainGlobals "int" = some none)
    (z_isinstance : PySem.W.nsIn K mainGlobals "isinstance" = some none)
    (z_len : PySem.W.nsIn K mainGlobals "len" = some none)
    (z_list : PySem.W.nsIn K mainGlobals "list" = some none)
    (z_max : PySem.W.nsIn K mainGlobals "max" = some none)
    (z_range : PySem.W.nsIn K mainGlobals "range" = some none)
    (z_reversed : PySem.W.nsIn K mainGlobals "reversed" = some none)
    (z_set : PySem.W.nsIn K mainGlobals "set" = some none)
    (z_str : PySem.W.nsIn K mainGlobals "str" = some none)
    (z_super : PySem.W.nsIn K mainGlobals "super" = some none)
    (z_tuple : PySem.W.nsIn K mainGlobals "tuple" = some none)
    
    (a_BadGroup : PySem.W.nsIn K mainGlobals "BadGroup" = some (some (.ref c_BadGroup)))
    (kc_BadGroup : PySem.W.keepIn K (.ref c_BadGroup) = true)
    (s_BadGroup : PySem.W.subIn K (.ref c_BadGroup) (.type "BaseException") = some true)
    (t_BadGroup : PySem.W.typeIn K (.ref c_BadGroup) = some (.type "type"))
    (i_BadGroup : PySem.W.isClsIn K c_BadGroup = true)
    (hd_BadGroup : PySem.W.hasDictIn K c_BadGroup = true)
    (x_BadGroup : PySem.W.excIn K c_BadGroup [.type "ValueError", .type "Exception", .type "BaseException", .type "object"] "ValueError.__new__" = true)
    (u_BadGroup_BadGroup : PySem.W.subIn K (.ref c_BadGroup) (.ref c_BadGroup) = some true)
    (n_LARGEST_TABLE_ORDER : PySem.W.nsIn K mainGlobals "LARGEST_TABLE_ORDER" = some (some (.int 13 t_LARGEST_TABLE_ORDER)))
    (n_SMALLEST_ORDER : PySem.W.nsIn K mainGlobals "SMALLEST_ORDER" = some (some (.int 3 t_SMALLEST_ORDER)))
    (i_get : PySem.W.specialIn K (.builtin "object.__class__") "__get__" = some (some (.builtin "getset_descriptor.__get__")))
    (i_tk : PySem.W.takesIn K (.builtin "object.__class__") = some true)
    
    
    (ic_TableGroup : PySem.W.findIn K (.ref c_TableGroup) "__class__" = some (some (.builtin "object.__class__")))
    (io_TableGroup : PySem.W.mroIn K c_TableGroup (.type "object") = some true)
    (iu_TableGroup_Group : PySem.W.subIn K (.ref c_TableGroup) (.ref c_Group) = some true)
    (iw_Group : PySem.W.hasDictIn K c_Group = true)
    (iy_Group : PySem.W.typeIn K (.ref c_Group) = some (.type "type"))
    : ∃ fd : FuncData, (∀ (s : Shared) (v : Value), BindsTo s fd ⟨[v], []⟩ [("script", v)]) ∧ ∀ base : Heap, K.In base → base.Ns mainGlobals mg → FnOk l.prog w K mg base CX0 9 fa fd ["script"] (spLaw K) := by
  have e := hfa.symm.trans (PySem.W.mg_of X G a_law)
  cases e
  let T : Top l.prog K mg := {
                                        f__law_box := f__law_box, d__law_box := _, F__law_box := fun_mk (st := s_Lbox) l__law_box c__law_box k__law_box, m__law_box := PySem.W.mg_of X G a__law_box, b__law_box := (fun_mk (st := s_Lbox) l__law_box c__law_box k__law_box).binds (ps := ["script", "at"]) (fun _ _ _ _ _ _ us hl => match us, hl with | [_, _], _ => rfl),
                                        f__law_mix := f__law_mix, d__law_mix := _, F__law_mix := fun_mk (st := s_Lmix) l__law_mix c__law_mix k__law_mix, m__law_mix := PySem.W.mg_of X G a__law_mix, b__law_mix := (fun_mk (st := s_Lmix) l__law_mix c__law_mix k__law_mix).binds (ps := ["cell", "salt"]) (fun _ _ _ _ _ _ us hl => match us, hl with | [_, _], _ => rfl),
                                        f__law_draw := f__law_draw, d__law_draw := _, F__law_draw := fun_mk (st := s_Ldraw) l__law_draw c__law_draw k__law_draw, m__law_draw := PySem.W.mg_of X G a__law_draw, b__law_draw := (fun_mk (st := s_Ldraw) l__law_draw c__law_draw k__law_draw).binds (ps := ["box", "many"]) (fun _ _ _ _ _ _ us hl => match us, hl with | [_, _], _ => rfl),
                                        f__law_order := f__law_order, d__law_order := _, F__law_order := fun_mk (st := s_Lorder) l__law_order c__law_order k__law_order, m__law_order := PySem.W.mg_of X G a__law_order, b__law_order := (fun_mk (st := s_Lorder) l__law_order c__law_order k__law_order).binds (ps := ["box", "q"]) (fun _ _ _ _ _ _ us hl => match us, hl with | [_, _], _ => rfl),
                                        f__law_table := f__law_table, d__law_table := _, F__law_table := fun_mk (st := s_Ltable) l__law_table c__law_table k__law_table, m__law_table := PySem.W.mg_of X G a__law_table, b__law_table := (fun_mk (st := s_Ltable) l__law_table c__law_table k__law_table).binds (ps := ["row"]) (fun _ _ _ _ _ _ us hl => match us, hl with | [_], _ => rfl),
                                        f__law_with := f__law_with, d__law_with := _, F__law_with := fun_mk (st := s_Lwith) l__law_with c__law_with k__law_with, m__law_with := PySem.W.mg_of X G a__law_with, b__law_with := (fun_mk (st := s_Lwith) l__law_with c__law_with k__law_with).binds (ps := ["table", "a", "b", "value"]) (fun _ _ _ _ _ _ us hl => match us, hl with | [_, _, _, _], _ => rfl),
                                        f__law_named := f__law_named, d__law_named := _, F__law_named := fun_mk (st := s_Lnamed) l__law_named c__law_named k__law_named, m__law_named := PySem.W.mg_of X G a__law_named, b__law_named := (fun_mk (st := s_Lnamed) l__law_named c__law_named k__law_named).binds (ps := ["row", "table"]) (fun _ _ _ _ _ _ us hl => match us, hl with | [_, _], _ => rfl),
                                        f__law_alone := f__law_alone, d__law_alone := _, F__law_alone := fun_mk (st := s_Lalone) l__law_alone c__law_alone k__law_alone, m__law_alone := PySem.W.mg_of X G a__law_alone, b__law_alone := (fun_mk (st := s_Lalone) l__law_alone c__law_alone k__law_alone).binds (ps := ["box", "row"]) (fun _ _ _ _ _ _ us hl => match us, hl with | [_, _], _ => rfl),
                                        f__law_forms := f__law_forms, d__law_forms := _, F__law_forms := fun_mk (st := s_Lforms) l__law_forms c__law_forms k__law_forms, m__law_forms := PySem.W.mg_of X G a__law_forms, b__law_forms := (fun_mk (st := s_Lforms) l__law_forms c__law_forms k__law_forms).binds (ps := ["box", "table"]) (fun _ _ _ _ _ _ us hl => match us, hl with | [_, _], _ => rfl),
                                        f__law_is_prime := f__law_is_prime, d__law_is_prime := _, F__law_is_prime := fun_mk (st := s_Lis_prime) l__law_is_prime c__law_is_prime k__law_is_prime, m__law_is_prime := PySem.W.mg_of X G a__law_is_prime, b__law_is_prime := (fun_mk (st := s_Lis_prime) l__law_is_prime c__law_is_prime k__law_is_prime).binds (ps := ["n"]) (fun _ _ _ _ _ _ us hl => match us, hl with | [_], _ => rfl),
                                        f__law_prime := f__law_prime, d__law_prime := _, F__law_prime := fun_mk (st := s_Lprime) l__law_prime c__law_prime k__law_prime, m__law_prime := PySem.W.mg_of X G a__law_prime, b__law_prime := (fun_mk (st := s_Lprime) l__law_prime c__law_prime k__law_prime).binds (ps := ["box", "low", "high"]) (fun _ _ _ _ _ _ us hl => match us, hl with | [_, _, _], _ => rfl),
                                        f__law_is_square := f__law_is_square, d__law_is_square := _, F__law_is_square := fun_mk (st := s_Lis_square) l__law_is_square c__law_is_square k__law_is_square, m__law_is_square := PySem.W.mg_of X G a__law_is_square, b__law_is_square := (fun_mk (st := s_Lis_square) l__law_is_square c__law_is_square k__law_is_square).binds (ps := ["table"]) (fun _ _ _ _ _ _ us hl => match us, hl with | [_], _ => rfl),
                                        f__law_units := f__law_units, d__law_units := _, F__law_units := fun_mk (st := s_Lunits) l__law_units c__law_units k__law_units, m__law_units := PySem.W.mg_of X G a__law_units, b__law_units := (fun_mk (st := s_Lunits) l__law_units c__law_units k__law_units).binds (ps := ["table"]) (fun _ _ _ _ _ _ us hl => match us, hl with | [_], _ => rfl),
                                        f__law_is_group := f__law_is_group, d__law_is_group := _, F__law_is_group := fun_mk (st := s_Lis_group) l__law_is_group c__law_is_group k__law_is_group, m__law_is_group := PySem.W.mg_of X G a__law_is_group, b__law_is_group := (fun_mk (st := s_Lis_group) l__law_is_group c__law_is_group k__law_is_group).binds (ps := ["table"]) (fun _ _ _ _ _ _ us hl => match us, hl with | [_], _ => rfl),
                                        f__law_alike := f__law_alike, d__law_alike := _, F__law_alike := fun_mk (st := s_Lalike) l__law_alike c__law_alike k__law_alike, m__law_alike := PySem.W.mg_of X G a__law_alike, b__law_alike := (fun_mk (st := s_Lalike) l__law_alike c__law_alike k__law_alike).binds (ps := ["told", "due"]) (fun _ _ _ _ _ _ us hl => match us, hl with | [_, _], _ => rfl),
                                        f_TableGroup_multiply := f_TableGroup_multiply, d_TableGroup_multiply := _, F_TableGroup_multiply := fun_mk (st := s_TableGroup_multiply) l_TableGroup_multiply c_TableGroup_multiply k_TableGroup_multiply, b_TableGroup_multiply := (fun_mk (st := s_TableGroup_multiply) l_TableGroup_multiply c_TableGroup_multiply k_TableGroup_multiply).binds (ps := ["self", "first", "second"]) (fun _ _ _ _ _ _ us hl => match us, hl with | [_, _, _], _ => rfl),
                                        f_Group__powers_of := f_Group__powers_of, d_Group__powers_of := _, F_Group__powers_of := fun_mk (st := s_Group__powers_of) l_Group__powers_of c_Group__powers_of k_Group__powers_of, b_Group__powers_of := (fun_mk (st := s_Group__powers_of) l_Group__powers_of c_Group__powers_of k_Group__powers_of).binds (ps := ["self", "element"]) (fun _ _ _ _ _ _ us hl => match us, hl with | [_, _], _ => rfl),
                                        f_Group___init__ := f_Group___init__, d_Group___init__ := _, F_Group___init__ := fun_mk (st := s_Group___init__) l_Group___init__ c_Group___init__ k_Group___init__, b_Group___init__ := (fun_mk (st := s_Group___init__) l_Group___init__ c_Group___init__ k_Group___init__).binds (ps := ["self", "order", "unit", "members"]) (fun _ _ _ _ _ _ us hl => match us, hl with | [_, _, _, _], _ => rfl),
                                        f__is_associative := f__is_associative, d__is_associative := _, F__is_associative := fun_mk (st := s__is_associative) l__is_associative c__is_associative k__is_associative, m__is_associative := PySem.W.mg_of X G a__is_associative, b__is_associative := (fun_mk (st := s__is_associative) l__is_associative c__is_associative k__is_associative).binds (ps := ["table"]) (fun _ _ _ _ _ _ us hl => match us, hl with | [_], _ => rfl),
                                        f_is_prime := f_is_prime, d_is_prime := _, F_is_prime := fun_mk (st := s_is_prime) l_is_prime c_is_prime k_is_prime, m_is_prime := PySem.W.mg_of X G a_is_prime, b_is_prime := (fun_mk (st := s_is_prime) l_is_prime c_is_prime k_is_prime).binds (ps := ["n"]) (fun _ _ _ _ _ _ us hl => match us, hl with | [_], _ => rfl),
                                        f_is_tuple_of := f_is_tuple_of, d_is_tuple_of := _, F_is_tuple_of := fun_mk (st := s_is_tuple_of) l_is_tuple_of c_is_tuple_of k_is_tuple_of, m_is_tuple_of := PySem.W.mg_of X G a_is_tuple_of, b_is_tuple_of := (fun_mk (st := s_is_tuple_of) l_is_tuple_of c_is_tuple_of k_is_tuple_of).binds (ps := ["length", "value"]) (fun _ _ _ _ _ _ us hl => match us, hl with | [_, _], _ => rfl),
                                        f_is_residue := f_is_residue, d_is_residue := _, F_is_residue := fun_mk (st := s_is_residue) l_is_residue c_is_residue k_is_residue, m_is_residue := PySem.W.mg_of X G a_is_residue, b_is_residue := (fun_mk (st := s_is_residue) l_is_residue c_is_residue k_is_residue).binds (ps := ["q", "value"]) (fun _ _ _ _ _ _ us hl => match us, hl with | [_, _], _ => rfl),
                                        f_is_residue_row := f_is_residue_row, d_is_residue_row := _, F_is_residue_row := fun_mk (st := s_is_residue_row) l_is_residue_row c_is_residue_row k_is_residue_row, m_is_residue_row := PySem.W.mg_of X G a_is_residue_row, b_is_residue_row := (fun_mk (st := s_is_residue_row) l_is_residue_row c_is_residue_row k_is_residue_row).binds (ps := ["q", "length", "value"]) (fun _ _ _ _ _ _ us hl => match us, hl with | [_, _, _], _ => rfl),
                                        f__is_square := f__is_square, d__is_square := _, F__is_square := fun_mk (st := s__is_square) l__is_square c__is_square k__is_square, m__is_square := PySem.W.mg_of X G a__is_square, b__is_square := (fun_mk (st := s__is_square) l__is_square c__is_square k__is_square).binds (ps := ["table"]) (fun _ _ _ _ _ _ us hl => match us, hl with | [_], _ => rfl),
                                        f__units := f__units, d__units := _, F__units := fun_mk (st := s__units) l__units c__units k__units, m__units := PySem.W.mg_of X G a__units, b__units := (fun_mk (st := s__units) l__units c__units k__units).binds (ps := ["table"]) (fun _ _ _ _ _ _ us hl => match us, hl with | [_], _ => rfl),
                                        f__is_group_table := f__is_group_table, d__is_group_table := _, F__is_group_table := fun_mk (st := s__is_group_table) l__is_group_table c__is_group_table k__is_group_table, m__is_group_table := PySem.W.mg_of X G a__is_group_table, b__is_group_table := (fun_mk (st := s__is_group_table) l__is_group_table c__is_group_table k__is_group_table).binds (ps := ["table"]) (fun _ _ _ _ _ _ us hl => match us, hl with | [_], _ => rfl),
                                        cc_TableGroup___init__ := cc_TableGroup___init__, cda_TableGroup___init__ := cda_TableGroup___init__, f_TableGroup___init__ := f_TableGroup___init__, d_TableGroup___init__ := _, F_TableGroup___init__ := ⟨⟨_, _, _, _, _, _, _, _, rfl, l_TableGroup___init__⟩, c_TableGroup___init__, ⟨_, _, _, x_TableGroup___init__⟩, k_TableGroup___init__⟩, su_TableGroup___init__ := ⟨⟨_, _, _, l_TableGroup___init__⟩, ⟨_, rfl, rfl⟩, ⟨_, _, _, _, _, q_TableGroup___init__, q2_TableGroup___init__⟩, ⟨_, _, _, x_TableGroup___init__⟩, s1_TableGroup___init__, s2_TableGroup___init__, s3_TableGroup___init__, s4_TableGroup___init__, s5_TableGroup___init__⟩, sg_TableGroup___init__ := s6_TableGroup___init__, b_TableGroup___init__ := .all (fun us hl => match us, hl with | [_, _], _ => rfl),
                                        f__law_asked := f__law_asked, d__law_asked := _, F__law_asked := fun_mk (st := s_Lasked) l__law_asked c__law_asked k__law_asked, m__law_asked := PySem.W.mg_of X G a__law_asked, b__law_asked := (fun_mk (st := s_Lasked) l__law_asked c__law_asked k__law_asked).binds (ps := ["table"]) (fun _ _ _ _ _ _ us hl => match us, hl with | [_], _ => rfl),
                                        f__law_right := f__law_right, d__law_right := _, F__law_right := fun_mk (st := s_Lright) l__law_right c__law_right k__law_right, m__law_right := PySem.W.mg_of X G a__law_right, b__law_right := (fun_mk (st := s_Lright) l__law_right c__law_right k__law_right).binds (ps := ["table"]) (fun _ _ _ _ _ _ us hl => match us, hl with | [_], _ => rfl),
                                        f_Group_power := f_Group_power, d_Group_power := _, F_Group_power := fun_mk (st := s_Group_power) l_Group_power c_Group_power k_Group_power, b_Group_power := (fun_mk (st := s_Group_power) l_Group_power c_Group_power k_Group_power).binds (ps := ["self", "element", "exponent"]) (fun _ _ _ _ _ _ us hl => match us, hl with | [_, _, _], _ => rfl),
                                        f_Group_inverse_of := f_Group_inverse_of, d_Group_inverse_of := _, F_Group_inverse_of := fun_mk (st := s_Group_inverse_of) l_Group_inverse_of c_Group_inverse_of k_Group_inverse_of, b_Group_inverse_of := (fun_mk (st := s_Group_inverse_of) l_Group_inverse_of c_Group_inverse_of k_Group_inverse_of).binds (ps := ["self", "element"]) (fun _ _ _ _ _ _ us hl => match us, hl with | [_, _], _ => rfl),
                                        f_Group_has := f_Group_has, d_Group_has := _, F_Group_has := fun_mk (st := s_Group_has) l_Group_has c_Group_has k_Group_has, b_Group_has := (fun_mk (st := s_Group_has) l_Group_has c_Group_has k_Group_has).binds (ps := ["self", "value"]) (fun _ _ _ _ _ _ us hl => match us, hl with | [_, _], _ => rfl),
                                        f__law_multiplies := f__law_multiplies, d__law_multiplies := _, F__law_multiplies := fun_mk (st := s_Lmultiplies) l__law_multiplies c__law_multiplies k__law_multiplies, m__law_multiplies := PySem.W.mg_of X G a__law_multiplies, b__law_multiplies := (fun_mk (st := s_Lmultiplies) l__law_multiplies c__law_multiplies k__law_multiplies).binds (ps := ["box", "row"]) (fun _ _ _ _ _ _ us hl => match us, hl with | [_, _], _ => rfl),
                                        f__law_longer := f__law_longer, d__law_longer := _, F__law_longer := fun_mk (st := s_Llonger) l__law_longer c__law_longer k__law_longer, m__law_longer := PySem.W.mg_of X G a__law_longer, b__law_longer := (fun_mk (st := s_Llonger) l__law_longer c__law_longer k__law_longer).binds (ps := ["square", "lines"]) (fun _ _ _ _ _ _ us hl => match us, hl with | [_, _], _ => rfl),
                                        f__law_loop := f__law_loop, d__law_loop := _, F__law_loop := fun_mk (st := s_Lloop) l__law_loop c__law_loop k__law_loop, m__law_loop := PySem.W.mg_of X G a__law_loop, b__law_loop := (fun_mk (st := s_Lloop) l__law_loop c__law_loop k__law_loop).binds (ps := ["box"]) (fun _ _ _ _ _ _ us hl => match us, hl with | [_], _ => rfl),
                                        f_law := fa, d_law := _, F_law := fun_mk (st := s_law) l_law c_law k_law, m_law := PySem.W.mg_of X G a_law, b_law := (fun_mk (st := s_law) l_law c_law k_law).binds (ps := ["script"]) (fun _ _ _ _ _ _ us hl => match us, hl with | [_], _ => rfl),
                                        c_TableGroup := c_TableGroup, m_TableGroup := PySem.W.mg_of X G a_TableGroup, cls_TableGroup := ⟨pg_TableGroup, hd_TableGroup, po_TableGroup, sa_TableGroup⟩, mk_TableGroup := ⟨mk_TableGroup, in_TableGroup, if_TableGroup, kc_TableGroup⟩,
                                        me_TableGroup__powers_of := ⟨e__powers_of_TableGroup, g__powers_of_TableGroup, k_Group__powers_of⟩,
                                        me_TableGroup_has := ⟨e_has_TableGroup, g_has_TableGroup, k_Group_has⟩,
                                        me_TableGroup_inverse_of := ⟨e_inverse_of_TableGroup, g_inverse_of_TableGroup, k_Group_inverse_of⟩,
                                        me_TableGroup_multiply := ⟨e_multiply_TableGroup, g_multiply_TableGroup, k_TableGroup_multiply⟩,
                                        me_TableGroup_power := ⟨e_power_TableGroup, g_power_TableGroup, k_Group_power⟩,
                                        na_TableGroup__exponents := n__exponents_TableGroup,
                                        na_TableGroup__powers := n__powers_TableGroup,
                                        na_TableGroup_generator := n_generator_TableGroup,
                                        na_TableGroup_members := n_members_TableGroup,
                                        na_TableGroup_order := n_order_TableGroup,
                                        na_TableGroup_table := n_table_TableGroup,
                                        na_TableGroup_unit := n_unit_TableGroup,
                                        hfile := hfile, htop := htop,
                                        k_TableGroup___init___1_table := ⟨fun s us ws _ hl => .of_eq (match us, ws, hl with | [_], [_], _ => rfl), g_TableGroup___init___1_table_rel⟩,
                                        k_TableGroup_multiply_1_second_first := fun_kbinds (fun_mk (st := s_TableGroup_multiply) l_TableGroup_multiply c_TableGroup_multiply k_TableGroup_multiply) g_TableGroup_multiply_1_second_first_rel (fun _ _ _ _ _ _ us ws hl => match us, ws, hl with | [_], [_, _], _ => rfl),
                                        z_all := PySem.W.mg_none_of X G z_all,
                                        z_bool := PySem.W.mg_none_of X G z_bool,
                                        z_enumerate := PySem.W.mg_none_of X G z_enumerate,
                                        z_int := PySem.W.mg_none_of X G z_int,
                                        z_isinstance := PySem.W.mg_none_of X G z_isinstance,
                                        z_len := PySem.W.mg_none_of X G z_len,
                                        z_list := PySem.W.mg_none_of X G z_list,
                                        z_max := PySem.W.mg_none_of X G z_max,
                                        z_range := PySem.W.mg_none_of X G z_range,
                                        z_reversed := PySem.W.mg_none_of X G z_reversed,
                                        z_set := PySem.W.mg_none_of X G z_set,
                                        z_str := PySem.W.mg_none_of X G z_str,
                                        z_super := PySem.W.mg_none_of X G z_super,
                                        z_tuple := PySem.W.mg_none_of X G z_tuple,
                                        c_BadGroup := c_BadGroup,
                                        m_BadGroup := PySem.W.mg_of X G a_BadGroup,
                                        kc_BadGroup := kc_BadGroup,
                                        s_BadGroup := s_BadGroup,
                                        t_BadGroup := t_BadGroup,
                                        i_BadGroup := i_BadGroup,
                                        hd_BadGroup := hd_BadGroup,
                                        x_BadGroup := x_BadGroup,
                                        u_BadGroup_BadGroup := u_BadGroup_BadGroup,
                                        n_LARGEST_TABLE_ORDER := ⟨_, PySem.W.mg_of X G n_LARGEST_TABLE_ORDER⟩,
                                        n_SMALLEST_ORDER := ⟨_, PySem.W.mg_of X G n_SMALLEST_ORDER⟩,
                                        i_get := i_get,
                                        i_tk := i_tk,
                                        c_Group := c_Group,
                                        m_Group := PySem.W.mg_of X G a_Group,
                                        ic_TableGroup := ic_TableGroup,
                                        io_TableGroup := io_TableGroup,
                                        iu_TableGroup_Group := iu_TableGroup_Group,
                                        iw_Group := iw_Group,
                                        iy_Group := iy_Group }
  refine ⟨T.d_law, fun s v => .of_eq rfl, fun base _ _ => ?_⟩
  exact ok_law T law_true
theorem walk {l : PySem.W.OpenLaw} {q : Program} {loose : List Str} {XP : (Str → Option Value) → Heap → Prop} {YP : World → Heap → Prop} {d : DefRec} {K : Params → PySem.W.Frag} (hn : l.most = some 63) (hdf : d.params.defaults = [])
    (hY : ∀ (w : World) (h : Heap), YP w h → (K w.params).In h)
    (F : ∀ (w : World) (mg : Str → Option Value) (fa : Addr) (h : Heap), (K w.params).In h → h.Ns mainGlobals mg → mg d.name = some (.ref fa) →
      ∃ fd : FuncData, (∀ (s : Shared) (u : Value), BindsTo s fd ⟨[u], []⟩ [("script", u)]) ∧ ∀ base : Heap, (K w.params).In base → base.Ns mainGlobals mg → FnOk l.prog w (K w.params) mg base CX0 9 fa fd ["script"] (spLaw (K w.params))) :
    PySem.W.WalkO q loose XP YP l.row.toRowW d [] (fun f vs => PySem.call f vs) :=
  L2.walk_of (n := 63) (k := 9) (x := "script") (CX := fun _ => CX0) (sp := fun w => spLaw (K w.params)) hn (by decide) hdf ⟨rfl, by decide, by decide⟩ hY F (fun _ _ a ns hl _ hS => ⟨a, ns, rfl, hS, hl, fun _ => rfl⟩) fun _ _ _ _ _ z => z
end Toy
open PySem PySem.W PyProof.Rows
set_option maxRecDepth 100000 in
set_option maxHeartbeats 0 in
theorem PySem.Challenge.cw_hushpapers_k06_table_groups_holds : PySem.Challenge.rw_hushpapers_k06_table_groups.Holds := by
  w_on; o_law; k_head; (case hw => w_witness2)
  k_fill
  refine Toy.walk (l := PySem.Challenge.rw_hushpapers_k06_table_groups) rfl rfl (fun w h Y => PySem.W.kIn_of Y) ?F
  case F =>
    intro w mg fa h KX G hmg
    refine' Toy.all_mk KX G hmg ?a__law_box ?l__law_box ?c__law_box ?k__law_box ?a__law_mix ?l__law_mix ?c__law_mix ?k__law_mix ?a__law_draw ?l__law_draw ?c__law_draw ?k__law_draw ?a__law_order ?l__law_order ?c__law_order ?k__law_order ?a__law_table ?l__law_table ?c__law_table ?k__law_table ?a__law_with ?l__law_with ?c__law_with ?k__law_with ?a__law_named ?l__law_named ?c__law_named ?k__law_named ?a__law_alone ?l__law_alone ?c__law_alone ?k__law_alone ?a__law_forms ?l__law_forms ?c__law_forms ?k__law_forms ?a__law_is_prime ?l__law_is_prime ?c__law_is_prime ?k__law_is_prime ?a__law_prime ?l__law_prime ?c__law_prime ?k__law_prime ?a__law_is_square ?l__law_is_square ?c__law_is_square ?k__law_is_square ?a__law_units ?l__law_units ?c__law_units ?k__law_units ?a__law_is_group ?l__law_is_group ?c__law_is_group ?k__law_is_group ?a__law_alike ?l__law_alike ?c__law_alike ?k__law_alike ?l_TableGroup_multiply ?c_TableGroup_multiply ?k_TableGroup_multiply ?l_Group__powers_of ?c_Group__powers_of ?k_Group__powers_of ?l_Group___init__ ?c_Group___init__ ?k_Group___init__ ?a__is_associative ?l__is_associative ?c__is_associative ?k__is_associative ?a_is_prime ?l_is_prime ?c_is_prime ?k_is_prime ?a_is_tuple_of ?l_is_tuple_of ?c_is_tuple_of ?k_is_tuple_of ?a_is_residue ?l_is_residue ?c_is_residue ?k_is_residue ?a_is_residue_row ?l_is_residue_row ?c_is_residue_row ?k_is_residue_row ?a__is_square ?l__is_square ?c__is_square ?k__is_square ?a__units ?l__units ?c__units ?k__units ?a__is_group_table ?l__is_group_table ?c__is_group_table ?k__is_group_table ?l_TableGroup___init__ ?c_TableGroup___init__ ?k_TableGroup___init__ ?x_TableGroup___init__ ?q_TableGroup___init__ ?q2_TableGroup___init__ ?s1_TableGroup___init__ ?s2_TableGroup___init__ ?s3_TableGroup___init__ ?s4_TableGroup___init__ ?s5_TableGroup___init__ ?s6_TableGroup___init__ ?a__law_asked ?l__law_asked ?c__law_asked ?k__law_asked ?a__law_right ?l__law_right ?c__law_right ?k__law_right ?l_Group_power ?c_Group_power ?k_Group_power ?l_Group_inverse_of ?c_Group_inverse_of ?k_Group_inverse_of ?l_Group_has ?c_Group_has ?k_Group_has ?a__law_multiplies ?l__law_multiplies ?c__law_multiplies ?k__law_multiplies ?a__law_longer ?l__law_longer ?c__law_longer ?k__law_longer ?a__law_loop ?l__law_loop ?c__law_loop ?k__law_loop ?a_law ?l_law ?c_law ?k_law ?a_TableGroup ?pg_TableGroup ?hd_TableGroup ?po_TableGroup ?sa_TableGroup ?mk_TableGroup ?kc_TableGroup ?in_TableGroup ?if_TableGroup ?e__powers_of_TableGroup ?g__powers_of_TableGroup ?e_has_TableGroup ?g_has_TableGroup ?e_inverse_of_TableGroup ?g_inverse_of_TableGroup ?e_multiply_TableGroup ?g_multiply_TableGroup ?e_power_TableGroup ?g_power_TableGroup ?n__exponents_TableGroup ?n__powers_TableGroup ?n_generator_TableGroup ?n_members_TableGroup ?n_order_TableGroup ?n_table_TableGroup ?n_unit_TableGroup ?a_Group ?in_Group ?hfile ?htop ?z_all ?z_bool ?z_enumerate ?z_int ?z_isinstance ?z_len ?z_list ?z_max ?z_range ?z_reversed ?z_set ?z_str ?z_super ?z_tuple ?a_BadGroup ?kc_BadGroup ?s_BadGroup ?t_BadGroup ?i_BadGroup ?hd_BadGroup ?x_BadGroup ?u_BadGroup_BadGroup ?n_LARGEST_TABLE_ORDER ?n_SMALLEST_ORDER ?i_get ?i_tk ?ic_TableGroup ?io_TableGroup ?iu_TableGroup_Group ?iw_Group ?iy_Group
    (case a__law_box => k_is)
    (case a__law_mix => k_is)
    (case a__law_draw => k_is)
    (case a__law_order => k_is)
    (case a__law_table => k_is)
    (case a__law_with => k_is)
    (case a__law_named => k_is)
    (case a__law_alone => k_is)
    (case a__law_forms => k_is)
    (case a__law_is_prime => k_is)
    (case a__law_prime => k_is)
    (case a__law_is_square => k_is)
    (case a__law_units => k_is)
    (case a__law_is_group => k_is)
    (case a__law_alike => k_is)
    (case a__is_associative => k_is)
    (case a_is_prime => k_is)
    (case a_is_tuple_of => k_is)
    (case a_is_residue => k_is)
    (case a_is_residue_row => k_is)
    (case a__is_square => k_is)
    (case a__units => k_is)
    (case a__is_group_table => k_is)
    (case a__law_asked => k_is)
    (case a__law_right => k_is)
    (case a__law_multiplies => k_is)
    (case a__law_longer => k_is)
    (case a__law_loop => k_is)
    (case a_law => k_is)
    (case a_TableGroup => k_is)
    (case a_Group => k_is)
    (case a_BadGroup => k_is)
    (case in_TableGroup => k_is)
    (case e__powers_of_TableGroup => k_is)
    (case e_has_TableGroup => k_is)
    (case e_inverse_of_TableGroup => k_is)
    (case e_multiply_TableGroup => k_is)
    (case e_power_TableGroup => k_is)
    (case in_Group => k_is)
    (case s3_TableGroup___init__ => rfl)
    (case l__law_box => k_is)
    (case l__law_mix => k_is)
    (case l__law_draw => k_is)
    (case l__law_order => k_is)
    (case l__law_table => k_is)
    (case l__law_with => k_is)
    (case l__law_named => k_is)
    (case l__law_alone => k_is)
    (case l__law_forms => k_is)
    (case l__law_is_prime => k_is)
    (case l__law_prime => k_is)
    (case l__law_is_square => k_is)
    (case l__law_units => k_is)
    (case l__law_is_group => k_is)
    (case l__law_alike => k_is)
    (case l_TableGroup_multiply => k_is)
    (case l_Group__powers_of => k_is)
    (case l_Group___init__ => k_is)
    (case l__is_associative => k_is)
    (case l_is_prime => k_is)
    (case l_is_tuple_of => k_is)
    (case l_is_residue => k_is)
    (case l_is_residue_row => k_is)
    (case l__is_square => k_is)
    (case l__units => k_is)
    (case l__is_group_table => k_is)
    (case l_TableGroup___init__ => k_is)
    (case l__law_asked => k_is)
    (case l__law_right => k_is)
    (case l_Group_power => k_is)
    (case l_Group_inverse_of => k_is)
    (case l_Group_has => k_is)
    (case l__law_multiplies => k_is)
    (case l__law_longer => k_is)
    (case l__law_loop => k_is)
    (case l_law => k_is)
    (case c__law_box => k_is)
    (case k__law_box => k_is)
    (case c__law_mix => k_is)
    (case k__law_mix => k_is)
    (case c__law_draw => k_is)
    (case k__law_draw => k_is)
    (case c__law_order => k_is)
    (case k__law_order => k_is)
    (case c__law_table => k_is)
    (case k__law_table => k_is)
    (case c__law_with => k_is)
    (case k__law_with => k_is)
    (case c__law_named => k_is)
    (case k__law_named => k_is)
    (case c__law_alone => k_is)
    (case k__law_alone => k_is)
    (case c__law_forms => k_is)
    (case k__law_forms => k_is)
    (case c__law_is_prime => k_is)
    (case k__law_is_prime => k_is)
    (case c__law_prime => k_is)
    (case k__law_prime => k_is)
    (case c__law_is_square => k_is)
    (case k__law_is_square => k_is)
    (case c__law_units => k_is)
    (case k__law_units => k_is)
    (case c__law_is_group => k_is)
    (case k__law_is_group => k_is)
    (case c__law_alike => k_is)
    (case k__law_alike => k_is)
    (case c_TableGroup_multiply => k_is)
    (case k_TableGroup_multiply => k_is)
    (case c_Group__powers_of => k_is)
    (case k_Group__powers_of => k_is)
    (case c_Group___init__ => k_is)
    (case k_Group___init__ => k_is)
    (case c__is_associative => k_is)
    (case k__is_associative => k_is)
    (case c_is_prime => k_is)
    (case k_is_prime => k_is)
    (case c_is_tuple_of => k_is)
    (case k_is_tuple_of => k_is)
    (case c_is_residue => k_is)
    (case k_is_residue => k_is)
    (case c_is_residue_row => k_is)
    (case k_is_residue_row => k_is)
    (case c__is_square => k_is)
    (case k__is_square => k_is)
    (case c__units => k_is)
    (case k__units => k_is)
    (case c__is_group_table => k_is)
    (case k__is_group_table => k_is)
    (case c_TableGroup___init__ => k_is)
    (case k_TableGroup___init__ => k_is)
    (case x_TableGroup___init__ => k_is)
    (case q_TableGroup___init__ => k_is)
    (case s1_TableGroup___init__ => k_is)
    (case s2_TableGroup___init__ => k_is)
    (case s4_TableGroup___init__ => k_is)
    (case s5_TableGroup___init__ => k_is)
    (case s6_TableGroup___init__ => k_is)
    (case c__law_asked => k_is)
    (case k__law_asked => k_is)
    (case c__law_right => k_is)
    (case k__law_right => k_is)
    (case c_Group_power => k_is)
    (case k_Group_power => k_is)
    (case c_Group_inverse_of => k_is)
    (case k_Group_inverse_of => k_is)
    (case c_Group_has => k_is)
    (case k_Group_has => k_is)
    (case c__law_multiplies => k_is)
    (case k__law_multiplies => k_is)
    (case c__law_longer => k_is)
    (case k__law_longer => k_is)
    (case c__law_loop => k_is)
    (case k__law_loop => k_is)
    (case c_law => k_is)
    (case k_law => k_is)
    (case pg_TableGroup => k_is)
    (case hd_TableGroup => k_is)
    (case po_TableGroup => k_is)
    (case sa_TableGroup => k_is)
    (case mk_TableGroup => k_is)
    (case kc_TableGroup => k_is)
    (case if_TableGroup => k_is)
    (case g__powers_of_TableGroup => k_is)
    (case g_has_TableGroup => k_is)
    (case g_inverse_of_TableGroup => k_is)
    (case g_multiply_TableGroup => k_is)
    (case g_power_TableGroup => k_is)
    (case n__exponents_TableGroup => k_is)
    (case n__powers_TableGroup => k_is)
    (case n_generator_TableGroup => k_is)
    (case n_members_TableGroup => k_is)
    (case n_order_TableGroup => k_is)
    (case n_table_TableGroup => k_is)
    (case n_unit_TableGroup => k_is)
    (case hfile => rfl)
    (case htop => rfl)
    (case z_all => k_is)
    (case z_bool => k_is)
    (case z_enumerate => k_is)
    (case z_int => k_is)
    (case z_isinstance => k_is)
    (case z_len => k_is)
    (case z_list => k_is)
    (case z_max => k_is)
    (case z_range => k_is)
    (case z_reversed => k_is)
    (case z_set => k_is)
    (case z_str => k_is)
    (case z_super => k_is)
    (case z_tuple => k_is)
    (case kc_BadGroup => k_is)
    (case s_BadGroup => k_is)
    (case t_BadGroup => k_is)
    (case i_BadGroup => k_is)
    (case hd_BadGroup => k_is)
    (case x_BadGroup => k_exc)
    (case u_BadGroup_BadGroup => k_is)
    (case n_LARGEST_TABLE_ORDER => k_is)
    (case n_SMALLEST_ORDER => k_is)
    (case i_get => k_is)
    (case i_tk => k_is)
    (case ic_TableGroup => k_is)
    (case io_TableGroup => k_is)
    (case iu_TableGroup_Group => k_is)
    (case iw_Group => k_is)
    (case iy_Group => k_is)
    (case q2_TableGroup___init__ => rfl)
