import PyProof.Rows.All
import PyOc07
import Wide.All
import OpenK.AllK
import Wide.FinOn
import PyProof.EqAt
import PyProof.EqKinds
import PyProof.TupleCall
import Open.SpecLaws
import KE.OsGo
import HandS.ForSpec
import HandS.ForMost
import HandS.Rev
import HandS.Deep
import HandS.Conv
import HandS.TupAny
import PySem.Challenge.RW_exceptranks_s01_answers
set_option Elab.async false
set_option linter.all false
set_option maxRecDepth 100000
set_option maxHeartbeats 8000000
namespace Ex
open Oc
/-! ## models -/
structure Mdl where
  D : Type
  nm : Nat → D → Prop
  rl : Nat → D → D → Prop
def Mdl.ev (M : Mdl) : M.D → C → Prop
  | _, .top => True
  | _, .bot => False
  | e, .name a => M.nm a e
  | e, .and c d => M.ev e c ∧ M.ev e d
  | e, .or c d => M.ev e c ∨ M.ev e d
  | e, .not c => ¬ M.ev e c
  | e, .some r c => ∃ f, M.rl r e f ∧ M.ev f c
  | e, .all r c => ∀ f, M.rl r e f → M.ev f c
def Mdl.ok (M : Mdl) (ax : List Axiom) : Prop := ∀ a ∈ ax, ∀ e, M.ev e a.1 → M.ev e a.2
/-- satisfiable with some axioms -/
def Sat (ax : List Axiom) (c : C) : Prop := ∃ M : Mdl, M.ok ax ∧ ∃ e, M.ev e c
/-- good atoms: each once, closed -/
structure Good (at_ : List C) : Prop where
  nd : at_.Nodup
  some : ∀ r c, C.some r c ∈ at_ → ∀ x ∈ c.atoms, x ∈ at_
  all : ∀ r c, C.all r c ∈ at_ → ∀ x ∈ c.atoms, x ∈ at_
def InA (at_ : List C) (c : C) : Prop := ∀ x ∈ c.atoms, x ∈ at_
def isAtom : C → Bool
  | .name _ => true
  | .some _ _ => true
  | .all _ _ => true
  | _ => false
/-- whether the type has an atom -/
def has (at_ : List C) (t : Nat) (x : C) : Bool := match at_.idxOf? x with
  | some k => bit t k
  | none => false
theorem holds_atom {at_ : List C} {t : Nat} {x : C} (h : isAtom x = true) : holds at_ t x = has at_ t x := by
  cases x <;> first | rfl | (cases h; done) | (exact absurd h (by decide))
/-- the type of an element -/
noncomputable def tyOf (M : Mdl) (e : M.D) : List C → Nat
  | [] => 0
  | x :: r => (open Classical in if M.ev e x then 1 else 0) + 2 * tyOf M e r
theorem tyOf_lt (M : Mdl) (e : M.D) : ∀ l : List C, tyOf M e l < 2 ^ l.length
  | [] => by simp [tyOf]
  | x :: r => by
    have := tyOf_lt M e r
    simp only [tyOf, List.length_cons, Nat.pow_succ]
    split <;> omega
theorem tyOf_bit (M : Mdl) (e : M.D) : ∀ (l : List C) (k : Nat) (x : C), l[k]? = some x → (bit (tyOf M e l) k = true ↔ M.ev e x)
  | [], k, x, h => by simp at h
  | y :: r, 0, x, h => by
    have h : y = x := by simpa using h
    subst h
    simp only [bit, tyOf, Nat.pow_zero, Nat.div_one]
    split
    · rename_i h
      simp [h]
    · rename_i h
      simp [h]
  | y :: r, k + 1, x, h => by
    have h : r[k]? = some x := by simpa using h
    have ih := tyOf_bit M e r k x h
    rw [← ih]
    have : tyOf M e (y :: r) / 2 ^ (k + 1) = tyOf M e r / 2 ^ k := by
      rw [Nat.pow_succ, Nat.mul_comm, ← Nat.div_div_eq_div_mul]
      congr 1
      simp only [tyOf]
      split <;> omega
    simp only [bit, this]
theorem idx_some {at_ : List C} {x : C} (h : x ∈ at_) : ∃ k, at_.idxOf? x = some k ∧ at_[k]? = some x := by
  induction at_ with
  | nil => cases h
  | cons y r ih =>
    by_cases e : y = x
    · subst e
      exact ⟨0, by simp [List.idxOf?_cons], by simp⟩
    · have h' : x ∈ r := by
        cases h with
        | head => exact absurd rfl e
        | tail _ h => exact h
      obtain ⟨k, h1, h2⟩ := ih h'
      refine ⟨k + 1, ?_, by simpa using h2⟩
      rw [List.idxOf?_cons, h1]
      simp [e]
theorem ty_holds {at_ : List C} (M : Mdl) (e : M.D) : ∀ c : C, InA at_ c → (holds at_ (tyOf M e at_) c = true ↔ M.ev e c)
  | .top, _ => by simp [holds, Mdl.ev]
  | .bot, _ => by simp [holds, Mdl.ev]
  | .name a, h => by
    obtain ⟨k, h1, h2⟩ := idx_some (h (.name a) (by simp [C.atoms]))
    simp only [holds, h1]
    exact tyOf_bit M e at_ k _ h2
  | .and c d, h => by
    have h1 := ty_holds M e c (fun x hx => h x (by simp [C.atoms, hx]))
    have h2 := ty_holds M e d (fun x hx => h x (by simp [C.atoms, hx]))
    simp only [holds, Mdl.ev, Bool.and_eq_true, h1, h2]
  | .or c d, h => by
    have h1 := ty_holds M e c (fun x hx => h x (by simp [C.atoms, hx]))
    have h2 := ty_holds M e d (fun x hx => h x (by simp [C.atoms, hx]))
    simp only [holds, Mdl.ev, Bool.or_eq_true, h1, h2]
  | .not c, h => by
    have h1 := ty_holds M e c (fun x hx => h x (by simp [C.atoms, hx]))
    simp only [holds, Mdl.ev, ← h1]
    simp
  | .some r c, h => by
    obtain ⟨k, h1, h2⟩ := idx_some (h (.some r c) (by simp [C.atoms]))
    simp only [holds, h1]
    exact tyOf_bit M e at_ k _ h2
  | .all r c, h => by
    obtain ⟨k, h1, h2⟩ := idx_some (h (.all r c) (by simp [C.atoms]))
    simp only [holds, h1]
    exact tyOf_bit M e at_ k _ h2
/-! ### from a model to types -/
theorem ty_fits {at_ : List C} (G : Good at_) (M : Mdl) {r : Nat} {e f : M.D} (h : M.rl r e f) : fits at_ r (tyOf M e at_) (tyOf M f at_) = true := by
  unfold fits
  rw [List.all_eq_true]
  intro x hx
  cases x with
  | some s c =>
    have hi : InA at_ (.some s c) := by
      intro y hy
      rcases List.mem_cons.mp hy with rfl | hy
      · exact hx
      · exact G.some s c hx y hy
    have h1 := ty_holds M e (.some s c) hi
    have h2 := ty_holds M f c (G.some s c hx)
    by_cases hs : s = r
    · subst hs
      by_cases q : M.ev f c
      · have : M.ev e (.some s c) := ⟨f, h, q⟩
        simp [h1.mpr this]
      · have : holds at_ (tyOf M f at_) c = false := by
          cases z : holds at_ (tyOf M f at_) c with
          | false => rfl
          | true => exact absurd (h2.mp z) q
        simp [this]
    · simp [hs]
  | all s c =>
    have hi : InA at_ (.all s c) := by
      intro y hy
      rcases List.mem_cons.mp hy with rfl | hy
      · exact hx
      · exact G.all s c hx y hy
    have h1 := ty_holds M e (.all s c) hi
    have h2 := ty_holds M f c (G.all s c hx)
    by_cases hs : s = r
    · subst hs
      by_cases q : M.ev f c
      · simp [h2.mpr q]
      · have : ¬ M.ev e (.all s c) := fun z => q (z f h)
        have : holds at_ (tyOf M e at_) (.all s c) = false := by
          cases z : holds at_ (tyOf M e at_) (.all s c) with
          | false => rfl
          | true => exact absurd (h1.mp z) this
        simp [this]
    · simp [hs]
  | _ => rfl
theorem ty_borne {at_ : List C} (G : Good at_) (M : Mdl) {l : List Nat} (hl : ∀ e, tyOf M e at_ ∈ l) (e : M.D) : borne at_ l (tyOf M e at_) = true := by
  unfold borne
  rw [List.all_eq_true]
  intro x hx
  cases x with
  | some s c =>
    have hi : InA at_ (.some s c) := by
      intro y hy
      rcases List.mem_cons.mp hy with rfl | hy
      · exact hx
      · exact G.some s c hx y hy
    have h1 := ty_holds M e (.some s c) hi
    show (!holds at_ (tyOf M e at_) (.some s c) || l.any fun u => fits at_ s (tyOf M e at_) u && holds at_ u c) = true
    cases z : holds at_ (tyOf M e at_) (.some s c) with
    | false => rfl
    | true =>
      obtain ⟨f, hr, hf⟩ := h1.mp z
      have : (l.any fun u => fits at_ s (tyOf M e at_) u && holds at_ u c) = true := by
        rw [List.any_eq_true]
        refine ⟨_, hl f, ?_⟩
        rw [ty_fits G M hr, (ty_holds M f c (G.some s c hx)).mpr hf]
        rfl
      rw [this]; rfl
  | all s c =>
    have hi : InA at_ (.all s c) := by
      intro y hy
      rcases List.mem_cons.mp hy with rfl | hy
      · exact hx
      · exact G.all s c hx y hy
    have h1 := ty_holds M e (.all s c) hi
    show (holds at_ (tyOf M e at_) (.all s c) || l.any fun u => fits at_ s (tyOf M e at_) u && !holds at_ u c) = true
    cases z : holds at_ (tyOf M e at_) (.all s c) with
    | true => rfl
    | false =>
      have q : ¬ M.ev e (.all s c) := fun y => by rw [h1.mpr y] at z; cases z
      have q' : ∃ f, M.rl s e f ∧ ¬ M.ev f c := by
        refine Classical.byContradiction fun n => q fun f hf => Classical.byContradiction fun m => n ⟨f, hf, m⟩
      obtain ⟨f, hr, hf⟩ := q'
      have : (l.any fun u => fits at_ s (tyOf M e at_) u && !holds at_ u c) = true := by
        rw [List.any_eq_true]
        refine ⟨_, hl f, ?_⟩
        have : holds at_ (tyOf M f at_) c = false := by
          cases y : holds at_ (tyOf M f at_) c with
          | false => rfl
          | true => exact absurd ((ty_holds M f c (G.all s c hx)).mp y) hf
        rw [ty_fits G M hr, this]
        rfl
      rw [this]; rfl
  | _ => rfl
theorem ty_settle {at_ : List C} (G : Good at_) (M : Mdl) : ∀ (n : Nat) (l : List Nat), (∀ e, tyOf M e at_ ∈ l) → ∀ e, tyOf M e at_ ∈ settle at_ n l
  | 0, l, h, e => h e
  | n + 1, l, h, e => by
    unfold settle
    simp only
    split
    · exact h e
    · refine ty_settle G M n _ (fun e => ?_) e
      exact List.mem_filter.mpr ⟨h e, ty_borne G M h e⟩
theorem ty_types {at_ : List C} (G : Good at_) {ax : List Axiom} (hax : ∀ a ∈ ax, InA at_ a.1 ∧ InA at_ a.2) (M : Mdl) (ok : M.ok ax) (e : M.D) : tyOf M e at_ ∈ types at_ ax := by
  refine ty_settle G M _ _ (fun e => ?_) e
  refine List.mem_filter.mpr ⟨List.mem_range.mpr (tyOf_lt M e at_), ?_⟩
  unfold keeps
  rw [List.all_eq_true]
  intro a ha
  have h1 := ty_holds M e a.1 (hax a ha).1
  have h2 := ty_holds M e a.2 (hax a ha).2
  cases z : holds at_ (tyOf M e at_) a.1 with
  | false => rfl
  | true =>
    rw [h2.mpr (ok a ha e (h1.mp z))]
    rfl
/-! ### from types to a model -/
theorem settle_sub (at_ : List C) : ∀ (n : Nat) (l : List Nat), ∀ t ∈ settle at_ n l, t ∈ l
  | 0, l, t, h => h
  | n + 1, l, t, h => by
    unfold settle at h
    simp only at h
    split at h
    · exact h
    · exact (List.mem_filter.mp (settle_sub at_ n _ t h)).1
theorem filter_len_eq {α : Type} {p : α → Bool} : ∀ {l : List α}, (l.filter p).length = l.length → ∀ x ∈ l, p x = true := by
  intro l h
  exact List.length_filter_eq_length_iff.mp h
theorem settle_fix (at_ : List C) : ∀ (n : Nat) (l : List Nat), l.length < n → ∀ t ∈ settle at_ n l, borne at_ (settle at_ n l) t = true
  | 0, l, h => by omega
  | n + 1, l, h => by
    unfold settle
    simp only
    split
    · rename_i e
      exact filter_len_eq e
    · rename_i e
      have := List.length_filter_le (borne at_ l) l
      exact settle_fix at_ n _ (by omega)
theorem types_fix (at_ : List C) (ax : List Axiom) : ∀ t ∈ types at_ ax, borne at_ (types at_ ax) t = true := by
  refine settle_fix at_ _ _ ?_
  have := List.length_filter_le (keeps at_ ax) (List.range (2 ^ at_.length))
  rw [List.length_range] at this
  omega
theorem types_lt {at_ : List C} {ax : List Axiom} {t : Nat} (h : t ∈ types at_ ax) : t < 2 ^ at_.length ∧ keeps at_ ax t = true := by
  have := settle_sub at_ _ _ t h
  have := List.mem_filter.mp this
  exact ⟨List.mem_range.mp this.1, this.2⟩
/-- the model of the types -/
def canon (at_ : List C) (ax : List Axiom) : Mdl where
  D := { t : Nat // t ∈ types at_ ax }
  nm := fun a t => holds at_ t.1 (.name a) = true
  rl := fun r t u => fits at_ r t.1 u.1 = true
theorem canon_ev {at_ : List C} (G : Good at_) (ax : List Axiom) : ∀ (c : C), InA at_ c → ∀ t : (canon at_ ax).D, ((canon at_ ax).ev t c ↔ holds at_ t.1 c = true)
  | .top, _, t => by simp [Mdl.ev, holds]
  | .bot, _, t => by simp [Mdl.ev, holds]
  | .name a, _, t => Iff.rfl
  | .and c d, h, t => by
    have h1 := canon_ev G ax c (fun x hx => h x (by simp [C.atoms, hx])) t
    have h2 := canon_ev G ax d (fun x hx => h x (by simp [C.atoms, hx])) t
    simp only [Mdl.ev, holds, Bool.and_eq_true, h1, h2]
  | .or c d, h, t => by
    have h1 := canon_ev G ax c (fun x hx => h x (by simp [C.atoms, hx])) t
    have h2 := canon_ev G ax d (fun x hx => h x (by simp [C.atoms, hx])) t
    simp only [Mdl.ev, holds, Bool.or_eq_true, h1, h2]
  | .not c, h, t => by
    have h1 := canon_ev G ax c (fun x hx => h x (by simp [C.atoms, hx])) t
    simp only [Mdl.ev, holds, h1]
    simp
  | .some r c, h, t => by
    have hm : C.some r c ∈ at_ := h _ (by simp [C.atoms])
    have ih := fun u => canon_ev G ax c (fun x hx => h x (by simp [C.atoms, hx])) u
    constructor
    · rintro ⟨u, hr, hu⟩
      have hr : fits at_ r t.1 u.1 = true := hr
      have hu := (ih u).mp hu
      unfold fits at hr
      rw [List.all_eq_true] at hr
      have := hr _ hm
      simpa [hu] using this
    · intro hh
      have hb := types_fix at_ ax t.1 t.2
      unfold borne at hb
      rw [List.all_eq_true] at hb
      have hb : (!holds at_ t.1 (.some r c) || (types at_ ax).any fun u => fits at_ r t.1 u && holds at_ u c) = true := hb _ hm
      rw [hh] at hb
      have hb : ((types at_ ax).any fun u => fits at_ r t.1 u && holds at_ u c) = true := hb
      rw [List.any_eq_true] at hb
      obtain ⟨u, hu, q⟩ := hb
      rw [Bool.and_eq_true] at q
      exact ⟨⟨u, hu⟩, q.1, (ih ⟨u, hu⟩).mpr q.2⟩
  | .all r c, h, t => by
    have hm : C.all r c ∈ at_ := h _ (by simp [C.atoms])
    have ih := fun u => canon_ev G ax c (fun x hx => h x (by simp [C.atoms, hx])) u
    constructor
    · intro hall
      cases z : holds at_ t.1 (.all r c) with
      | true => rfl
      | false =>
        have hb := types_fix at_ ax t.1 t.2
        unfold borne at hb
        rw [List.all_eq_true] at hb
        have hb : (holds at_ t.1 (.all r c) || (types at_ ax).any fun u => fits at_ r t.1 u && !holds at_ u c) = true := hb _ hm
        rw [z] at hb
        have hb : ((types at_ ax).any fun u => fits at_ r t.1 u && !holds at_ u c) = true := hb
        rw [List.any_eq_true] at hb
        obtain ⟨u, hu, q⟩ := hb
        rw [Bool.and_eq_true] at q
        have := (ih ⟨u, hu⟩).mp (hall ⟨u, hu⟩ q.1)
        have q2 := q.2
        rw [this] at q2
        cases q2
    · intro hh u hr
      have hr : fits at_ r t.1 u.1 = true := hr
      unfold fits at hr
      rw [List.all_eq_true] at hr
      have := hr _ hm
      refine (ih u).mpr ?_
      simpa [hh] using this
theorem canon_ok {at_ : List C} (G : Good at_) {ax : List Axiom} (hax : ∀ a ∈ ax, InA at_ a.1 ∧ InA at_ a.2) : (canon at_ ax).ok ax := by
  intro a ha e h
  have h1 := (canon_ev G ax a.1 (hax a ha).1 e).mp h
  refine (canon_ev G ax a.2 (hax a ha).2 e).mpr ?_
  have := (types_lt e.2).2
  unfold keeps at this
  rw [List.all_eq_true] at this
  have := this a ha
  rw [h1] at this
  simpa using this
theorem sat_types {at_ : List C} (G : Good at_) {ax : List Axiom} (hax : ∀ a ∈ ax, InA at_ a.1 ∧ InA at_ a.2) {c : C} (hc : InA at_ c) : ((types at_ ax).any fun t => holds at_ t c) = true ↔ Sat ax c := by
  rw [List.any_eq_true]
  constructor
  · rintro ⟨t, ht, h⟩
    exact ⟨canon at_ ax, canon_ok G hax, ⟨t, ht⟩, (canon_ev G ax c hc ⟨t, ht⟩).mpr h⟩
  · rintro ⟨M, ok, e, h⟩
    exact ⟨_, ty_types G hax M ok e, (ty_holds M e c hc).mpr h⟩
/-! ### the atoms of a list of concepts are good -/
theorem atoms_trans : ∀ (c x : C), x ∈ c.atoms → ∀ y ∈ x.atoms, y ∈ c.atoms
  | .top, x, h => by simp [C.atoms] at h
  | .bot, x, h => by simp [C.atoms] at h
  | .name a, x, h => by
    have : x = .name a := by simpa [C.atoms] using h
    subst this
    exact fun y hy => hy
  | .and c d, x, h => by
    intro y hy
    rcases List.mem_append.mp (show x ∈ c.atoms ++ d.atoms from h) with h | h
    · exact List.mem_append.mpr (.inl (atoms_trans c x h y hy))
    · exact List.mem_append.mpr (.inr (atoms_trans d x h y hy))
  | .or c d, x, h => by
    intro y hy
    rcases List.mem_append.mp (show x ∈ c.atoms ++ d.atoms from h) with h | h
    · exact List.mem_append.mpr (.inl (atoms_trans c x h y hy))
    · exact List.mem_append.mpr (.inr (atoms_trans d x h y hy))
  | .not c, x, h => fun y hy => atoms_trans c x h y hy
  | .some r c, x, h => by
    intro y hy
    rcases List.mem_cons.mp (show x ∈ C.some r c :: c.atoms from h) with rfl | h
    · exact hy
    · exact List.mem_cons.mpr (.inr (atoms_trans c x h y hy))
  | .all r c, x, h => by
    intro y hy
    rcases List.mem_cons.mp (show x ∈ C.all r c :: c.atoms from h) with rfl | h
    · exact hy
    · exact List.mem_cons.mpr (.inr (atoms_trans c x h y hy))
def addC (m : List C) (c : C) : List C := if m.contains c = true then m else m ++ [c]
theorem distinct_eq (l : List C) : distinct l = l.foldl addC [] := rfl
theorem addC_nd {m : List C} {c : C} (h : m.Nodup) : (addC m c).Nodup := by
  unfold addC
  split
  · exact h
  · rename_i n
    rw [List.nodup_append]
    refine ⟨h, by simp, ?_⟩
    intro a ha b hb e
    have : b = c := by simpa using hb
    subst this
    subst e
    exact n (List.contains_iff_mem.mpr ha)
theorem addC_mem {m : List C} {c x : C} : x ∈ addC m c ↔ x ∈ m ∨ x = c := by
  unfold addC
  split
  · rename_i h
    constructor
    · exact .inl
    · rintro (h | rfl)
      · exact h
      · exact List.contains_iff_mem.mp h
  · simp
theorem foldl_addC_nd : ∀ (l m : List C), m.Nodup → (l.foldl addC m).Nodup
  | [], m, h => h
  | c :: r, m, h => foldl_addC_nd r _ (addC_nd h)
theorem foldl_addC_mem {x : C} : ∀ (l m : List C), x ∈ l.foldl addC m ↔ x ∈ m ∨ x ∈ l
  | [], m => by simp
  | c :: r, m => by
    rw [List.foldl_cons, foldl_addC_mem r, addC_mem, List.mem_cons]
    constructor
    · rintro ((h | h) | h)
      · exact .inl h
      · exact .inr (.inl h)
      · exact .inr (.inr h)
    · rintro (h | h | h)
      · exact .inl (.inl h)
      · exact .inl (.inr h)
      · exact .inr h
theorem atomsOf_mem {l : List C} {x : C} : x ∈ atomsOf l ↔ ∃ c ∈ l, x ∈ c.atoms := by
  unfold atomsOf
  rw [distinct_eq, foldl_addC_mem]
  simp [List.mem_flatMap]
theorem atomsOf_good (l : List C) : Good (atomsOf l) := by
  refine ⟨by unfold atomsOf; rw [distinct_eq]; exact foldl_addC_nd _ _ (by simp), fun r c h x hx => ?_, fun r c h x hx => ?_⟩
  · obtain ⟨d, hd, h⟩ := atomsOf_mem.mp h
    exact atomsOf_mem.mpr ⟨d, hd, atoms_trans d _ h x (List.mem_cons.mpr (.inr hx))⟩
  · obtain ⟨d, hd, h⟩ := atomsOf_mem.mp h
    exact atomsOf_mem.mpr ⟨d, hd, atoms_trans d _ h x (List.mem_cons.mpr (.inr hx))⟩
theorem atomsOf_in {l : List C} {c : C} (h : c ∈ l) : InA (atomsOf l) c := fun x hx => atomsOf_mem.mpr ⟨c, h, hx⟩
theorem can_sat (ax : List Axiom) (c : C) : can ax c = true ↔ Sat ax c := by
  unfold can
  refine sat_types (atomsOf_good _) (fun a ha => ⟨atomsOf_in ?_, atomsOf_in ?_⟩) (atomsOf_in ?_)
  · exact List.mem_append.mpr (.inl (List.mem_flatMap.mpr ⟨a, ha, by simp⟩))
  · exact List.mem_append.mpr (.inl (List.mem_flatMap.mpr ⟨a, ha, by simp⟩))
  · exact List.mem_append.mpr (.inr (by simp))
/-- **any good atoms will do** -/
theorem can_types {at_ : List C} (G : Good at_) {ax : List Axiom} (hax : ∀ a ∈ ax, InA at_ a.1 ∧ InA at_ a.2) {c : C} (hc : InA at_ c) : can ax c = (types at_ ax).any fun t => holds at_ t c := by
  rw [Bool.eq_iff_iff, can_sat, sat_types G hax hc]
end Ex

namespace Ex
open Oc Oc07
/-! ## sets of types as numbers -/
def bits : Nat → (Nat → Bool) → Nat
  | 0, _ => 0
  | n + 1, p => (if p n = true then 2 ^ n else 0) + bits n p
theorem bits_lt : ∀ (n : Nat) (p : Nat → Bool), bits n p < 2 ^ n
  | 0, _ => by simp [bits]
  | n + 1, p => by
    have := bits_lt n p
    simp only [bits, Nat.pow_succ]
    split <;> omega
theorem bits_testBit : ∀ (n : Nat) (p : Nat → Bool) (t : Nat), (bits n p).testBit t = (decide (t < n) && p t)
  | 0, _, t => by simp [bits]
  | n + 1, p, t => by
    have ih := bits_testBit n p t
    have hl := bits_lt n p
    simp only [bits]
    by_cases h : p n = true
    · rw [if_pos h]
      by_cases e : t = n
      · subst e
        rw [Nat.testBit_two_pow_add_eq, ih]
        simp [h]
      · by_cases l : t < n
        · rw [Nat.testBit_two_pow_add_gt l, ih]
          simp [l, Nat.lt_succ_of_lt l]
        · have : 2 ^ n + bits n p < 2 ^ t := by
            have : 2 ^ (n + 1) ≤ 2 ^ t := Nat.pow_le_pow_right (by decide) (by omega)
            rw [Nat.pow_succ] at this
            omega
          rw [Nat.testBit_lt_two_pow this]
          have : ¬ t < n + 1 := by omega
          simp [this]
    · rw [if_neg h, Nat.zero_add, ih]
      by_cases e : t = n
      · subst e
        simp [h]
      · have : (t < n + 1) ↔ t < n := by omega
        simp [this]
theorem bits_ext {n : Nat} {p : Nat → Bool} {x : Nat} (h : ∀ t, x.testBit t = (decide (t < n) && p t)) : x = bits n p := by
  apply Nat.eq_of_testBit_eq
  intro t
  rw [h, bits_testBit]
theorem bits_congr {n : Nat} {p q : Nat → Bool} (h : ∀ t, t < n → p t = q t) : bits n p = bits n q := by
  refine bits_ext fun t => ?_
  rw [bits_testBit]
  by_cases l : t < n
  · rw [h t l]
  · simp [l]
theorem bits_and {n : Nat} {p q : Nat → Bool} : bits n p &&& bits n q = bits n (fun t => p t && q t) := bits_ext fun t => by
  rw [Nat.testBit_and, bits_testBit, bits_testBit]
  by_cases l : t < n <;> simp [l]
theorem bits_or {n : Nat} {p q : Nat → Bool} : bits n p ||| bits n q = bits n (fun t => p t || q t) := bits_ext fun t => by
  rw [Nat.testBit_or, bits_testBit, bits_testBit]
  by_cases l : t < n <;> simp [l]
theorem bits_xor {n : Nat} {p q : Nat → Bool} : bits n p ^^^ bits n q = bits n (fun t => p t ^^ q t) := bits_ext fun t => by
  rw [Nat.testBit_xor, bits_testBit, bits_testBit]
  by_cases l : t < n <;> simp [l]
theorem bits_none {n : Nat} : bits n (fun _ => false) = 0 := (bits_ext fun t => by simp).symm
theorem bits_all {n : Nat} : bits n (fun _ => true) = 2 ^ n - 1 := (bits_ext fun t => by
  rw [Nat.testBit_two_pow_sub_one]
  simp).symm
theorem bits_one {n k : Nat} (h : k < n) : 2 ^ k = bits n (fun t => t == k) := bits_ext fun t => by
  rw [Nat.testBit_two_pow]
  by_cases e : k = t
  · subst e
    simp [h]
  · have : (t == k) = false := by simpa using fun z => e z.symm
    simp [e, this]
theorem bits_zero {n : Nat} {p : Nat → Bool} : bits n p = 0 ↔ ∀ t, t < n → p t = false := by
  constructor
  · intro h t l
    have := bits_testBit n p t
    rw [h] at this
    simpa [l] using this.symm
  · intro h
    rw [← bits_none (n := n)]
    exact bits_congr h
theorem bits_zero_any {n : Nat} {p : Nat → Bool} : decide (bits n p = 0) = !(List.range n).any p := by
  rw [Bool.eq_iff_iff]
  simp only [decide_eq_true_eq, bits_zero, Bool.not_eq_true', List.any_eq_false, List.mem_range]
  simp
/-! ## types by numbers -/
/-- the types that are there, as a test -/
def tm (at_ : List C) (ax : List Axiom) (t : Nat) : Bool := (types at_ ax).contains t
theorem any_types {at_ : List C} {ax : List Axiom} {p : Nat → Bool} : ((types at_ ax).any p) = (List.range (2 ^ at_.length)).any fun t => tm at_ ax t && p t := by
  rw [Bool.eq_iff_iff, List.any_eq_true, List.any_eq_true]
  constructor
  · rintro ⟨t, h, q⟩
    refine ⟨t, List.mem_range.mpr (types_lt h).1, ?_⟩
    have : tm at_ ax t = true := List.contains_iff_mem.mpr h
    rw [this, q]; rfl
  · rintro ⟨t, h, q⟩
    rw [Bool.and_eq_true] at q
    exact ⟨t, List.contains_iff_mem.mp q.1, q.2⟩
theorem holds_all {at_ : List C} {t : Nat} : ∀ l : List Rule, holds at_ t (all_ l) = keeps at_ l t
  | [] => rfl
  | a :: r => by
    have ih := holds_all (at_ := at_) (t := t) r
    show (holds at_ t (.or (.not a.1) a.2) && holds at_ t (all_ r)) = _
    rw [ih]
    rfl
theorem in_all {at_ : List C} : ∀ {l : List Rule}, (∀ a ∈ l, InA at_ a.1 ∧ InA at_ a.2) → InA at_ (all_ l)
  | [], _, x, h => by cases h
  | a :: r, h, x, hx => by
    have ih := in_all (at_ := at_) (l := r) fun b hb => h b (List.mem_cons.mpr (.inr hb))
    have hx : x ∈ (a.1.atoms ++ a.2.atoms) ++ (all_ r).atoms := hx
    rw [List.mem_append, List.mem_append] at hx
    rcases hx with (hx | hx) | hx
    · exact (h a (by simp)).1 x hx
    · exact (h a (by simp)).2 x hx
    · exact ih x hx
/-- what is asked of the atoms in hand -/
def InL (at_ : List C) (l : List (C × C)) : Prop := ∀ a ∈ l, InA at_ a.1 ∧ InA at_ a.2
theorem in_and {at_ : List C} {c d : C} (h : InA at_ c) (k : InA at_ d) : InA at_ (.and c d) := fun x hx => by
  rcases List.mem_append.mp (show x ∈ c.atoms ++ d.atoms from hx) with q | q
  · exact h x q
  · exact k x q
theorem in_not {at_ : List C} {c : C} (h : InA at_ c) : InA at_ (.not c) := h
theorem in_bot {at_ : List C} : InA at_ .bot := fun x h => by cases h
theorem under_bits {at_ : List C} (G : Good at_) {ax : List Axiom} (hax : InL at_ ax) {c d : C} (hc : InA at_ c) (hd : InA at_ d) :
    under ax c d = decide (bits (2 ^ at_.length) (fun t => tm at_ ax t && (holds at_ t c && !holds at_ t d)) = 0) := by
  unfold under
  rw [can_types G hax (in_and hc (in_not hd)), any_types, bits_zero_any]
  rfl
theorem strange_bits {at_ : List C} (G : Good at_) {ax : List Axiom} (hax : InL at_ ax) {l : List Rule} (hl : InL at_ l) {c : C} (hc : InA at_ c) :
    strange ax l c = decide (bits (2 ^ at_.length) (fun t => tm at_ ax t && (holds at_ t c && keeps at_ l t)) = 0) := by
  unfold strange
  rw [under_bits G hax (in_and hc (in_all hl)) in_bot]
  congr 1
  congr 1
  refine bits_congr fun t _ => ?_
  show (tm at_ ax t && (((holds at_ t c && holds at_ t (all_ l)) && !false))) = _
  rw [holds_all]
  simp
theorem normal_bits {at_ : List C} (G : Good at_) {ax : List Axiom} (hax : InL at_ ax) {l : List Rule} (hl : InL at_ l) {c d : C} (hc : InA at_ c) (hd : InA at_ d) :
    under ax (.and c (all_ l)) d = decide (bits (2 ^ at_.length) (fun t => ((tm at_ ax t && holds at_ t c) && keeps at_ l t) && !holds at_ t d) = 0) := by
  rw [under_bits G hax (in_and hc (in_all hl)) hd]
  congr 1
  congr 1
  refine bits_congr fun t _ => ?_
  show (tm at_ ax t && ((holds at_ t c && holds at_ t (all_ l)) && !holds at_ t d)) = _
  rw [holds_all]
  cases tm at_ ax t <;> cases holds at_ t c <;> cases keeps at_ l t <;> simp
/-! ## types that settle, as the program has it -/
theorem types_step (at_ : List C) : ∀ (n : Nat) (l : List Nat), l.Nodup → ∀ t, (settle at_ (n + 1) l).contains t = if (l.filter (borne at_ l)).length = l.length then l.contains t else (settle at_ n (l.filter (borne at_ l))).contains t := by
  intro n l _ t
  show (if _ then _ else _ : List Nat).contains t = _
  split <;> rfl
/-! ## ranks -/
theorem left_len (ax : List Axiom) (l : List Rule) : (left ax l).length ≤ l.length := List.length_filter_le _ _
theorem ranks_fuel (ax : List Axiom) : ∀ (n m : Nat) (l : List Rule), l.length ≤ n → l.length ≤ m → ranks ax n l = ranks ax m l
  | 0, m, l, h, _ => by
    have e : l = [] := List.eq_nil_of_length_eq_zero (by omega)
    subst e
    cases m with
    | zero => rfl
    | succ m => rfl
  | n + 1, 0, l, _, h => by
    have e : l = [] := List.eq_nil_of_length_eq_zero (by omega)
    subst e
    rfl
  | n + 1, m + 1, l, h1, h2 => by
    have := left_len ax l
    unfold ranks
    simp only
    split
    · rfl
    · rw [ranks_fuel ax n m (left ax l) (by omega) (by omega)]
/-- ranks, without fuel -/
def rk (ax : List Axiom) (l : List Rule) : List (List Rule) := ranks ax l.length l
theorem rk_stop {ax : List Axiom} {l : List Rule} (h : ¬ (left ax l).length < l.length) : rk ax l = [l] := by
  have := left_len ax l
  unfold rk
  cases e : l.length with
  | zero => rfl
  | succ n =>
    unfold ranks
    simp only
    rw [if_pos (by omega)]
theorem rk_go {ax : List Axiom} {l : List Rule} (h : (left ax l).length < l.length) : rk ax l = l :: rk ax (left ax l) := by
  unfold rk
  cases e : l.length with
  | zero => omega
  | succ n =>
    rw [show ranks ax (n + 1) l = if (left ax l).length = l.length then [l] else l :: ranks ax n (left ax l) from rfl, if_neg (by omega)]
    rw [ranks_fuel ax n (left ax l).length (left ax l) (by omega) (Nat.le_refl _)]
theorem rk_ne (ax : List Axiom) (l : List Rule) : rk ax l ≠ [] := by
  by_cases h : (left ax l).length < l.length
  · rw [rk_go h]; simp
  · rw [rk_stop h]; simp
theorem left_sub {ax : List Axiom} {l : List Rule} : ∀ x ∈ left ax l, x ∈ l := fun x h => (List.mem_filter.mp h).1
theorem left_sublist {ax : List Axiom} {l : List Rule} : (left ax l).Sublist l := List.filter_sublist
theorem rk_sub {ax : List Axiom} : ∀ (n : Nat) (l : List Rule), l.length ≤ n → ∀ m ∈ rk ax l, m.Sublist l
  | n, l, hn, m, hm => by
    by_cases h : (left ax l).length < l.length
    · rw [rk_go h] at hm
      rcases List.mem_cons.mp hm with rfl | hm
      · exact .refl _
      · match n with
        | 0 => omega
        | n + 1 => exact (rk_sub n (left ax l) (by omega) m hm).trans left_sublist
    · rw [rk_stop h] at hm
      have : m = l := by simpa using hm
      rw [this]
      exact List.Sublist.refl _
theorem rk_len {ax : List Axiom} : ∀ (n : Nat) (l : List Rule), l.length ≤ n → (rk ax l).length ≤ l.length + 1
  | n, l, hn => by
    by_cases h : (left ax l).length < l.length
    · rw [rk_go h, List.length_cons]
      match n with
      | 0 => omega
      | n + 1 =>
        have := rk_len (ax := ax) n (left ax l) (by omega)
        omega
    · rw [rk_stop h]
      simp
/-- none of the ranks ahead of the last is empty -/
theorem rk_filter {ax : List Axiom} : ∀ (n : Nat) (l : List Rule), l.length ≤ n → (rk ax l).getLast? = some [] → (rk ax l).filter (fun m => m != []) = (rk ax l).dropLast
  | n, l, hn, hl => by
    by_cases h : (left ax l).length < l.length
    · rw [rk_go h] at hl ⊢
      have hne := rk_ne ax (left ax l)
      match n with
      | 0 => omega
      | n + 1 =>
        have ih := rk_filter (ax := ax) n (left ax l) (by omega)
        obtain ⟨a, b, e⟩ : ∃ a b, rk ax (left ax l) = a :: b := by
          cases e : rk ax (left ax l) with
          | nil => exact absurd e hne
          | cons a b => exact ⟨a, b, rfl⟩
        rw [e] at hl ih ⊢
        rw [List.getLast?_cons_cons] at hl
        have hl' : (l != []) = true := by
          cases l with
          | nil => simp at h
          | cons x y => rfl
        rw [List.filter_cons, if_pos hl', ih hl]
        rfl
    · rw [rk_stop h] at hl ⊢
      have : l = [] := by simpa using hl
      subst this
      rfl
def botAx (m : List Rule) : List Axiom := m.map fun x => (x.1, C.bot)
/-- the rules that are taken out and again computed -/
def lastOf (ax : List Axiom) (l : List Rule) : List Rule := ((rk ax l).getLast?).getD []
theorem lastOf_sub (ax : List Axiom) (l : List Rule) : (lastOf ax l).Sublist l := by
  unfold lastOf
  cases e : (rk ax l).getLast? with
  | none => simp
  | some m => exact rk_sub l.length l (Nat.le_refl _) m (List.mem_of_getLast? e)
def outOf (m l : List Rule) : List Rule := l.filter fun x => !m.contains x
theorem outOf_len {m l : List Rule} (hs : m.Sublist l) (hm : m ≠ []) : (outOf m l).length < l.length := by
  have h1 : (outOf m l).length ≤ l.length := List.length_filter_le _ _
  rcases Nat.lt_or_ge (outOf m l).length l.length with h | h
  · exact h
  · exfalso
    have e : (outOf m l).length = l.length := by omega
    have := filter_len_eq e
    obtain ⟨x, hx⟩ := List.exists_mem_of_ne_nil m hm
    have := this x (hs.subset hx)
    simp [hx] at this
theorem ranked_stop {n : Nat} {ax : List Axiom} {l : List Rule} (h : lastOf ax l = []) : ranked n ax l = (ax, rk ax l) := by
  cases n with
  | zero => rfl
  | succ n =>
    unfold ranked
    simp only
    change (match (rk ax l).getLast? with
      | none => (ax, rk ax l)
      | some m => if m = [] then (ax, rk ax l) else _) = _
    unfold lastOf at h
    cases e : (rk ax l).getLast? with
    | none => rfl
    | some m =>
      rw [e] at h
      have h : m = [] := h
      simp only
      rw [if_pos h]
theorem ranked_go {n : Nat} {ax : List Axiom} {l : List Rule} (h : lastOf ax l ≠ []) : ranked (n + 1) ax l = ranked n (ax ++ botAx (lastOf ax l)) (outOf (lastOf ax l) l) := by
  show (match (rk ax l).getLast? with
      | none => (ax, rk ax l)
      | some m => if m = [] then (ax, rk ax l) else ranked n (ax ++ m.map fun (x : Rule) => (x.1, C.bot)) (l.filter fun x => !m.contains x)) = _
  unfold lastOf at h ⊢
  cases e : (rk ax l).getLast? with
  | none =>
    rw [e] at h
    exact absurd rfl h
  | some m =>
    rw [e] at h
    have h : m ≠ [] := h
    simp only
    rw [if_neg h]
    rfl
/-- the state of the repetition: from (ax, l) the book is the given one -/
structure Toward (bk : List Axiom × List (List Rule)) (ax : List Axiom) (l : List Rule) : Prop where
  is : ∃ n, l.length < n ∧ ranked n ax l = bk
theorem toward_start (ax : List Axiom) (l : List Rule) : Toward (ranked (l.length + 1) ax l) ax l := ⟨⟨_, by omega, rfl⟩⟩
theorem Toward.go {bk : List Axiom × List (List Rule)} {ax : List Axiom} {l : List Rule} (T : Toward bk ax l) (h : lastOf ax l ≠ []) :
    Toward bk (ax ++ botAx (lastOf ax l)) (outOf (lastOf ax l) l) ∧ (outOf (lastOf ax l) l).length < l.length := by
  obtain ⟨n, hn, e⟩ := T.is
  have hl := outOf_len (lastOf_sub ax l) h
  match n with
  | 0 => omega
  | n + 1 =>
    rw [ranked_go h] at e
    exact ⟨⟨⟨n, by omega, e⟩⟩, hl⟩
theorem Toward.stop {bk : List Axiom × List (List Rule)} {ax : List Axiom} {l : List Rule} (T : Toward bk ax l) (h : lastOf ax l = []) : bk = (ax, rk ax l) := by
  obtain ⟨n, hn, e⟩ := T.is
  rw [← e, ranked_stop h]
theorem rk_last {ax : List Axiom} {l : List Rule} (h : lastOf ax l = []) : (rk ax l).getLast? = some [] := by
  unfold lastOf at h
  cases e : (rk ax l).getLast? with
  | none => exact absurd (List.getLast?_eq_none_iff.mp e) (rk_ne ax l)
  | some m =>
    rw [e] at h
    have h : m = [] := h
    rw [h]
theorem book_of {ax0 : List Axiom} {l0 : List Rule} {ax : List Axiom} {l : List Rule} (T : Toward (ranked (l0.length + 1) ax0 l0) ax l) (h : lastOf ax l = []) : book ax0 l0 = (ax, (rk ax l).dropLast) := by
  unfold book
  simp only
  rw [T.stop h]
  simp only
  rw [rk_filter l.length l (Nat.le_refl _) (rk_last h)]
end Ex

namespace Ex
open Oc Oc07
/-! ## concepts as numbers -/
def enc : C → List Nat
  | .top => [0]
  | .bot => [1]
  | .name a => [2, a]
  | .and c d => 3 :: (enc c ++ enc d)
  | .or c d => 4 :: (enc c ++ enc d)
  | .not c => 5 :: enc c
  | .some r c => 6 :: r :: enc c
  | .all r c => 7 :: r :: enc c
def wf : C → Prop
  | .top => True
  | .bot => True
  | .name a => a < 4
  | .and c d => wf c ∧ wf d
  | .or c d => wf c ∧ wf d
  | .not c => wf c
  | .some r c => r < 2 ∧ wf c
  | .all r c => r < 2 ∧ wf c
theorem enc_pos : ∀ c : C, 0 < (enc c).length := by
  intro c
  cases c <;> simp [enc]
theorem enc_lt8 : ∀ (c : C), wf c → ∀ x ∈ enc c, x < 8
  | .top, _, x, h => by have : x = 0 := by simpa [enc] using h
                        omega
  | .bot, _, x, h => by have : x = 1 := by simpa [enc] using h
                        omega
  | .name a, w, x, h => by
    have w : a < 4 := w
    have h : x = 2 ∨ x = a := by simpa [enc] using h
    omega
  | .and c d, w, x, h => by
    have h : x = 3 ∨ x ∈ enc c ∨ x ∈ enc d := by simpa [enc] using h
    rcases h with h | h | h
    · omega
    · exact enc_lt8 c w.1 x h
    · exact enc_lt8 d w.2 x h
  | .or c d, w, x, h => by
    have h : x = 4 ∨ x ∈ enc c ∨ x ∈ enc d := by simpa [enc] using h
    rcases h with h | h | h
    · omega
    · exact enc_lt8 c w.1 x h
    · exact enc_lt8 d w.2 x h
  | .not c, w, x, h => by
    have h : x = 5 ∨ x ∈ enc c := by simpa [enc] using h
    rcases h with h | h
    · omega
    · exact enc_lt8 c w x h
  | .some r c, w, x, h => by
    have w1 : r < 2 := w.1
    have h : x = 6 ∨ x = r ∨ x ∈ enc c := by simpa [enc] using h
    rcases h with h | h | h
    · omega
    · omega
    · exact enc_lt8 c w.2 x h
  | .all r c, w, x, h => by
    have w1 : r < 2 := w.1
    have h : x = 7 ∨ x = r ∨ x ∈ enc c := by simpa [enc] using h
    rcases h with h | h | h
    · omega
    · omega
    · exact enc_lt8 c w.2 x h
/-- how many parts a form has, how many names or roles it chooses among -/
def parts (h : Nat) : Nat := [0, 0, 0, 2, 2, 1, 1, 1].getD h 0
def choices (h : Nat) : Nat := [0, 0, 4, 0, 0, 0, 2, 2].getD h 0
def hlen (h : Nat) : Nat := if 0 < choices h then 2 else 1
/-- whether a head stands at the list's beginning -/
def headOk : List Nat → Bool
  | [] => false
  | h :: r => decide (h < 8) && (decide (choices h = 0) || match r with
    | [] => false
    | a :: _ => decide (a < choices h))
/-- what is left behind so many concepts: the first number only sees to an end -/
def skip : Nat → Nat → List Nat → Option (List Nat)
  | _, 0, l => some l
  | 0, _ + 1, _ => none
  | f + 1, m + 1, l => if headOk l = true then skip f (m + parts (l.headD 0)) (l.drop (hlen (l.headD 0))) else none
theorem read_mono_len : ∀ (n : Nat) (l : List Nat) (c : C) (r : List Nat), read n l = some (c, r) → wf c ∧ l = enc c ++ r
  | 0, l, c, r, h => by exact absurd h (by simp [Oc.read])
  | n + 1, l, c, r, h => by
    unfold Oc.read at h
    split at h
    · cases h; exact ⟨trivial, rfl⟩
    · cases h; exact ⟨trivial, rfl⟩
    · split at h
      · cases h
        rename_i q
        exact ⟨q, rfl⟩
      · cases h
    · split at h
      · cases h
      · rename_i r0 x e
        obtain ⟨c1, r1⟩ := x
        obtain ⟨w1, e1⟩ := read_mono_len n _ _ _ e
        cases e2 : read n r1 with
        | none =>
          simp only [e2] at h
          cases h
        | some y =>
          obtain ⟨c2, r2⟩ := y
          obtain ⟨w2, e3⟩ := read_mono_len n _ _ _ e2
          simp only [e2] at h
          cases h
          refine ⟨⟨w1, w2⟩, ?_⟩
          rw [e1, e3]
          simp [enc]
    · split at h
      · cases h
      · rename_i r0 x e
        obtain ⟨c1, r1⟩ := x
        obtain ⟨w1, e1⟩ := read_mono_len n _ _ _ e
        cases e2 : read n r1 with
        | none =>
          simp only [e2] at h
          cases h
        | some y =>
          obtain ⟨c2, r2⟩ := y
          obtain ⟨w2, e3⟩ := read_mono_len n _ _ _ e2
          simp only [e2] at h
          cases h
          refine ⟨⟨w1, w2⟩, ?_⟩
          rw [e1, e3]
          simp [enc]
    · rename_i r0
      cases e2 : read n r0 with
      | none =>
        simp only [e2] at h
        cases h
      | some y =>
        obtain ⟨c2, r2⟩ := y
        obtain ⟨w2, e3⟩ := read_mono_len n _ _ _ e2
        simp only [e2] at h
        cases h
        exact ⟨w2, by rw [e3]; simp [enc]⟩
    · rename_i k r0
      split at h
      · rename_i hk
        cases e2 : read n r0 with
        | none =>
          simp only [e2] at h
          cases h
        | some y =>
          obtain ⟨c2, r2⟩ := y
          obtain ⟨w2, e3⟩ := read_mono_len n _ _ _ e2
          simp only [e2] at h
          cases h
          exact ⟨⟨hk, w2⟩, by rw [e3]; simp [enc]⟩
      · cases h
    · rename_i k r0
      split at h
      · rename_i hk
        cases e2 : read n r0 with
        | none =>
          simp only [e2] at h
          cases h
        | some y =>
          obtain ⟨c2, r2⟩ := y
          obtain ⟨w2, e3⟩ := read_mono_len n _ _ _ e2
          simp only [e2] at h
          cases h
          exact ⟨⟨hk, w2⟩, by rw [e3]; simp [enc]⟩
      · cases h
    · cases h
/-- reading back -/
theorem read_enc : ∀ (c : C), wf c → ∀ (n : Nat) (r : List Nat), (enc c).length ≤ n → read n (enc c ++ r) = some (c, r)
  | .top, w, n, r, h => by
    match n with
    | 0 => simp [enc] at h
    | n + 1 => rfl
  | .bot, w, n, r, h => by
    match n with
    | 0 => simp [enc] at h
    | n + 1 => rfl
  | .name a, w, n, r, h => by
    match n with
    | 0 => simp [enc] at h
    | n + 1 =>
      have w : a < 4 := w
      show (if a < NAMES then some (C.name a, r) else none) = _
      rw [if_pos (show a < NAMES from w)]
  | .and c d, w, n, r, h => by
    match n with
    | 0 => simp [enc] at h
    | n + 1 =>
      have h : (enc c).length + (enc d).length ≤ n := by simpa [enc] using h
      have e1 := read_enc c w.1 n (enc d ++ r) (by omega)
      have e2 := read_enc d w.2 n r (by omega)
      show (match Oc.read n ((enc c ++ enc d) ++ r) with
        | none => none
        | some x => (Oc.read n x.2).map fun (y : C × List Nat) => (C.and x.1 y.1, y.2)) = _
      rw [List.append_assoc, e1]
      simp only
      rw [e2]
      rfl
  | .or c d, w, n, r, h => by
    match n with
    | 0 => simp [enc] at h
    | n + 1 =>
      have h : (enc c).length + (enc d).length ≤ n := by simpa [enc] using h
      have e1 := read_enc c w.1 n (enc d ++ r) (by omega)
      have e2 := read_enc d w.2 n r (by omega)
      show (match Oc.read n ((enc c ++ enc d) ++ r) with
        | none => none
        | some x => (Oc.read n x.2).map fun (y : C × List Nat) => (C.or x.1 y.1, y.2)) = _
      rw [List.append_assoc, e1]
      simp only
      rw [e2]
      rfl
  | .not c, w, n, r, h => by
    match n with
    | 0 => simp [enc] at h
    | n + 1 =>
      have h : (enc c).length ≤ n := by simpa [enc] using h
      have e1 := read_enc c w n r (by omega)
      show ((read n (enc c ++ r)).map fun x => (C.not x.1, x.2)) = _
      rw [e1]
      rfl
  | .some k c, w, n, r, h => by
    match n with
    | 0 => simp [enc] at h
    | n + 1 =>
      have h : (enc c).length + 1 ≤ n := by simpa [enc] using h
      have e1 := read_enc c w.2 n r (by omega)
      show (if k < ROLES then (read n (enc c ++ r)).map fun x => (C.some k x.1, x.2) else none) = _
      rw [if_pos (show k < ROLES from w.1), e1]
      rfl
  | .all k c, w, n, r, h => by
    match n with
    | 0 => simp [enc] at h
    | n + 1 =>
      have h : (enc c).length + 1 ≤ n := by simpa [enc] using h
      have e1 := read_enc c w.2 n r (by omega)
      show (if k < ROLES then (read n (enc c ++ r)).map fun x => (C.all k x.1, x.2) else none) = _
      rw [if_pos (show k < ROLES from w.1), e1]
      rfl
/-- one head is taken: what is missing then -/
def stepOk (l : List Nat) : Option (Nat × List Nat) := if headOk l = true then some (parts (l.headD 0), l.drop (hlen (l.headD 0))) else none
/-- concepts one behind another -/
def encs (cs : List C) : List Nat := cs.flatMap enc
theorem skip_encs : ∀ (f m : Nat) (l r : List Nat), skip f m l = some r → ∃ cs : List C, cs.length = m ∧ (∀ c ∈ cs, wf c) ∧ l = encs cs ++ r
  | _, 0, l, r, h => by
    cases h' : skip _ 0 l with
    | none => rw [h] at h'; cases h'
    | some r' =>
      have : some l = some r := by
        rw [← h]
        unfold skip
        rfl
      cases this
      exact ⟨[], rfl, (fun _ z => by cases z), rfl⟩
  | 0, m + 1, l, r, h => by simp [skip] at h
  | f + 1, m + 1, l, r, h => by
    unfold skip at h
    by_cases q : headOk l = true
    · rw [if_pos q] at h
      obtain ⟨cs, e1, e2, e3⟩ := skip_encs f _ _ _ h
      match l, q with
      | h0 :: t, q =>
        simp only [List.headD_cons] at e1 e3
        simp only [headOk, Bool.and_eq_true, decide_eq_true_eq] at q
        obtain ⟨q1, q2⟩ := q
        have q1' : h0 = 0 ∨ h0 = 1 ∨ h0 = 2 ∨ h0 = 3 ∨ h0 = 4 ∨ h0 = 5 ∨ h0 = 6 ∨ h0 = 7 := by omega
        rcases q1' with rfl | rfl | rfl | rfl | rfl | rfl | rfl | rfl
        · refine ⟨.top :: cs, by simpa [parts] using e1, fun c hc => ?_, ?_⟩
          · rcases List.mem_cons.mp hc with rfl | hc
            · trivial
            · exact e2 c hc
          · have e3 : t = encs cs ++ r := e3
            rw [e3]; rfl
        · refine ⟨.bot :: cs, by simpa [parts] using e1, fun c hc => ?_, ?_⟩
          · rcases List.mem_cons.mp hc with rfl | hc
            · trivial
            · exact e2 c hc
          · have e3 : t = encs cs ++ r := e3
            rw [e3]; rfl
        · match t, q2 with
          | a :: t, q2 =>
            have q2 : a < 4 := by simpa [choices] using q2
            refine ⟨.name a :: cs, by simpa [parts] using e1, fun c hc => ?_, ?_⟩
            · rcases List.mem_cons.mp hc with rfl | hc
              · exact q2
              · exact e2 c hc
            · have e3 : t = encs cs ++ r := e3
              rw [e3]; rfl
        · have e3 : t = encs cs ++ r := e3
          have e1 : cs.length = m + 2 := e1
          match cs, e1 with
          | c :: d :: cs, e1 =>
            refine ⟨.and c d :: cs, by simpa using e1, fun x hx => ?_, ?_⟩
            · rcases List.mem_cons.mp hx with rfl | hx
              · exact ⟨e2 c (by simp), e2 d (by simp)⟩
              · exact e2 x (by simp [hx])
            · rw [e3]; simp [encs, enc]
        · have e3 : t = encs cs ++ r := e3
          have e1 : cs.length = m + 2 := e1
          match cs, e1 with
          | c :: d :: cs, e1 =>
            refine ⟨.or c d :: cs, by simpa using e1, fun x hx => ?_, ?_⟩
            · rcases List.mem_cons.mp hx with rfl | hx
              · exact ⟨e2 c (by simp), e2 d (by simp)⟩
              · exact e2 x (by simp [hx])
            · rw [e3]; simp [encs, enc]
        · have e3 : t = encs cs ++ r := e3
          have e1 : cs.length = m + 1 := e1
          match cs, e1 with
          | c :: cs, e1 =>
            refine ⟨.not c :: cs, by simpa using e1, fun x hx => ?_, ?_⟩
            · rcases List.mem_cons.mp hx with rfl | hx
              · exact e2 c (by simp)
              · exact e2 x (by simp [hx])
            · rw [e3]; simp [encs, enc]
        · match t, q2 with
          | a :: t, q2 =>
            have q2 : a < 2 := by simpa [choices] using q2
            have e3 : t = encs cs ++ r := e3
            have e1 : cs.length = m + 1 := e1
            match cs, e1 with
            | c :: cs, e1 =>
              refine ⟨.some a c :: cs, by simpa using e1, fun x hx => ?_, ?_⟩
              · rcases List.mem_cons.mp hx with rfl | hx
                · exact ⟨q2, e2 c (by simp)⟩
                · exact e2 x (by simp [hx])
              · rw [e3]; simp [encs, enc]
        · match t, q2 with
          | a :: t, q2 =>
            have q2 : a < 2 := by simpa [choices] using q2
            have e3 : t = encs cs ++ r := e3
            have e1 : cs.length = m + 1 := e1
            match cs, e1 with
            | c :: cs, e1 =>
              refine ⟨.all a c :: cs, by simpa using e1, fun x hx => ?_, ?_⟩
              · rcases List.mem_cons.mp hx with rfl | hx
                · exact ⟨q2, e2 c (by simp)⟩
                · exact e2 x (by simp [hx])
              · rw [e3]; simp [encs, enc]
    · rw [if_neg q] at h
      cases h
theorem skip_zero (f : Nat) (l : List Nat) : skip f 0 l = some l := by
  unfold skip
  rfl
/-- one step of skip over a well formed concept -/
theorem skip_enc : ∀ (c : C), wf c → ∀ (f m : Nat) (r : List Nat), (enc c).length + r.length < f → ∃ g, r.length < g ∧ skip f (m + 1) (enc c ++ r) = skip g m r
  | .top, w, f, m, r, h => by
    match f with
    | 0 => omega
    | f + 1 => exact ⟨f, by simp [enc] at h; omega, rfl⟩
  | .bot, w, f, m, r, h => by
    match f with
    | 0 => omega
    | f + 1 => exact ⟨f, by simp [enc] at h; omega, rfl⟩
  | .name a, w, f, m, r, h => by
    match f with
    | 0 => omega
    | f + 1 =>
      refine ⟨f, by simp [enc] at h; omega, ?_⟩
      have w : a < 4 := w
      have q : headOk (2 :: a :: r) = true := by simp [headOk, choices, w]
      show (if headOk (2 :: a :: r) = true then _ else _) = _
      rw [if_pos q]
      rfl
  | .and c d, w, f, m, r, h => by
    match f with
    | 0 => omega
    | f + 1 =>
      have h : (enc c).length + (enc d).length + 1 + r.length < f + 1 := by simpa [enc] using h
      obtain ⟨g, hg, e1⟩ := skip_enc c w.1 f (m + 1) (enc d ++ r) (by simp; omega)
      obtain ⟨g', hg', e2⟩ := skip_enc d w.2 g m r (by simpa using hg)
      refine ⟨g', hg', ?_⟩
      show (if headOk (3 :: ((enc c ++ enc d) ++ r)) = true then skip f (m + 2) ((enc c ++ enc d) ++ r) else _) = _
      rw [if_pos (by rfl), List.append_assoc, e1, e2]
  | .or c d, w, f, m, r, h => by
    match f with
    | 0 => omega
    | f + 1 =>
      have h : (enc c).length + (enc d).length + 1 + r.length < f + 1 := by simpa [enc] using h
      obtain ⟨g, hg, e1⟩ := skip_enc c w.1 f (m + 1) (enc d ++ r) (by simp; omega)
      obtain ⟨g', hg', e2⟩ := skip_enc d w.2 g m r (by simpa using hg)
      refine ⟨g', hg', ?_⟩
      show (if headOk (4 :: ((enc c ++ enc d) ++ r)) = true then skip f (m + 2) ((enc c ++ enc d) ++ r) else _) = _
      rw [if_pos (by rfl), List.append_assoc, e1, e2]
  | .not c, w, f, m, r, h => by
    match f with
    | 0 => omega
    | f + 1 =>
      have h : (enc c).length + 1 + r.length < f + 1 := by simpa [enc] using h
      obtain ⟨g, hg, e1⟩ := skip_enc c w f m r (by omega)
      refine ⟨g, hg, ?_⟩
      show (if headOk (5 :: (enc c ++ r)) = true then skip f (m + 1) (enc c ++ r) else _) = _
      rw [if_pos (by rfl), e1]
  | .some k c, w, f, m, r, h => by
    match f with
    | 0 => omega
    | f + 1 =>
      have h : (enc c).length + 2 + r.length < f + 1 := by simpa [enc] using h
      obtain ⟨g, hg, e1⟩ := skip_enc c w.2 f m r (by omega)
      refine ⟨g, hg, ?_⟩
      have w : k < 2 := w.1
      have q : headOk (6 :: k :: (enc c ++ r)) = true := by simp [headOk, choices, w]
      show (if headOk (6 :: k :: (enc c ++ r)) = true then skip f (m + 1) (enc c ++ r) else _) = _
      rw [if_pos q, e1]
  | .all k c, w, f, m, r, h => by
    match f with
    | 0 => omega
    | f + 1 =>
      have h : (enc c).length + 2 + r.length < f + 1 := by simpa [enc] using h
      obtain ⟨g, hg, e1⟩ := skip_enc c w.2 f m r (by omega)
      refine ⟨g, hg, ?_⟩
      have w : k < 2 := w.1
      have q : headOk (7 :: k :: (enc c ++ r)) = true := by simp [headOk, choices, w]
      show (if headOk (7 :: k :: (enc c ++ r)) = true then skip f (m + 1) (enc c ++ r) else _) = _
      rw [if_pos q, e1]
/-- where the concept that begins a list ends: what is left -/
def rest1 (l : List Nat) : Option (List Nat) := skip (l.length + 1) 1 l
theorem rest1_enc {c : C} (w : wf c) (r : List Nat) : rest1 (enc c ++ r) = some r := by
  unfold rest1
  obtain ⟨g, hg, e⟩ := skip_enc c w ((enc c ++ r).length + 1) 0 r (by simp)
  rw [e, skip_zero]
theorem read_rest {l : List Nat} : ∀ {n : Nat}, l.length < n → (match read n l with
    | some (c, r) => wf c ∧ l = enc c ++ r ∧ rest1 l = some r
    | none => rest1 l = none) := by
  intro n hn
  cases e : read n l with
  | some x =>
    obtain ⟨c, r⟩ := x
    obtain ⟨w, e1⟩ := read_mono_len n l c r e
    refine ⟨w, e1, ?_⟩
    rw [e1]
    exact rest1_enc w r
  | none =>
    show rest1 l = none
    cases q : rest1 l with
    | none => rfl
    | some r =>
      obtain ⟨cs, h1, h2, h3⟩ := skip_encs _ _ _ _ q
      match cs, h1 with
      | [c], _ =>
        have h3 : l = enc c ++ r := by simpa [encs] using h3
        rw [h3, read_enc c (h2 c (by simp)) n r (by rw [h3] at hn; simp at hn; omega)] at e
        cases e
/-- two concepts -/
theorem two_some {l : List Nat} {a : C × C} (h : two l = some a) : wf a.1 ∧ wf a.2 ∧ l = enc a.1 ++ enc a.2 := by
  unfold two at h
  have q := read_rest (l := l) (n := l.length + 1) (by omega)
  cases e : read (l.length + 1) l with
  | none => rw [e] at h; cases h
  | some x =>
    obtain ⟨c, r⟩ := x
    rw [e] at h q
    obtain ⟨w, e1, _⟩ := q
    simp only at h
    cases e2 : concept r with
    | none => rw [e2] at h; cases h
    | some d =>
      rw [e2] at h
      cases h
      unfold concept at e2
      cases e3 : read (r.length + 1) r with
      | none => rw [e3] at e2; cases e2
      | some y =>
        obtain ⟨d', r'⟩ := y
        rw [e3] at e2
        cases r' with
        | nil =>
          simp only at e2
          cases e2
          obtain ⟨w2, e4⟩ := read_mono_len _ _ _ _ e3
          exact ⟨w, w2, by rw [e1, e4]; simp⟩
        | cons z zs => cases e2
theorem two_enc {a b : C} (wa : wf a) (wb : wf b) : two (enc a ++ enc b) = some (a, b) := by
  unfold two
  rw [read_enc a wa _ _ (by simp; omega)]
  simp only
  unfold concept
  have := read_enc b wb ((enc b).length + 1) [] (by omega)
  rw [List.append_nil] at this
  rw [this]
  rfl
theorem concept_some {l : List Nat} {a : C} (h : concept l = some a) : wf a ∧ l = enc a := by
  unfold concept at h
  cases e3 : read (l.length + 1) l with
  | none => rw [e3] at h; cases h
  | some y =>
    obtain ⟨d', r'⟩ := y
    rw [e3] at h
    cases r' with
    | nil =>
      simp only at h
      cases h
      obtain ⟨w2, e4⟩ := read_mono_len _ _ _ _ e3
      exact ⟨w2, by rw [e4]; simp⟩
    | cons z zs => cases h
theorem concept_enc {a : C} (wa : wf a) : concept (enc a) = some a := by
  unfold concept
  have := read_enc a wa ((enc a).length + 1) [] (by omega)
  rw [List.append_nil] at this
  rw [this]
/-- as the program finds it: the first one's end, then the second one's -/
theorem two_none1 {l : List Nat} (h : rest1 l = none) : two l = none := by
  cases e : two l with
  | none => rfl
  | some a =>
    obtain ⟨w1, w2, e1⟩ := two_some e
    rw [e1, rest1_enc w1] at h
    cases h
theorem rest1_some {l r : List Nat} (h : rest1 l = some r) : ∃ c, wf c ∧ l = enc c ++ r := by
  obtain ⟨cs, h1, h2, h3⟩ := skip_encs _ _ _ _ h
  match cs, h1 with
  | [c], _ => exact ⟨c, h2 c (by simp), by simpa [encs] using h3⟩
theorem two_none2 {l r : List Nat} (h : rest1 l = some r) (k : rest1 r ≠ some []) : two l = none := by
  cases e : two l with
  | none => rfl
  | some a =>
    obtain ⟨w1, w2, e1⟩ := two_some e
    rw [e1, rest1_enc w1] at h
    cases h
    have := rest1_enc w2 []
    rw [List.append_nil] at this
    exact absurd this k
theorem two_yes {l r : List Nat} (h : rest1 l = some r) (k : rest1 r = some []) : ∃ a, two l = some a ∧ wf a.1 ∧ wf a.2 ∧ l = enc a.1 ++ r ∧ r = enc a.2 := by
  obtain ⟨c, w, e⟩ := rest1_some h
  obtain ⟨d, w2, e2⟩ := rest1_some k
  rw [List.append_nil] at e2
  refine ⟨(c, d), ?_, w, w2, e, e2⟩
  rw [e, e2]
  exact two_enc w w2
theorem enc_inj {c d : C} (wc : wf c) (wd : wf d) (h : enc c = enc d) : c = d := by
  have h1 := concept_enc wc
  have h2 := concept_enc wd
  rw [h, h2] at h1
  exact (Option.some.inj h1).symm
end Ex

namespace Ex
open Oc Oc07
/-! ## the concepts within a concept, with their places -/
def subsAt : Nat → C → List (Nat × C)
  | o, .top => [(o, .top)]
  | o, .bot => [(o, .bot)]
  | o, .name a => [(o, .name a)]
  | o, .and c d => (o, .and c d) :: (subsAt (o + 1) c ++ subsAt (o + 1 + (enc c).length) d)
  | o, .or c d => (o, .or c d) :: (subsAt (o + 1) c ++ subsAt (o + 1 + (enc c).length) d)
  | o, .not c => (o, .not c) :: subsAt (o + 1) c
  | o, .some r c => (o, .some r c) :: subsAt (o + 2) c
  | o, .all r c => (o, .all r c) :: subsAt (o + 2) c
theorem subs_at : ∀ (c : C) (o p : Nat) (d : C), (p, d) ∈ subsAt o c → wf c → wf d ∧ ∃ pre post, enc c = pre ++ (enc d ++ post) ∧ o + pre.length = p
  | .top, o, p, d, h, w => by
    have h : p = o ∧ d = .top := by simpa [subsAt] using h
    obtain ⟨rfl, rfl⟩ := h
    exact ⟨w, [], [], by simp, rfl⟩
  | .bot, o, p, d, h, w => by
    have h : p = o ∧ d = .bot := by simpa [subsAt] using h
    obtain ⟨rfl, rfl⟩ := h
    exact ⟨w, [], [], by simp, rfl⟩
  | .name a, o, p, d, h, w => by
    have h : p = o ∧ d = .name a := by simpa [subsAt] using h
    obtain ⟨rfl, rfl⟩ := h
    exact ⟨w, [], [], by simp, rfl⟩
  | .and c e, o, p, d, h, w => by
    rcases List.mem_cons.mp (show (p, d) ∈ (o, C.and c e) :: (subsAt (o + 1) c ++ subsAt (o + 1 + (enc c).length) e) from h) with h | h
    · cases h
      exact ⟨w, [], [], by simp, rfl⟩
    · rcases List.mem_append.mp h with h | h
      · obtain ⟨wd, pre, post, e1, e2⟩ := subs_at c _ p d h w.1
        exact ⟨wd, 3 :: pre, post ++ enc e, by simp [enc, e1], by simp; omega⟩
      · obtain ⟨wd, pre, post, e1, e2⟩ := subs_at e _ p d h w.2
        exact ⟨wd, 3 :: (enc c ++ pre), post, by simp [enc, e1], by simp; omega⟩
  | .or c e, o, p, d, h, w => by
    rcases List.mem_cons.mp (show (p, d) ∈ (o, C.or c e) :: (subsAt (o + 1) c ++ subsAt (o + 1 + (enc c).length) e) from h) with h | h
    · cases h
      exact ⟨w, [], [], by simp, rfl⟩
    · rcases List.mem_append.mp h with h | h
      · obtain ⟨wd, pre, post, e1, e2⟩ := subs_at c _ p d h w.1
        exact ⟨wd, 4 :: pre, post ++ enc e, by simp [enc, e1], by simp; omega⟩
      · obtain ⟨wd, pre, post, e1, e2⟩ := subs_at e _ p d h w.2
        exact ⟨wd, 4 :: (enc c ++ pre), post, by simp [enc, e1], by simp; omega⟩
  | .not c, o, p, d, h, w => by
    rcases List.mem_cons.mp (show (p, d) ∈ (o, C.not c) :: subsAt (o + 1) c from h) with h | h
    · cases h
      exact ⟨w, [], [], by simp, rfl⟩
    · obtain ⟨wd, pre, post, e1, e2⟩ := subs_at c _ p d h w
      exact ⟨wd, 5 :: pre, post, by simp [enc, e1], by simp; omega⟩
  | .some r c, o, p, d, h, w => by
    rcases List.mem_cons.mp (show (p, d) ∈ (o, C.some r c) :: subsAt (o + 2) c from h) with h | h
    · cases h
      exact ⟨w, [], [], by simp, rfl⟩
    · obtain ⟨wd, pre, post, e1, e2⟩ := subs_at c _ p d h w.2
      exact ⟨wd, 6 :: r :: pre, post, by simp [enc, e1], by simp; omega⟩
  | .all r c, o, p, d, h, w => by
    rcases List.mem_cons.mp (show (p, d) ∈ (o, C.all r c) :: subsAt (o + 2) c from h) with h | h
    · cases h
      exact ⟨w, [], [], by simp, rfl⟩
    · obtain ⟨wd, pre, post, e1, e2⟩ := subs_at c _ p d h w.2
      exact ⟨wd, 7 :: r :: pre, post, by simp [enc, e1], by simp; omega⟩
/-! ## the heads' places -/
def hgo : Nat → Nat → List Nat → List Nat
  | _, _, [] => []
  | 0, o, h :: r => o :: hgo (hlen h - 1) (o + 1) r
  | k + 1, o, _ :: r => hgo k (o + 1) r
theorem hgo_drop : ∀ (k o : Nat) (l : List Nat), hgo k o l = hgo 0 (o + k) (l.drop k)
  | 0, o, l => by simp
  | k + 1, o, [] => by simp [hgo]
  | k + 1, o, h :: r => by
    show hgo k (o + 1) r = hgo 0 (o + (k + 1)) (r.drop k)
    rw [hgo_drop k]
    congr 1
    omega
theorem hlen_pos (h : Nat) : 1 ≤ hlen h := by unfold hlen; split <;> omega
theorem hgo_step (o h : Nat) (r : List Nat) : hgo 0 o (h :: r) = o :: hgo 0 (o + hlen h) ((h :: r).drop (hlen h)) := by
  show o :: hgo (hlen h - 1) (o + 1) r = _
  rw [hgo_drop]
  have := hlen_pos h
  congr 2
  · omega
  · obtain ⟨k, e⟩ : ∃ k, hlen h = k + 1 := ⟨hlen h - 1, by omega⟩
    rw [e]
    rfl
theorem hgo_enc : ∀ (c : C) (o : Nat) (r : List Nat), hgo 0 o (enc c ++ r) = (subsAt o c).map (·.1) ++ hgo 0 (o + (enc c).length) r
  | .top, o, r => rfl
  | .bot, o, r => rfl
  | .name a, o, r => rfl
  | .and c d, o, r => by
    have e1 := hgo_enc c (o + 1) (enc d ++ r)
    have e2 := hgo_enc d (o + 1 + (enc c).length) r
    show o :: hgo 0 (o + 1) ((enc c ++ enc d) ++ r) = _
    rw [List.append_assoc, e1, e2]
    simp only [subsAt, List.map_cons, List.map_append, List.cons_append, List.append_assoc]
    congr 4
    simp [enc]; omega
  | .or c d, o, r => by
    have e1 := hgo_enc c (o + 1) (enc d ++ r)
    have e2 := hgo_enc d (o + 1 + (enc c).length) r
    show o :: hgo 0 (o + 1) ((enc c ++ enc d) ++ r) = _
    rw [List.append_assoc, e1, e2]
    simp only [subsAt, List.map_cons, List.map_append, List.cons_append, List.append_assoc]
    congr 4
    simp [enc]; omega
  | .not c, o, r => by
    have e1 := hgo_enc c (o + 1) r
    show o :: hgo 0 (o + 1) (enc c ++ r) = _
    rw [e1]
    simp only [subsAt, List.map_cons, List.cons_append]
    congr 3
    simp [enc]; omega
  | .some k c, o, r => by
    have e1 := hgo_enc c (o + 2) r
    show o :: hgo 0 (o + 2) (enc c ++ r) = _
    rw [e1]
    simp only [subsAt, List.map_cons, List.cons_append]
    congr 3
    simp [enc]; omega
  | .all k c, o, r => by
    have e1 := hgo_enc c (o + 2) r
    show o :: hgo 0 (o + 2) (enc c ++ r) = _
    rw [e1]
    simp only [subsAt, List.map_cons, List.cons_append]
    congr 3
    simp [enc]; omega
def placesOf (l : List Nat) : List Nat := hgo 0 0 l
theorem places_enc (c : C) : placesOf (enc c) = (subsAt 0 c).map (·.1) := by
  have := hgo_enc c 0 []
  rw [List.append_nil] at this
  unfold placesOf
  rw [this]
  simp [hgo]
theorem places_len : ∀ (k o : Nat) (l : List Nat), (hgo k o l).length ≤ l.length
  | _, _, [] => by simp [hgo]
  | 0, o, h :: r => by
    have := places_len (hlen h - 1) (o + 1) r
    show (o :: hgo _ _ r).length ≤ _
    simp only [List.length_cons]
    omega
  | k + 1, o, h :: r => by
    have := places_len k (o + 1) r
    show (hgo k _ r).length ≤ _
    simp only [List.length_cons]
    omega
/-! ## atoms, by the heads -/
theorem atoms_subs : ∀ (c : C) (o : Nat), ((subsAt o c).filter fun x => isAtom x.2).map (·.2) = c.atoms
  | .top, o => rfl
  | .bot, o => rfl
  | .name a, o => rfl
  | .and c d, o => by
    have e1 := atoms_subs c (o + 1)
    have e2 := atoms_subs d (o + 1 + (enc c).length)
    show (((o, C.and c d) :: (subsAt (o + 1) c ++ subsAt (o + 1 + (enc c).length) d)).filter _).map _ = c.atoms ++ d.atoms
    rw [List.filter_cons, if_neg (by simp [isAtom]), List.filter_append, List.map_append, e1, e2]
  | .or c d, o => by
    have e1 := atoms_subs c (o + 1)
    have e2 := atoms_subs d (o + 1 + (enc c).length)
    show (((o, C.or c d) :: (subsAt (o + 1) c ++ subsAt (o + 1 + (enc c).length) d)).filter _).map _ = c.atoms ++ d.atoms
    rw [List.filter_cons, if_neg (by simp [isAtom]), List.filter_append, List.map_append, e1, e2]
  | .not c, o => by
    have e1 := atoms_subs c (o + 1)
    show (((o, C.not c) :: subsAt (o + 1) c).filter _).map _ = c.atoms
    rw [List.filter_cons, if_neg (by simp [isAtom]), e1]
  | .some r c, o => by
    have e1 := atoms_subs c (o + 2)
    show (((o, C.some r c) :: subsAt (o + 2) c).filter _).map _ = C.some r c :: c.atoms
    rw [List.filter_cons, if_pos (by simp [isAtom]), List.map_cons, e1]
  | .all r c, o => by
    have e1 := atoms_subs c (o + 2)
    show (((o, C.all r c) :: subsAt (o + 2) c).filter _).map _ = C.all r c :: c.atoms
    rw [List.filter_cons, if_pos (by simp [isAtom]), List.map_cons, e1]
theorem atoms_wf : ∀ (c : C), wf c → ∀ x ∈ c.atoms, wf x
  | .top, _, x, h => by cases h
  | .bot, _, x, h => by cases h
  | .name a, w, x, h => by
    have : x = .name a := by simpa [C.atoms] using h
    subst this
    exact w
  | .and c d, w, x, h => by
    rcases List.mem_append.mp (show x ∈ c.atoms ++ d.atoms from h) with h | h
    · exact atoms_wf c w.1 x h
    · exact atoms_wf d w.2 x h
  | .or c d, w, x, h => by
    rcases List.mem_append.mp (show x ∈ c.atoms ++ d.atoms from h) with h | h
    · exact atoms_wf c w.1 x h
    · exact atoms_wf d w.2 x h
  | .not c, w, x, h => atoms_wf c w x h
  | .some r c, w, x, h => by
    rcases List.mem_cons.mp (show x ∈ C.some r c :: c.atoms from h) with rfl | h
    · exact w
    · exact atoms_wf c w.2 x h
  | .all r c, w, x, h => by
    rcases List.mem_cons.mp (show x ∈ C.all r c :: c.atoms from h) with rfl | h
    · exact w
    · exact atoms_wf c w.2 x h
theorem atoms_isAtom : ∀ (c : C), ∀ x ∈ c.atoms, isAtom x = true
  | .top, x, h => by cases h
  | .bot, x, h => by cases h
  | .name a, x, h => by
    have : x = .name a := by simpa [C.atoms] using h
    subst this
    rfl
  | .and c d, x, h => by
    rcases List.mem_append.mp (show x ∈ c.atoms ++ d.atoms from h) with h | h
    · exact atoms_isAtom c x h
    · exact atoms_isAtom d x h
  | .or c d, x, h => by
    rcases List.mem_append.mp (show x ∈ c.atoms ++ d.atoms from h) with h | h
    · exact atoms_isAtom c x h
    · exact atoms_isAtom d x h
  | .not c, x, h => atoms_isAtom c x h
  | .some r c, x, h => by
    rcases List.mem_cons.mp (show x ∈ C.some r c :: c.atoms from h) with rfl | h
    · rfl
    · exact atoms_isAtom c x h
  | .all r c, x, h => by
    rcases List.mem_cons.mp (show x ∈ C.all r c :: c.atoms from h) with rfl | h
    · rfl
    · exact atoms_isAtom c x h
/-- the form of a concept -/
def form : C → Nat
  | .top => 0
  | .bot => 1
  | .name _ => 2
  | .and _ _ => 3
  | .or _ _ => 4
  | .not _ => 5
  | .some _ _ => 6
  | .all _ _ => 7
theorem enc_head (c : C) : ∃ r, enc c = form c :: r := by
  cases c <;> exact ⟨_, rfl⟩
theorem form_atom (c : C) : isAtom c = (form c == 2 || form c == 6 || form c == 7) := by
  cases c <;> rfl
theorem form_lt (c : C) : form c < 8 := by
  cases c <;> (simp [form])
/-! ## the stack of having: values of the parts met so far -/
section
variable (N : Nat) (at_ : List C)
/-- the set of the types that have a concept -/
def val (c : C) : Nat := bits N fun t => holds at_ t c
/-- what combined takes off the stack (its end is the top) and what it gives back -/
def comb (S : List Nat) : C → Option (List Nat × Nat)
  | .top => some (S, val N at_ .top)
  | .bot => some (S, val N at_ .bot)
  | .name a => some (S, val N at_ (.name a))
  | .and _ _ => match S.reverse with
    | x :: y :: r => some (r.reverse, x &&& y)
    | _ => none
  | .or _ _ => match S.reverse with
    | x :: y :: r => some (r.reverse, x ||| y)
    | _ => none
  | .not _ => match S.reverse with
    | x :: r => some (r.reverse, val N at_ .top ^^^ x)
    | _ => none
  | .some k c => match S.reverse with
    | _ :: r => some (r.reverse, val N at_ (.some k c))
    | _ => none
  | .all k c => match S.reverse with
    | _ :: r => some (r.reverse, val N at_ (.all k c))
    | _ => none
def combs : List (Nat × C) → List Nat → Option (List Nat)
  | [], S => some S
  | x :: r, S => (comb N at_ S x.2).bind fun y => combs r (y.1 ++ [y.2])
theorem combs_append : ∀ (xs ys : List (Nat × C)) (S : List Nat), combs N at_ (xs ++ ys) S = (combs N at_ xs S).bind fun T => combs N at_ ys T
  | [], ys, S => rfl
  | x :: r, ys, S => by
    show (comb N at_ S x.2).bind _ = ((comb N at_ S x.2).bind _).bind _
    cases comb N at_ S x.2 with
    | none => rfl
    | some y => exact combs_append r ys _
theorem val_and (c d : C) : val N at_ c &&& val N at_ d = val N at_ (.and c d) := by
  unfold val
  rw [bits_and]
  rfl
theorem val_or (c d : C) : val N at_ c ||| val N at_ d = val N at_ (.or c d) := by
  unfold val
  rw [bits_or]
  rfl
theorem val_not (c : C) : val N at_ .top ^^^ val N at_ c = val N at_ (.not c) := by
  unfold val
  rw [bits_xor]
  refine bits_congr fun t _ => ?_
  show (true ^^ holds at_ t c) = !holds at_ t c
  rw [Bool.true_xor]
theorem combs_all : ∀ (c : C) (o : Nat) (S : List Nat), combs N at_ (subsAt o c).reverse S = some (S ++ [val N at_ c])
  | .top, o, S => rfl
  | .bot, o, S => rfl
  | .name a, o, S => rfl
  | .and c d, o, S => by
    show combs N at_ ((o, C.and c d) :: (subsAt (o + 1) c ++ subsAt (o + 1 + (enc c).length) d)).reverse S = _
    rw [List.reverse_cons, List.reverse_append, List.append_assoc, combs_append, combs_all d]
    show combs N at_ _ _ = _
    rw [combs_append, combs_all c]
    show (comb N at_ ((S ++ [val N at_ d]) ++ [val N at_ c]) (.and c d)).bind _ = _
    unfold comb
    simp only [List.reverse_append, List.reverse_cons, List.reverse_nil, List.nil_append, List.cons_append, Option.bind, combs, List.reverse_reverse]
    rw [val_and]
  | .or c d, o, S => by
    show combs N at_ ((o, C.or c d) :: (subsAt (o + 1) c ++ subsAt (o + 1 + (enc c).length) d)).reverse S = _
    rw [List.reverse_cons, List.reverse_append, List.append_assoc, combs_append, combs_all d]
    show combs N at_ _ _ = _
    rw [combs_append, combs_all c]
    show (comb N at_ ((S ++ [val N at_ d]) ++ [val N at_ c]) (.or c d)).bind _ = _
    unfold comb
    simp only [List.reverse_append, List.reverse_cons, List.reverse_nil, List.nil_append, List.cons_append, Option.bind, combs, List.reverse_reverse]
    rw [val_or]
  | .not c, o, S => by
    show combs N at_ ((o, C.not c) :: subsAt (o + 1) c).reverse S = _
    rw [List.reverse_cons, combs_append, combs_all c]
    show (comb N at_ (S ++ [val N at_ c]) (.not c)).bind _ = _
    unfold comb
    simp only [List.reverse_append, List.reverse_cons, List.reverse_nil, List.nil_append, List.cons_append, Option.bind, combs, List.reverse_reverse]
    rw [val_not]
  | .some k c, o, S => by
    show combs N at_ ((o, C.some k c) :: subsAt (o + 2) c).reverse S = _
    rw [List.reverse_cons, combs_append, combs_all c]
    show (comb N at_ (S ++ [val N at_ c]) (.some k c)).bind _ = _
    unfold comb
    simp only [List.reverse_append, List.reverse_cons, List.reverse_nil, List.nil_append, List.cons_append, Option.bind, combs, List.reverse_reverse]
  | .all k c, o, S => by
    show combs N at_ ((o, C.all k c) :: subsAt (o + 2) c).reverse S = _
    rw [List.reverse_cons, combs_append, combs_all c]
    show (comb N at_ (S ++ [val N at_ c]) (.all k c)).bind _ = _
    unfold comb
    simp only [List.reverse_append, List.reverse_cons, List.reverse_nil, List.nil_append, List.cons_append, Option.bind, combs, List.reverse_reverse]
end
end Ex

namespace Ex
open Oc Oc07
/-! ## links -/
def isRole : C → Bool
  | .some _ _ => true
  | .all _ _ => true
  | _ => false
def rol : C → Nat
  | .some r _ => r
  | .all r _ => r
  | _ => 0
def ndp (at_ : List C) (x : C) (t : Nat) : Bool := match x with
  | .some r c => holds at_ t (.some r c)
  | .all r c => !holds at_ t (.all r c)
  | _ => false
def tgp (at_ : List C) (x : C) (u : Nat) : Bool := match x with
  | .some _ c => holds at_ u c
  | .all _ c => !holds at_ u c
  | _ => false
theorem all_filter {α : Type} {p q : α → Bool} : ∀ {l : List α}, (∀ x ∈ l, q x = false → p x = true) → l.all p = (l.filter q).all p
  | [], _ => rfl
  | a :: r, h => by
    have ih := all_filter (p := p) (q := q) (l := r) fun x hx => h x (by simp [hx])
    rw [List.all_cons, ih, List.filter_cons]
    cases e : q a with
    | true => rw [if_pos rfl, List.all_cons]
    | false => rw [if_neg Bool.false_ne_true, h a (by simp) e, Bool.true_and]
theorem all_congr {α : Type} {p q : α → Bool} {l : List α} (h : ∀ x ∈ l, p x = q x) : l.all p = l.all q := by
  rw [Bool.eq_iff_iff, List.all_eq_true, List.all_eq_true]
  exact ⟨fun k x hx => by rw [← h x hx]; exact k x hx, fun k x hx => by rw [h x hx]; exact k x hx⟩
def roles (at_ : List C) : List C := at_.filter isRole
theorem fits_roles (at_ : List C) (r t u : Nat) : fits at_ r t u = (roles at_).all fun x => (rol x != r || (ndp at_ x t || !tgp at_ x u)) := by
  unfold fits roles
  rw [all_filter (q := isRole) (fun x _ h => by cases x <;> first | rfl | cases h)]
  refine all_congr fun x hx => ?_
  have := (List.mem_filter.mp hx).2
  cases x <;> first | rfl | (cases this; done) | skip
  rename_i s c
  show (s != r || (!holds at_ t (.all s c) || holds at_ u c)) = (s != r || (!holds at_ t (.all s c) || !!holds at_ u c))
  rw [Bool.not_not]
theorem borne_roles (at_ : List C) (l : List Nat) (t : Nat) : borne at_ l t = (roles at_).all fun x => (!ndp at_ x t || l.any fun u => fits at_ (rol x) t u && tgp at_ x u) := by
  unfold borne roles
  rw [all_filter (q := isRole) (fun x _ h => by cases x <;> first | rfl | cases h)]
  refine all_congr fun x hx => ?_
  have := (List.mem_filter.mp hx).2
  cases x <;> first | rfl | (cases this; done) | skip
  rename_i s c
  show (holds at_ t (.all s c) || l.any fun u => fits at_ s t u && !holds at_ u c) = (!!holds at_ t (.all s c) || l.any fun u => fits at_ s t u && !holds at_ u c)
  rw [Bool.not_not]
/-- the same over a set of types by a test -/
def bornP (at_ : List C) (p : Nat → Bool) (t : Nat) : Bool := (roles at_).all fun x => (!ndp at_ x t || (List.range (2 ^ at_.length)).any fun u => p u && (tgp at_ x u && fits at_ (rol x) t u))
theorem any_filter {α : Type} {p q : α → Bool} : ∀ {l : List α}, (l.filter p).any q = l.any fun x => p x && q x
  | [] => rfl
  | a :: r => by
    have ih := any_filter (p := p) (q := q) (l := r)
    rw [List.filter_cons, List.any_cons]
    cases e : p a with
    | true => rw [if_pos rfl, List.any_cons, ih, Bool.true_and]
    | false => rw [if_neg Bool.false_ne_true, ih, Bool.false_and, Bool.false_or]
theorem borne_P (at_ : List C) (p : Nat → Bool) (t : Nat) : borne at_ ((List.range (2 ^ at_.length)).filter p) t = bornP at_ p t := by
  rw [borne_roles]
  unfold bornP
  refine all_congr fun x _ => ?_
  rw [any_filter]
  congr 2
  funext u
  cases p u <;> cases fits at_ (rol x) t u <;> cases tgp at_ x u <;> rfl
/-- one round -/
def stepP (at_ : List C) (p : Nat → Bool) : Nat → Bool := fun t => p t && bornP at_ p t
theorem filter_step (at_ : List C) (p : Nat → Bool) : ((List.range (2 ^ at_.length)).filter p).filter (borne at_ ((List.range (2 ^ at_.length)).filter p)) = (List.range (2 ^ at_.length)).filter (stepP at_ p) := by
  rw [List.filter_filter]
  refine List.filter_congr fun t _ => ?_
  rw [borne_P]
  unfold stepP
  rw [Bool.and_comm]
def lst (at_ : List C) (p : Nat → Bool) : List Nat := (List.range (2 ^ at_.length)).filter p
theorem lst_len (at_ : List C) (p : Nat → Bool) : (lst at_ p).length ≤ 2 ^ at_.length := by
  have := List.length_filter_le p (List.range (2 ^ at_.length))
  rwa [List.length_range] at this
theorem step_le (at_ : List C) (p : Nat → Bool) : (lst at_ (stepP at_ p)).length ≤ (lst at_ p).length := by
  have := List.length_filter_le (borne at_ (lst at_ p)) (lst at_ p)
  rw [show (lst at_ p).filter (borne at_ (lst at_ p)) = lst at_ (stepP at_ p) from filter_step at_ p] at this
  exact this
/-- where the bits are the same the round took nothing -/
theorem step_same {at_ : List C} {p : Nat → Bool} (h : bits (2 ^ at_.length) (stepP at_ p) = bits (2 ^ at_.length) p) : ∀ t, t < 2 ^ at_.length → stepP at_ p t = p t := by
  intro t ht
  have := congrArg (fun n => n.testBit t) h
  simpa [bits_testBit, ht] using this
theorem step_other {at_ : List C} {p : Nat → Bool} (h : bits (2 ^ at_.length) (stepP at_ p) ≠ bits (2 ^ at_.length) p) : (lst at_ (stepP at_ p)).length < (lst at_ p).length := by
  have hle := step_le at_ p
  rcases Nat.lt_or_ge (lst at_ (stepP at_ p)).length (lst at_ p).length with h1 | h1
  · exact h1
  · exfalso
    apply h
    have e : (lst at_ (stepP at_ p)).length = (lst at_ p).length := by omega
    rw [← show (lst at_ p).filter (borne at_ (lst at_ p)) = lst at_ (stepP at_ p) from filter_step at_ p] at e
    have := filter_len_eq e
    refine bits_congr fun t ht => ?_
    unfold stepP
    cases hp : p t with
    | false => rfl
    | true =>
      have := this t (List.mem_filter.mpr ⟨List.mem_range.mpr ht, hp⟩)
      unfold lst at this
      rw [borne_P] at this
      rw [this]
      rfl
theorem settle_step {at_ : List C} {p : Nat → Bool} {n : Nat} (h : bits (2 ^ at_.length) (stepP at_ p) ≠ bits (2 ^ at_.length) p) : settle at_ (n + 1) (lst at_ p) = settle at_ n (lst at_ (stepP at_ p)) := by
  have := step_other h
  have e : (lst at_ p).filter (borne at_ (lst at_ p)) = lst at_ (stepP at_ p) := filter_step at_ p
  show (if ((lst at_ p).filter (borne at_ (lst at_ p))).length = (lst at_ p).length then lst at_ p else settle at_ n ((lst at_ p).filter (borne at_ (lst at_ p)))) = _
  rw [e, if_neg (by omega)]
theorem settle_stop {at_ : List C} {p : Nat → Bool} {n : Nat} (h : bits (2 ^ at_.length) (stepP at_ p) = bits (2 ^ at_.length) p) : settle at_ n (lst at_ p) = lst at_ p := by
  cases n with
  | zero => rfl
  | succ n =>
    have hs := step_same h
    have e : (lst at_ p).filter (borne at_ (lst at_ p)) = lst at_ (stepP at_ p) := filter_step at_ p
    have e2 : lst at_ (stepP at_ p) = lst at_ p := List.filter_congr fun t ht => hs t (List.mem_range.mp ht)
    show (if ((lst at_ p).filter (borne at_ (lst at_ p))).length = (lst at_ p).length then lst at_ p else settle at_ n ((lst at_ p).filter (borne at_ (lst at_ p)))) = _
    rw [e, e2, if_pos rfl]
theorem types_lst (at_ : List C) (ax : List Axiom) : types at_ ax = settle at_ (2 ^ at_.length + 1) (lst at_ (keeps at_ ax)) := rfl
theorem lst_contains {at_ : List C} {p : Nat → Bool} {t : Nat} (h : t < 2 ^ at_.length) : (lst at_ p).contains t = p t := by
  rw [Bool.eq_iff_iff, List.contains_iff_mem]
  unfold lst
  rw [List.mem_filter, List.mem_range]
  exact ⟨fun k => k.2, fun k => ⟨h, k⟩⟩
/-- the whole loop -/
structure Towards (at_ : List C) (ax : List Axiom) (p : Nat → Bool) : Prop where
  is : ∃ n, (lst at_ p).length < n ∧ settle at_ n (lst at_ p) = types at_ ax
theorem towards_start (at_ : List C) (ax : List Axiom) : Towards at_ ax (keeps at_ ax) := ⟨⟨_, by have := lst_len at_ (keeps at_ ax); omega, rfl⟩⟩
theorem Towards.go {at_ : List C} {ax : List Axiom} {p : Nat → Bool} (T : Towards at_ ax p) (h : bits (2 ^ at_.length) (stepP at_ p) ≠ bits (2 ^ at_.length) p) : Towards at_ ax (stepP at_ p) := by
  obtain ⟨n, hn, e⟩ := T.is
  have := step_other h
  match n with
  | 0 => omega
  | n + 1 =>
    rw [settle_step h] at e
    exact ⟨⟨n, by omega, e⟩⟩
theorem Towards.stop {at_ : List C} {ax : List Axiom} {p : Nat → Bool} (T : Towards at_ ax p) (h : bits (2 ^ at_.length) (stepP at_ p) = bits (2 ^ at_.length) p) : bits (2 ^ at_.length) p = bits (2 ^ at_.length) (tm at_ ax) := by
  obtain ⟨n, hn, e⟩ := T.is
  rw [settle_stop h] at e
  refine bits_congr fun t ht => ?_
  unfold tm
  rw [← e, lst_contains ht]
/-! ## numbers -/
theorem keeps_nil (at_ : List C) (t : Nat) : keeps at_ [] t = true := rfl
theorem keeps_snoc (at_ : List C) (l : List (C × C)) (a : C × C) (t : Nat) : keeps at_ (l ++ [a]) t = (keeps at_ l t && (!holds at_ t a.1 || holds at_ t a.2)) := by
  unfold keeps
  rw [List.all_append]
  simp
theorem keeps_app (at_ : List C) (l m : List (C × C)) (t : Nat) : keeps at_ (l ++ m) t = (keeps at_ l t && keeps at_ m t) := by
  unfold keeps
  rw [List.all_append]
theorem comb_len {N : Nat} {at_ : List C} {S S0 : List Nat} {d : C} {v : Nat} (h : comb N at_ S d = some (S0, v)) : S0.length ≤ S.length := by
  cases d with
  | top => cases h; exact Nat.le_refl _
  | bot => cases h; exact Nat.le_refl _
  | name a => cases h; exact Nat.le_refl _
  | and c d =>
    unfold comb at h
    simp only at h
    split at h
    · rename_i x y r e
      cases h
      have := congrArg List.length e
      rw [List.length_reverse] at this ⊢
      simp only [List.length_cons] at this
      omega
    · cases h
  | or c d =>
    unfold comb at h
    simp only at h
    split at h
    · rename_i x y r e
      cases h
      have := congrArg List.length e
      rw [List.length_reverse] at this ⊢
      simp only [List.length_cons] at this
      omega
    · cases h
  | not c =>
    unfold comb at h
    simp only at h
    split at h
    · rename_i x r e
      cases h
      have := congrArg List.length e
      rw [List.length_reverse] at this ⊢
      simp only [List.length_cons] at this
      omega
    · cases h
  | some k c =>
    unfold comb at h
    simp only at h
    split at h
    · rename_i x r e
      cases h
      have := congrArg List.length e
      rw [List.length_reverse] at this ⊢
      simp only [List.length_cons] at this
      omega
    · cases h
  | all k c =>
    unfold comb at h
    simp only at h
    split at h
    · rename_i x r e
      cases h
      have := congrArg List.length e
      rw [List.length_reverse] at this ⊢
      simp only [List.length_cons] at this
      omega
    · cases h
theorem rev_two {S : List Nat} {x y : Nat} {r : List Nat} (h : S.reverse = x :: y :: r) : S = r.reverse ++ [y, x] := by
  have := congrArg List.reverse h
  rw [List.reverse_reverse] at this
  rw [this]
  simp
theorem rev_one {S : List Nat} {x : Nat} {r : List Nat} (h : S.reverse = x :: r) : S = r.reverse ++ [x] := by
  have := congrArg List.reverse h
  rw [List.reverse_reverse] at this
  rw [this]
  simp
theorem sub_atom {c : C} {p : Nat} {d : C} (h : (p, d) ∈ subsAt 0 c) (ha : isAtom d = true) : d ∈ c.atoms := by
  rw [← atoms_subs c 0]
  exact List.mem_map.mpr ⟨(p, d), List.mem_filter.mpr ⟨h, ha⟩, rfl⟩
theorem sub_len {c : C} (w : wf c) {p : Nat} {d : C} (h : (p, d) ∈ subsAt 0 c) : (enc d).length ≤ (enc c).length := by
  obtain ⟨_, pre, post, e, _⟩ := subs_at c 0 p d h w
  rw [e]
  simp
  omega
end Ex

namespace Ex
structure HOk (h : Oc07.House) : Prop where
  na : h.axioms.length ≤ 3
  nr : h.rules.length ≤ 4
  la : ∀ a ∈ h.axioms, (enc a.1).length ≤ 30 ∧ (enc a.2).length ≤ 30
  lr : ∀ a ∈ h.rules, (enc a.1).length ≤ 30 ∧ (enc a.2).length ≤ 30
  at4 : (Oc.atomsOf (Oc07.both h)).length ≤ 4

theorem nodup_len {α : Type} [BEq α] [LawfulBEq α] : ∀ {l m : List α}, l.Nodup → (∀ x ∈ l, x ∈ m) → l.length ≤ m.length
  | [], _, _, _ => Nat.zero_le _
  | a :: r, m, nd, h => by
    obtain ⟨n1, n2⟩ := List.nodup_cons.mp nd
    have hm := h a (by simp)
    have ih := nodup_len (l := r) (m := m.erase a) n2 fun x hx => by
      have hx' := h x (by simp [hx])
      refine (List.mem_erase_of_ne ?_).mpr hx'
      intro z
      subst z
      exact n1 hx
    rw [List.length_erase_of_mem hm] at ih
    have := List.length_pos_of_mem hm
    rw [List.length_cons]
    omega
/-! ### what the steps are -/
section
open Oc07
theorem line_none {h : House} {l : List Nat} (e : Oc.two l = none) : step h (.line l) = (h, ok (-1)) := by
  simp only [step, e]
theorem line_full {h : House} {l : List Nat} {a : Oc.C × Oc.C} (e : Oc.two l = some a) (c : h.axioms.length = 3 ∨ much h [a.1, a.2] = true) : step h (.line l) = (h, ok (-7)) := by
  simp only [step, e]
  exact if_pos c
theorem line_ok {h : House} {l : List Nat} {a : Oc.C × Oc.C} (e : Oc.two l = some a) (c : h.axioms.length ≠ 3) (c2 : much h [a.1, a.2] = false) : step h (.line l) = ({ h with axioms := h.axioms ++ [a] }, ok (h.axioms.length : Nat)) := by
  simp only [step, e]
  exact if_neg fun z => z.elim c fun z => by rw [c2] at z; cases z
theorem rule_none {h : House} {l : List Nat} (e : Oc.two l = none) : step h (.rule l) = (h, ok (-1)) := by
  simp only [step, e]
theorem rule_full {h : House} {l : List Nat} {a : Oc.C × Oc.C} (e : Oc.two l = some a) (c : h.rules.length = 4 ∨ much h [a.1, a.2] = true) : step h (.rule l) = (h, ok (-7)) := by
  simp only [step, e]
  exact if_pos c
theorem rule_eq {h : House} {l : List Nat} {a : Oc.C × Oc.C} (e : Oc.two l = some a) (c : h.rules.length ≠ 4) (c2 : much h [a.1, a.2] = false) (c3 : h.rules.contains a = true) : step h (.rule l) = (h, ok (-4)) := by
  simp only [step, e]
  refine (if_neg fun z => z.elim c fun z => by rw [c2] at z; cases z).trans ?_
  exact if_pos c3
theorem rule_ok {h : House} {l : List Nat} {a : Oc.C × Oc.C} (e : Oc.two l = some a) (c : h.rules.length ≠ 4) (c2 : much h [a.1, a.2] = false) (c3 : h.rules.contains a = false) : step h (.rule l) = ({ h with rules := h.rules ++ [a] }, ok (h.rules.length : Nat)) := by
  simp only [step, e]
  refine (if_neg fun z => z.elim c fun z => by rw [c2] at z; cases z).trans ?_
  exact if_neg fun z => by rw [c3] at z; cases z
theorem normally_none {h : House} {l : List Nat} (e : Oc.two l = none) : step h (.normally l) = (h, ok (-1)) := by
  simp only [step, e]
theorem normally_full {h : House} {l : List Nat} {a : Oc.C × Oc.C} (e : Oc.two l = some a) (c : much h [a.1, a.2] = true) : step h (.normally l) = (h, ok (-7)) := by
  simp only [step, e]
  exact if_pos c
theorem normally_ok {h : House} {l : List Nat} {a : Oc.C × Oc.C} (e : Oc.two l = some a) (c : much h [a.1, a.2] = false) : step h (.normally l) = (h, ok (flag (normally h.axioms h.rules a.1 a.2) : Nat)) := by
  simp only [step, e]
  exact if_neg fun z => by rw [c] at z; cases z
theorem atoms_perm {l m : List Oc.C} (h : ∀ x, x ∈ l ↔ x ∈ m) : (Oc.atomsOf l).length = (Oc.atomsOf m).length := by
  have hsub : ∀ {l m : List Oc.C}, (∀ x, x ∈ l ↔ x ∈ m) → (Oc.atomsOf l).length ≤ (Oc.atomsOf m).length := by
    intro l m h
    refine nodup_len (atomsOf_good l).nd fun x hx => ?_
    obtain ⟨c, hc, hx⟩ := atomsOf_mem.mp hx
    exact atomsOf_mem.mpr ⟨c, (h c).mp hc, hx⟩
  exact Nat.le_antisymm (hsub h) (hsub fun x => (h x).symm)
theorem much_le {h : House} {g : List Oc.C} (c : much h g = false) : (Oc.atomsOf (both h ++ g)).length ≤ 4 := Nat.le_of_not_lt (of_decide_eq_false c)
theorem ok_line {h : House} {a : Oc.C × Oc.C} (k : HOk h) (l1 : (enc a.1).length ≤ 30) (l2 : (enc a.2).length ≤ 30) (c : h.axioms.length ≠ 3) (c2 : much h [a.1, a.2] = false) : HOk { h with axioms := h.axioms ++ [a] } where
  na := by
    have := k.na
    show (h.axioms ++ [a]).length ≤ 3
    rw [List.length_append, List.length_singleton]
    omega
  nr := k.nr
  la := fun x hx => by
    rcases List.mem_append.mp hx with hx | hx
    · exact k.la x hx
    · have : x = a := by simpa using hx
      subst this
      exact ⟨l1, l2⟩
  lr := k.lr
  at4 := by
    refine Nat.le_trans (Nat.le_of_eq (atoms_perm fun x => ?_)) (much_le c2)
    show x ∈ ((h.axioms ++ [a]) ++ h.rules).flatMap _ ↔ x ∈ (h.axioms ++ h.rules).flatMap _ ++ [a.1, a.2]
    simp only [List.flatMap_append, List.mem_append, List.flatMap_cons, List.flatMap_nil, List.append_nil]
    constructor
    · rintro ((h | h) | h)
      · exact .inl (.inl h)
      · exact .inr h
      · exact .inl (.inr h)
    · rintro ((h | h) | h)
      · exact .inl (.inl h)
      · exact .inr h
      · exact .inl (.inr h)
theorem ok_rule {h : House} {a : Oc.C × Oc.C} (k : HOk h) (l1 : (enc a.1).length ≤ 30) (l2 : (enc a.2).length ≤ 30) (c : h.rules.length ≠ 4) (c2 : much h [a.1, a.2] = false) : HOk { h with rules := h.rules ++ [a] } where
  na := k.na
  nr := by
    have := k.nr
    show (h.rules ++ [a]).length ≤ 4
    rw [List.length_append, List.length_singleton]
    omega
  la := k.la
  lr := fun x hx => by
    rcases List.mem_append.mp hx with hx | hx
    · exact k.lr x hx
    · have : x = a := by simpa using hx
      subst this
      exact ⟨l1, l2⟩
  at4 := by
    refine Nat.le_trans (Nat.le_of_eq (atoms_perm fun x => ?_)) (much_le c2)
    show x ∈ (h.axioms ++ (h.rules ++ [a])).flatMap _ ↔ x ∈ (h.axioms ++ h.rules).flatMap _ ++ [a.1, a.2]
    simp only [List.flatMap_append, List.mem_append, List.flatMap_cons, List.flatMap_nil, List.append_nil]
    constructor
    · rintro (h | (h | h))
      · exact .inl (.inl h)
      · exact .inl (.inr h)
      · exact .inr h
    · rintro ((h | h) | h)
      · exact .inl h
      · exact .inr (.inl h)
      · exact .inr (.inr h)
theorem ok_init : HOk init := ⟨by decide, by decide, fun _ h => (by cases h), fun _ h => (by cases h), by decide⟩
end
end Ex

namespace Ex
open Oc07
/-! ## the steps of always, rank, ranks, drop -/
theorem always_none {h : House} {l : List Nat} (e : Oc.two l = none) : Oc07.step h (.always l) = (h, ok (-1)) := by
  simp only [Oc07.step, e]
theorem always_full {h : House} {l : List Nat} {a : Oc.C × Oc.C} (e : Oc.two l = some a) (c : much h [a.1, a.2] = true) : Oc07.step h (.always l) = (h, ok (-7)) := by
  simp only [Oc07.step, e]
  exact if_pos c
theorem always_ok {h : House} {l : List Nat} {a : Oc.C × Oc.C} (e : Oc.two l = some a) (c : much h [a.1, a.2] = false) : Oc07.step h (.always l) = (h, ok (flag (Oc.under (book h.axioms h.rules).1 a.1 a.2) : Nat)) := by
  simp only [Oc07.step, e]
  exact if_neg fun z => by rw [c] at z; cases z
theorem rank_none {h : House} {l : List Nat} (e : Oc.concept l = none) : Oc07.step h (.rank l) = (h, ok (-1)) := by
  simp only [Oc07.step, e]
theorem rank_full {h : House} {l : List Nat} {a : Oc.C} (e : Oc.concept l = some a) (c : much h [a] = true) : Oc07.step h (.rank l) = (h, ok (-7)) := by
  simp only [Oc07.step, e]
  exact if_pos c
theorem rank_ok {h : House} {l : List Nat} {a : Oc.C} (e : Oc.concept l = some a) (c : much h [a] = false) :
    Oc07.step h (.rank l) = (h, ⟨(rankOf (book h.axioms h.rules) a : Nat), [(book h.axioms h.rules).2.length]⟩) := by
  simp only [Oc07.step, e]
  exact if_neg fun z => by rw [c] at z; cases z
/-- how many ranks contain a rule -/
def inRanks (b : List (List Rule)) (x : Rule) : Nat := (b.filter fun m => m.contains x).length
theorem range_getD {α : Type} (d : α) (p : α → Bool) : ∀ (b : List α), ((List.range b.length).filter fun k => p (b.getD k d)).length = (b.filter p).length := by
  intro b
  have e : (List.range b.length).map (fun k => b.getD k d) = b := by
    apply List.ext_getElem
    · simp
    · intro i h1 h2
      simp only [List.getElem_map, List.getElem_range]
      rw [List.getD_eq_getElem?_getD, List.getElem?_eq_getElem h2]
      rfl
  conv => rhs; rw [← e, List.filter_map, List.length_map]
  rfl
theorem ranks_is (h : House) : Oc07.step h .ranks = (h, ⟨((book h.axioms h.rules).2.length : Nat), h.rules.map fun x => inRanks (book h.axioms h.rules).2 x⟩) := by
  show (h, (⟨((book h.axioms h.rules).2.length : Nat), _⟩ : Ans)) = _
  congr 2
  apply List.ext_getElem
  · simp
  · intro i h1 h2
    have hi : i < h.rules.length := by simpa using h2
    simp only [List.getElem_map, List.getElem_range]
    rw [List.getElem?_eq_getElem hi]
    exact range_getD [] (fun m => m.contains h.rules[i]) _
theorem drop_none {h : House} {i : Nat} (c : h.rules.length ≤ i) : Oc07.step h (.drop i) = (h, ok (-2)) := by
  simp only [Oc07.step]
  exact if_pos c
theorem drop_ok {h : House} {i : Nat} (c : ¬ h.rules.length ≤ i) : Oc07.step h (.drop i) = ({ h with rules := h.rules.take i ++ h.rules.drop (i + 1) }, ok (h.rules.length - 1 : Nat)) := by
  simp only [Oc07.step]
  exact if_neg c
theorem out_sub {α : Type} {l : List α} {i : Nat} : ∀ x ∈ l.take i ++ l.drop (i + 1), x ∈ l := fun x hx =>
  (List.mem_append.mp hx).elim List.mem_of_mem_take List.mem_of_mem_drop
theorem ok_drop {h : House} (k : HOk h) (i : Nat) (c : ¬ h.rules.length ≤ i) : HOk { h with rules := h.rules.take i ++ h.rules.drop (i + 1) } where
  na := k.na
  nr := by
    have := k.nr
    show (h.rules.take i ++ h.rules.drop (i + 1)).length ≤ 4
    rw [List.length_append, List.length_take, List.length_drop]
    omega
  la := k.la
  lr := fun a ha => k.lr a (out_sub a ha)
  at4 := by
    refine Nat.le_trans (nodup_len (atomsOf_good _).nd fun x hx => ?_) k.at4
    obtain ⟨c, hc, hx⟩ := atomsOf_mem.mp hx
    refine atomsOf_mem.mpr ⟨c, ?_, hx⟩
    obtain ⟨a, ha, hc⟩ := List.mem_flatMap.mp hc
    refine List.mem_flatMap.mpr ⟨a, ?_, hc⟩
    rcases List.mem_append.mp ha with ha | ha
    · exact List.mem_append.mpr (.inl ha)
    · exact List.mem_append.mpr (.inr (out_sub a ha))
/-- without an added concept -/
theorem much_nil (h : House) : Oc.atomsOf (both h ++ []) = Oc.atomsOf (both h) := by rw [List.append_nil]
theorem ranks_len (ax : List Oc.Axiom) : ∀ (n : Nat) (l : List Rule), (ranks ax n l).length ≤ n + 1
  | 0, l => Nat.le_refl _
  | n + 1, l => by
    have ih := ranks_len ax n (left ax l)
    show (if _ then _ else _ : List (List Rule)).length ≤ _
    split
    · simp
    · rw [List.length_cons]
      omega
theorem ranked_len : ∀ (n : Nat) (ax : List Oc.Axiom) (l : List Rule), (ranked n ax l).2.length ≤ l.length + 1
  | 0, ax, l => ranks_len ax _ l
  | n + 1, ax, l => by
    have h0 := ranks_len ax l.length l
    unfold ranked
    simp only
    split
    · exact h0
    · rename_i m _
      split
      · exact h0
      · have ih := ranked_len n (ax ++ m.map fun x => (x.1, .bot)) (l.filter fun x => !m.contains x)
        have := List.length_filter_le (fun x => !m.contains x) l
        omega
theorem book_len (ax : List Oc.Axiom) (l : List Rule) : (book ax l).2.length ≤ l.length + 1 :=
  Nat.le_trans (List.length_filter_le _ _) (ranked_len _ ax l)
/-- without an added concept -/
theorem much_none {h : House} (k : HOk h) : much h [] = false := by
  have := k.at4
  unfold much ATOMS
  rw [much_nil]
  exact decide_eq_false (by omega)
end Ex

namespace Ex
/-! ## the calls as one list -/
/-- one call ahead of the rest -/
inductive Ahead : List Int → List (List Int) → List Int → Prop
  | begins (t : List Int) : Ahead (0 :: t) [[0]] t
  | row (p : Int) (n : Nat) (r : List Int) (hp : 1 ≤ p ∧ p ≤ 5) (hn : n ≤ r.length) : Ahead (p :: (n : Int) :: r) [[p], r.take n] (r.drop n)
  | ranks (t : List Int) : Ahead (6 :: t) [[6]] t
  | drop (x : Int) (t : List Int) : Ahead (7 :: x :: t) [[7, x]] t
theorem rows_one {r : List Int} {xs : List (List Int)} {t : List Int} (h : PyFlat.rows 1 r = some (xs, t)) : ∃ (n : Nat) (r' : List Int), r = (n : Int) :: r' ∧ n ≤ r'.length ∧ xs = [r'.take n] ∧ t = r'.drop n := by
  unfold PyFlat.rows at h
  cases r with
  | nil => simp [PyFlat.row] at h
  | cons n r' =>
    unfold PyFlat.row at h
    simp only at h
    by_cases c : 0 ≤ n ∧ n.toNat ≤ r'.length
    · rw [if_pos c] at h
      simp only [PyFlat.rows, Option.some.injEq, Prod.mk.injEq] at h
      obtain ⟨rfl, rfl⟩ := h
      exact ⟨n.toNat, r', by rw [Int.toNat_of_nonneg c.1], c.2, rfl, rfl⟩
    · rw [if_neg c] at h
      cases h
theorem rows_zero {r : List Int} {xs : List (List Int)} {t : List Int} (h : PyFlat.rows 0 r = some (xs, t)) : xs = [] ∧ t = r := by
  unfold PyFlat.rows at h
  simp only [Option.some.injEq, Prod.mk.injEq] at h
  exact ⟨h.1.symm, h.2.symm⟩
theorem shape_is (p : Int) : (PyOc07.shape p = some (0, 0) ∧ p = 0) ∨ (PyOc07.shape p = some (0, 1) ∧ 1 ≤ p ∧ p ≤ 5) ∨ (PyOc07.shape p = some (0, 0) ∧ p = 6) ∨ (PyOc07.shape p = some (1, 0) ∧ p = 7) ∨ PyOc07.shape p = none := by
  by_cases h : 0 ≤ p ∧ p ≤ 7
  · have : p = 0 ∨ p = 1 ∨ p = 2 ∨ p = 3 ∨ p = 4 ∨ p = 5 ∨ p = 6 ∨ p = 7 := by omega
    rcases this with rfl | rfl | rfl | rfl | rfl | rfl | rfl | rfl <;> decide
  · right; right; right; right
    unfold PyOc07.shape
    repeat rw [if_neg (by omega)]
theorem call_ahead {l : List Int} {c : List (List Int)} {t : List Int} (h : PyFlat.call PyOc07.shape l = some (c, t)) : Ahead l c t := by
  cases l with
  | nil => cases h
  | cons p r =>
    unfold PyFlat.call at h
    simp only at h
    rcases shape_is p with ⟨e, rfl⟩ | ⟨e, h1⟩ | ⟨e, rfl⟩ | ⟨e, rfl⟩ | e
    all_goals rw [e] at h
    · simp only [Nat.not_lt_zero, if_false, List.drop_zero, List.take_zero] at h
      cases hr : PyFlat.rows 0 r with
      | none => rw [hr] at h; cases h
      | some y =>
        obtain ⟨e1, e2⟩ := rows_zero hr
        rw [hr] at h
        simp only [Option.some.injEq, Prod.mk.injEq] at h
        obtain ⟨rfl, rfl⟩ := h
        rw [e1, e2]
        exact .begins r
    · simp only [Nat.not_lt_zero, if_false, List.drop_zero, List.take_zero] at h
      cases hr : PyFlat.rows 1 r with
      | none => rw [hr] at h; cases h
      | some y =>
        obtain ⟨n, r', e0, hn, e1, e2⟩ := rows_one hr
        rw [hr] at h
        simp only [Option.some.injEq, Prod.mk.injEq] at h
        obtain ⟨rfl, rfl⟩ := h
        rw [e1, e2, e0]
        exact .row p n r' h1 hn
    · simp only [Nat.not_lt_zero, if_false, List.drop_zero, List.take_zero] at h
      cases hr : PyFlat.rows 0 r with
      | none => rw [hr] at h; cases h
      | some y =>
        obtain ⟨e1, e2⟩ := rows_zero hr
        rw [hr] at h
        simp only [Option.some.injEq, Prod.mk.injEq] at h
        obtain ⟨rfl, rfl⟩ := h
        rw [e1, e2]
        exact .ranks r
    · cases r with
      | nil => simp at h
      | cons x r =>
        simp only [List.length_cons, Nat.not_lt.mpr (Nat.le_add_left 1 r.length), if_false, List.drop_succ_cons, List.drop_zero, List.take_succ_cons, List.take_zero] at h
        cases hr : PyFlat.rows 0 r with
        | none => rw [hr] at h; cases h
        | some y =>
          obtain ⟨e1, e2⟩ := rows_zero hr
          rw [hr] at h
          simp only [Option.some.injEq, Prod.mk.injEq] at h
          obtain ⟨rfl, rfl⟩ := h
          rw [e1, e2]
          exact .drop x r
    · cases h
theorem ahead_whole {l : List Int} {c : List (List Int)} {t : List Int} (h : Ahead l c t) : PyOc07.whole c = c := by
  cases h with
  | begins => rfl
  | ranks => rfl
  | drop => rfl
  | row p n r hp hn =>
    have : p = 1 ∨ p = 2 ∨ p = 3 ∨ p = 4 ∨ p = 5 := by omega
    rcases this with rfl | rfl | rfl | rfl | rfl <;> rfl
/-- what is still to be played -/
inductive Still : List Int → List (List (List Int)) → Prop
  | nil : Still [] []
  | cons {l t : List Int} {c : List (List Int)} {cs : List (List (List Int))} : Ahead l c t → Still t cs → Still l (c :: cs)
theorem calls_still : ∀ (f : Nat) (l : List Int) (cs : List (List (List Int))), PyFlat.calls PyOc07.shape f l = some cs → Still l cs
  | f, [], cs, h => by
    have : cs = [] := by
      cases f <;> simpa [PyFlat.calls] using h.symm
    subst this
    exact .nil
  | 0, p :: r, cs, h => by cases h
  | f + 1, p :: r, cs, h => by
    unfold PyFlat.calls at h
    cases hc : PyFlat.call PyOc07.shape (p :: r) with
    | none => rw [hc] at h; cases h
    | some y =>
      obtain ⟨c, t⟩ := y
      rw [hc] at h
      simp only at h
      cases ht : PyFlat.calls PyOc07.shape f t with
      | none => rw [ht] at h; cases h
      | some cs' =>
        rw [ht] at h
        have h := Option.some.inj h
        subst h
        exact .cons (call_ahead hc) (calls_still f t cs' ht)
theorem still_whole {l : List Int} {cs : List (List (List Int))} (h : Still l cs) : cs.map PyOc07.whole = cs := by
  induction h with
  | nil => rfl
  | cons h1 h2 ih => rw [List.map_cons, ahead_whole h1, ih]
/-- all the rest tells -/
def due (h : Oc07.House) (cs : List (List (List Int))) : List Int := PyFlat.told (PyFlat.played Oc07Neutral.step h cs)
theorem due_cons (h : Oc07.House) (c : List (List Int)) (cs : List (List (List Int))) : due h (c :: cs) = ((Oc07Neutral.step h c).2.length : Int) :: (Oc07Neutral.step h c).2 ++ due (Oc07Neutral.step h c).1 cs := by
  unfold due
  simp only [PyFlat.played, PyFlat.told, List.flatMap_cons]
theorem answers_due {l : List Int} {raw : List (List (List Int))} (h : PyFlat.calls PyOc07.shape l.length l = some raw) : PyOc07.answers l = due Oc07.init raw := by
  unfold PyOc07.answers PyOc07.calls
  rw [h]
  simp only
  rw [still_whole (calls_still _ _ _ h)]
  rfl
/-- what is asked of the list -/
theorem asked_is {l : List Int} (h : PyOc07.answers_asked l = true) : ∃ raw, Still l raw ∧ PyOc07.answers l = due Oc07.init raw ∧ (∀ c ∈ raw, PyInside.call PyOc07.bound c = true) ∧ (PyOc07.answers l).length ≤ 10000000 := by
  unfold PyOc07.answers_asked at h
  cases hc : PyFlat.calls PyOc07.shape l.length l with
  | none => rw [hc] at h; cases h
  | some raw =>
    rw [hc] at h
    simp only [Bool.and_eq_true] at h
    refine ⟨raw, calls_still _ _ _ hc, answers_due hc, ?_, ?_⟩
    · have := h.1.1.2
      unfold PyInside.calls at this
      exact List.all_eq_true.mp this
    · exact of_decide_eq_true h.2
def intsOf (l : List Nat) : List Int := l.map fun (n : Nat) => (n : Int)
theorem nats_ints {r : List Int} (h : ∀ x ∈ r, 0 ≤ x) : intsOf (Oc07Neutral.nats r) = r := by
  unfold intsOf Oc07Neutral.nats
  rw [List.map_map]
  refine (List.map_congr_left (g := id) fun x hx => ?_).trans (List.map_id _)
  exact Int.toNat_of_nonneg (h x hx)
theorem row_in {p : Int} {r : List Int} (hp : 1 ≤ p ∧ p ≤ 5) (h : PyInside.call PyOc07.bound [[p], r] = true) : r.length ≤ 30 ∧ ∀ x ∈ r, 0 ≤ x := by
  have : p = 1 ∨ p = 2 ∨ p = 3 ∨ p = 4 ∨ p = 5 := by omega
  rcases this with rfl | rfl | rfl | rfl | rfl
  all_goals
    have h : ((decide (0 ≤ r.length) && decide (r.length ≤ 30) && r.all (PyInside.within 0 4294967295)) && true) = true := h
    simp only [Bool.and_eq_true, decide_eq_true_eq, List.all_eq_true] at h
    refine ⟨h.1.1.2, fun x hx => ?_⟩
    have := h.1.2 x hx
    unfold PyInside.within at this
    simp only [Bool.and_eq_true, decide_eq_true_eq] at this
    exact this.1
theorem drop_in {x : Int} (h : PyInside.call PyOc07.bound [[7, x]] = true) : 0 ≤ x := by
  have h : (PyInside.within 0 4294967295 x && true) && true = true := h
  unfold PyInside.within at h
  simp only [Bool.and_eq_true, decide_eq_true_eq] at h
  exact h.1.1.1
end Ex

namespace Py
open PySem PySem.Spec PyProof.Rows L2 Ex
/-! ## the program's text -/
def topS (i : Nat) : Stmt := PySem.Challenge.pw_exceptranks_s01_answers.main.body.getD i (.Pass ⟨0, 0, 0, 0⟩)
/-! ## what may be called -/
structure Cal (P : Program) (w : World) (K : PySem.W.Frag) (mg : Str → Option Value) (base : Heap) (k : Nat) (x : Str) (sp : Sp) : Prop where
  ex : ∃ (f : Addr) (fd : FuncData) (ps : List Str), FnOk P w K mg base CX0 k f fd ps sp ∧ mg x = some (.ref f) ∧ PySem.W.keepIn K (.ref f) = true ∧ Binds K fd ps []
structure Met (P : Program) (w : World) (K : PySem.W.Frag) (mg : Str → Option Value) (base : Heap) (k : Nat) (C : Addr) (m : Str) (sp : Sp) : Prop where
  ex : ∃ (f : Addr) (fd : FuncData) (ps : List Str), Cls K C ∧ Meth K C m f ∧ FnOk P w K mg base CX0 k f fd ps sp ∧ Binds K fd ps []
structure Mak (P : Program) (w : World) (K : PySem.W.Frag) (mg : Str → Option Value) (base : Heap) (k : Nat) (x : Str) (C : Addr) (sp : Sp) : Prop where
  ex : ∃ (f : Addr) (fd : FuncData) (ps : List Str), Mk K C f ∧ FnOk P w K mg base CX0 k f fd ps sp ∧ mg x = some (.ref C) ∧ Binds K fd ps []
section
variable {X : Cx} {k j : Nat} {C : Addr} {x m : Str} {sp : Sp} {p pos apos : Pos} {e o : Expr} {es : List Expr} {ta : TE} {t : TA}
theorem pe_c (c : Cal X.prog X.w X.K X.mg X.base k x sp) (hr : Room j X.A) (hk : k ≤ j) (hg : Gl X x) (ha : PA X (e :: es) t)
    (hdb : (x == ("__debug__" : Str)) = false := by decide) (he : starEach (e :: es) X.env = (false, eval e X.env) :: starEach es X.env := by rfl) (hpl : (backTo pos (starEach es X.env)).any (·.1) = false := by rfl) :
    PE X (.Call (.Name x p) (e :: es) [] pos) (tCall sp [] E0 t) := by
  obtain ⟨f, fd, ps, F, hm, kp, b⟩ := c.ex
  exact pe_call F (hr.mono hk) hg hm kp b .nil pass0 ha hdb he hpl
theorem pe_mk (c : Mak X.prog X.w X.K X.mg X.base k x C sp) (hr : Room j X.A) (hk : k + 1 ≤ j) (hg : Gl X x) (ha : PA X (e :: es) t)
    (hdb : (x == ("__debug__" : Str)) = false := by decide) (he : starEach (e :: es) X.env = (false, eval e X.env) :: starEach es X.env := by rfl) (hpl : (backTo pos (starEach es X.env)).any (·.1) = false := by rfl) :
    PE X (.Call (.Name x p) (e :: es) [] pos) (tMake C sp [] E0 t) := by
  obtain ⟨f, fd, ps, M, F, hm, b⟩ := c.ex
  exact pe_make M F (hr.mono hk) hg hm b .nil pass0 ha hdb he hpl
theorem pe_mk0 (c : Mak X.prog X.w X.K X.mg X.base k x C sp) (hr : Room j X.A) (hk : k + 1 ≤ j) (hg : Gl X x)
    (hdb : (x == ("__debug__" : Str)) = false := by decide) :
    PE X (.Call (.Name x p) [] [] pos) (tMake C sp [] E0 tNil) := by
  obtain ⟨f, fd, ps, M, F, hm, b⟩ := c.ex
  exact pe_make0 M F (hr.mono hk) hg hm b .nil pass0 hdb
theorem pe_mt {pl : Sem Bool} (c : Met X.prog X.w X.K X.mg X.base k C m sp) (hr : Room j X.A) (hk : k ≤ j) (he : PE X o ta) (ha : PA X (e :: es) t)
    (hst : starEach (e :: es) X.env = (false, eval e X.env) :: starEach es X.env := by rfl) (hpl : (backTo pos (starEach es X.env)).any (·.1) = false := by rfl)
    (ht : eval (.Call (.Attribute o m apos) (e :: es) [] pos) X.env = (do
      let ov ← eval o X.env
      standAt apos.atName
      let (f, first) ← holding [ov] (getMethod ov m pl)
      callWith pos f first (backTo pos (starEach (e :: es) X.env)) (backToKw pos (keywordEach [] X.env))) := by rfl) :
    PE X (.Call (.Attribute o m apos) (e :: es) [] pos) (tMeth C m sp [] E0 ta t) := by
  obtain ⟨f, fd, ps, hc, hm, F, b⟩ := c.ex
  exact pe_meth (pl := pl) he hc hm F (hr.mono hk) b .nil pass0 ha hst hpl ht
theorem pe_mt0 {pl : Sem Bool} (c : Met X.prog X.w X.K X.mg X.base k C m sp) (hr : Room j X.A) (hk : k ≤ j) (he : PE X o ta)
    (ht : eval (.Call (.Attribute o m apos) [] [] pos) X.env = (do
      let ov ← eval o X.env
      standAt apos.atName
      let (f, first) ← holding [ov] (getMethod ov m pl)
      callWith pos f first (backTo pos (starEach [] X.env)) (backToKw pos (keywordEach [] X.env))) := by rfl) :
    PE X (.Call (.Attribute o m apos) [] [] pos) (tMeth C m sp [] E0 ta tNil) := by
  obtain ⟨f, fd, ps, hc, hm, F, b⟩ := c.ex
  exact pe_meth0 (pl := pl) he hc hm F (hr.mono hk) b .nil pass0 ht
/-! within a comprehension -/
theorem ix_seqK {K : PySem.W.Frag} (h : X.K = K) : IxR X (rIx K) := by
  subst h
  exact ix_seq
theorem op_in_seqK {K : PySem.W.Frag} (h : X.K = K) : OpR X (compareOp .In) (rIn K false) := by
  subst h
  exact op_in_seq
theorem op_inDK {K : PySem.W.Frag} (h : X.K = K) (hu : X.A.units + 65 < cLine) : OpR X (compareOp .In) (rInD K) := by
  subst h
  exact op_inD hu
theorem op_notInDK {K : PySem.W.Frag} (h : X.K = K) (hu : X.A.units + 65 < cLine) : OpR X (compareOp .NotIn) (rNotInD K) := by
  subst h
  exact op_notInD hu
theorem pe_fldK {K : PySem.W.Frag} (h : X.K = K) {f : Str} (he : PE X e ta) (hb : attributeBase e f X.env (eval e X.env) = eval e X.env) : PE X (.Attribute e f pos) (tFld K ta f) := by
  subst h
  exact pe_fld he hb
/-- a name of the module, by its value -/
theorem pe_gc {v : V} (hg : Gl X x) (h : ∃ u, X.mg x = some u ∧ RelV v u) (hd : (x == ("__debug__" : Str)) = false := by decide) : PE X (.Name x pos) (tC v) := by
  obtain ⟨u, hm, r⟩ := h
  exact pe_glob hg hm r hd
end
/-! ## what the top has written -/
structure Txt (K : PySem.W.Frag) (mg : Str → Option Value) (aP aH : Addr) : Prop where
  c_EVERYTHING : ∃ u, mg "EVERYTHING" = some u ∧ RelV (.int 0) u
  c_NOTHING : ∃ u, mg "NOTHING" = some u ∧ RelV (.int 1) u
  c_NAME : ∃ u, mg "NAME" = some u ∧ RelV (.int 2) u
  c_BOTH : ∃ u, mg "BOTH" = some u ∧ RelV (.int 3) u
  c_EITHER : ∃ u, mg "EITHER" = some u ∧ RelV (.int 4) u
  c_LACKING : ∃ u, mg "LACKING" = some u ∧ RelV (.int 5) u
  c_TO_SOME : ∃ u, mg "TO_SOME" = some u ∧ RelV (.int 6) u
  c_TO_ALL : ∃ u, mg "TO_ALL" = some u ∧ RelV (.int 7) u
  c_MOST_AXIOMS : ∃ u, mg "MOST_AXIOMS" = some u ∧ RelV (.int 3) u
  c_MOST_RULES : ∃ u, mg "MOST_RULES" = some u ∧ RelV (.int 4) u
  c_MOST_ATOMS : ∃ u, mg "MOST_ATOMS" = some u ∧ RelV (.int 4) u
  c_BEGINS : ∃ u, mg "BEGINS" = some u ∧ RelV (.int 0) u
  c_LINE : ∃ u, mg "LINE" = some u ∧ RelV (.int 1) u
  c_RULE : ∃ u, mg "RULE" = some u ∧ RelV (.int 2) u
  c_NORMALLY : ∃ u, mg "NORMALLY" = some u ∧ RelV (.int 3) u
  c_ALWAYS : ∃ u, mg "ALWAYS" = some u ∧ RelV (.int 4) u
  c_RANK : ∃ u, mg "RANK" = some u ∧ RelV (.int 5) u
  c_RANKS : ∃ u, mg "RANKS" = some u ∧ RelV (.int 6) u
  c_DROP : ∃ u, mg "DROP" = some u ∧ RelV (.int 7) u
  c_PARTS : ∃ u, mg "PARTS" = some u ∧ RelV (.ref aP) u
  c_CHOICES : ∃ u, mg "CHOICES" = some u ∧ RelV (.ref aH) u
  s_PARTS : ∀ H, SqT K H aP ([0, 0, 0, 2, 2, 1, 1, 1].map fun (n : Nat) => V.int (n : Int))
  s_CHOICES : ∀ H, SqT K H aH ([0, 0, 4, 0, 0, 0, 2, 2].map fun (n : Nat) => V.int (n : Int))
  b_len : mg "len" = none
  b_range : mg "range" = none
  b_enumerate : mg "enumerate" = none
  b_reversed : mg "reversed" = none
  b_tuple : mg "tuple" = none
  b_list : mg "list" = none
/-! ## data in the heap -/
/-- whole numbers -/
def nz (l : List Nat) : List V := l.map fun (n : Nat) => V.int (n : Int)
/-- a list or a tuple of these -/
def Sq (K : PySem.W.Frag) (H : Hp) (a : Addr) (xs : List V) : Prop := SqL K H a xs ∨ SqT K H a xs
theorem same_l {K : PySem.W.Frag} {H H' : Hp} {a : Addr} {xs : List V} (e : Same H H') (h : SqL K H a xs) : SqL K H' a xs := e.seq h
theorem same_rd {H H' : Hp} {a : Addr} {u : HO} (e : Same H H') (h : Rd H a u) : Rd H' a u := by
  rcases h with h | ⟨o, h⟩
  · exact Or.inl (e a _ h)
  · exact Or.inr ⟨o, e a _ h⟩
theorem same_t {K : PySem.W.Frag} {H H' : Hp} {a : Addr} {xs : List V} (e : Same H H') (h : SqT K H a xs) : SqT K H' a xs := by
  rcases h with h | h
  · exact Or.inl (same_rd e h)
  · exact Or.inr h
theorem Sq.same {K : PySem.W.Frag} {H H' : Hp} {a : Addr} {xs : List V} (e : Same H H') (h : Sq K H a xs) : Sq K H' a xs := h.imp (same_l e) (same_t e)
theorem same_new {H : Hp} {p : Addr} {o : HO} (h : H p = none) : Same H (upd H p o) := fun a u e => by
  rw [upd_ne (ne_of_none e h)]
  exact e
/-- a new object may change -/
theorem same_mut {H H' : Hp} {p : Addr} {o : HO} (e : Same H H') (h : H p = none) : Same H (upd H' p o) := fun a u ha => by
  rw [upd_ne (ne_of_none ha h)]
  exact e a u ha
theorem nz_len (l : List Nat) : (nz l).length = l.length := by simp [nz]
theorem nz_at {l : List Nat} {i : Nat} {x : Nat} (h : l[i]? = some x) : (nz l)[i]? = some (V.int (x : Int)) := by
  simp [nz, h]
theorem atI_nz {l : List Nat} {i : Nat} {x : Nat} (h : l[i]? = some x) : atI (nz l) (i : Int) = some (V.int (x : Int)) := atI_nat (nz_at h)
theorem nz_app (l m : List Nat) : nz (l ++ m) = nz l ++ nz m := by simp [nz]
/-- the index of a list or tuple -/
theorem ix_of {K : PySem.W.Frag} {H : Hp} {a : Addr} {xs : List V} {i : Int} {v : V} {Q : VK} (h : Sq K H a xs) (e : atI xs i = some v) (q : Q v H) : rIx K (.ref a) (.int i) H Q := by
  rcases h with h | h
  · exact Or.inl ⟨a, xs, i, v, rfl, rfl, h, e, q⟩
  · exact Or.inr (Or.inl ⟨a, xs, i, v, rfl, rfl, h, e, q⟩)
theorem ixT_of {K : PySem.W.Frag} {H : Hp} {a : Addr} {xs : List V} {i : Int} {v : V} {Q : VK} (h : SqT K H a xs) (e : atI xs i = some v) (q : Q v H) : rIx K (.ref a) (.int i) H Q := Or.inr (Or.inl ⟨a, xs, i, v, rfl, rfl, h, e, q⟩)
theorem ixL_of {K : PySem.W.Frag} {H : Hp} {a : Addr} {xs : List V} {i : Int} {v : V} {Q : VK} (h : SqL K H a xs) (e : atI xs i = some v) (q : Q v H) : rIx K (.ref a) (.int i) H Q := Or.inl ⟨a, xs, i, v, rfl, rfl, h, e, q⟩
theorem if_t {c : Bool} {A B : Prop} (hc : c = true) (h : A) : if c = true then A else B := by
  rw [if_pos hc]
  exact h
theorem if_f {c : Bool} {A B : Prop} (hc : c = false) (h : B) : if c = true then A else B := by
  rw [hc, if_neg Bool.false_ne_true]
  exact h
end Py

namespace Py
open PySem PySem.Spec PyProof.Rows L2 Ex
section
variable {P : Program} {w : World} {K : PySem.W.Frag} {mg : Str → Option Value} {base : Heap} {aP aH : Addr}
theorem drop_cons {l : List Nat} {i : Nat} (h : i < l.length) : l.drop i = l[i] :: l.drop (i + 1) := List.drop_eq_getElem_cons h
theorem parts_at {h : Nat} (hh : h < 8) : ([0, 0, 0, 2, 2, 1, 1, 1] : List Nat)[h]? = some (parts h) := by
  have : h = 0 ∨ h = 1 ∨ h = 2 ∨ h = 3 ∨ h = 4 ∨ h = 5 ∨ h = 6 ∨ h = 7 := by omega
  rcases this with rfl | rfl | rfl | rfl | rfl | rfl | rfl | rfl <;> rfl
theorem choices_at {h : Nat} (hh : h < 8) : ([0, 0, 4, 0, 0, 0, 2, 2] : List Nat)[h]? = some (choices h) := by
  have : h = 0 ∨ h = 1 ∨ h = 2 ∨ h = 3 ∨ h = 4 ∨ h = 5 ∨ h = 6 ∨ h = 7 := by omega
  rcases this with rfl | rfl | rfl | rfl | rfl | rfl | rfl | rfl <;> rfl
theorem dec_f {p : Prop} [Decidable p] (h : ¬ p) : decide p = false := decide_eq_false h
theorem dec_t {p : Prop} [Decidable p] (h : p) : decide p = true := decide_eq_true h
abbrev s_is_head : Stmt := topS 11
theorem sc_is_head : FnScope ["numbers", "at", "choices"] ["numbers", "at"] (defScope s_is_head) := ⟨rfl, rfl, rfl, by decide +kernel, rfl, by decide +kernel, by decide +kernel⟩
def sp_is_head (K : PySem.W.Frag) : Sp := fun vs H Q _ => ∃ (a : Addr) (l : List Nat) (i : Nat), vs = [.ref a, .int (i : Int)] ∧ Sq K H a (nz l) ∧ Q (.bl (headOk (l.drop i))) H
theorem ok_is_head {f : Addr} {fd : FuncData} (F : Fun K "is_head" "is_head" s_is_head f fd) (T : Txt K mg aP aH) : FnOk P w K mg base CX0 1 f fd ["numbers", "at"] (sp_is_head K) := by
  refine F.ok sc_is_head (fun vs H Q E h => ?_) (fun cdv A outer s H vs Q E hr h => ?_)
  · obtain ⟨a, l, i, rfl, _⟩ := h
    rfl
  · refine ⟨_, (pss_cons (ps_if (PW.pt (pw_or (pt_cmpR op_ge (pv 1) (pe_callB call_len_seq (by rfl) T.b_len PySem.boot_len (pa_cons (pv 0) pa_nil)) (nomark _)) (pw_or1 (pt_cmpR op_ge (pe_ix ix_seq (pv 0) (pv 1) (fun _ _ => rfl)) (pe_callB call_len_seq (by rfl) T.b_len PySem.boot_len (pa_cons (pe_gc rfl T.c_PARTS) pa_nil)) (nomark _)))))
        (pss_one (ps_ret pe_bl))
        pss_nil)
      (pss_cons (ps_set (i := 2) sc_is_head.nd rfl (Or.inl rfl) (pe_ix ix_tup (pe_gc rfl T.c_CHOICES) (pe_ix ix_seq (pv 0) (pv 1) (fun _ _ => rfl)) (fun _ _ => rfl)))
      (pss_cons (ps_if (pt_cmpR op_eq (pv 2) pe_int (nomark _))
        (pss_one (ps_ret pe_bl))
        pss_nil)
      (pss_one (ps_ret (pe_and (pe_cmpR op_lt (pe_op op_add (pv 1) pe_int) (pe_callB call_len_seq (by rfl) T.b_len PySem.boot_len (pa_cons (pv 0) pa_nil)) (nomark _)) (pe_one (pe_cmpR op_lt (pe_ix ix_seq (pv 0) (pe_op op_add (pv 1) pe_int) (fun _ _ => rfl)) (pv 2) (nomark _))))))))), ?_⟩
    obtain ⟨a, l, i, rfl, hs, q⟩ := h
    refine ⟨_, rfl, _, rfl, a, _, rfl, hs, _, _, rfl, rfl, _, rfl, ?_⟩
    rw [nz_len]
    by_cases hi : i < l.length
    · refine if_f (dec_f (by omega)) ?_
      have e := drop_cons hi
      have e1 : l[i]? = some l[i] := List.getElem?_eq_getElem hi
      refine ⟨_, rfl, _, rfl, ix_of hs (atI_nz e1) ?_⟩
      refine ⟨aP, _, rfl, Or.inr (T.s_PARTS _), _, _, rfl, rfl, _, rfl, ?_⟩
      rw [e] at q
      by_cases h8 : l[i] < 8
      · refine if_f (dec_f ?_) ?_
        · simp
          omega
        refine ⟨_, rfl, _, rfl, ix_of hs (atI_nz e1) ?_⟩
        refine ⟨aH, _, _, _, rfl, rfl, T.s_CHOICES _, atI_nz (choices_at h8), ?_⟩
        refine ⟨_, rfl, rfl, _, rfl, ?_⟩
        by_cases hc : choices l[i] = 0
        · refine if_t ?_ ?_
          · simp [hc]
          refine (?_ : Q (.bl true) H)
          have : headOk (l[i] :: l.drop (i + 1)) = true := by simp [headOk, h8, hc]
          rw [this] at q
          exact q
        · refine if_f ?_ ?_
          · simp [hc]
          refine ⟨_, rfl, _, _, rfl, rfl, _, rfl, a, _, rfl, hs, _, _, rfl, rfl, _, rfl, ?_⟩
          rw [nz_len]
          by_cases hi2 : i + 1 < l.length
          · have e2 : l[i + 1]? = some l[i + 1] := List.getElem?_eq_getElem hi2
            refine if_t (dec_t (by omega)) ?_
            refine ⟨_, rfl, _, rfl, _, _, rfl, rfl, ix_of hs (v := V.int (l[i + 1] : Nat)) (atI_nz (i := i + 1) e2) ?_⟩
            refine ⟨_, rfl, _, _, rfl, rfl, ?_⟩
            have : headOk (l[i] :: l.drop (i + 1)) = decide ((l[i + 1] : Int) < (choices l[i] : Int)) := by
              rw [drop_cons hi2]
              simp [headOk, h8, hc]
            rw [this] at q
            exact q
          · refine if_f (dec_f (by omega)) ?_
            have : headOk (l[i] :: l.drop (i + 1)) = false := by
              rw [List.drop_eq_nil_of_le (by omega)]
              simp [headOk, hc]
            rw [this] at q
            exact q
      · refine if_t (dec_t ?_) ?_
        · simp
          omega
        refine (?_ : Q (.bl false) H)
        have : headOk (l[i] :: l.drop (i + 1)) = false := by simp [headOk, h8]
        rw [this] at q
        exact q
    · refine if_t (dec_t (by omega)) ?_
      refine (?_ : Q (.bl false) H)
      rw [List.drop_eq_nil_of_le (by omega)] at q
      exact q

/-! ### head_length -/
abbrev s_head_length : Stmt := topS 12
theorem sc_head_length : FnScope ["form"] ["form"] (defScope s_head_length) := ⟨rfl, rfl, rfl, by decide +kernel, rfl, by decide +kernel, by decide +kernel⟩
def sp_head_length : Sp := fun vs H Q _ => ∃ (h : Nat), vs = [.int (h : Int)] ∧ h < 8 ∧ Q (.int (hlen h : Nat)) H
theorem ok_head_length {f : Addr} {fd : FuncData} (F : Fun K "head_length" "head_length" s_head_length f fd) (T : Txt K mg aP aH) : FnOk P w K mg base CX0 1 f fd ["form"] sp_head_length := by
  refine F.ok sc_head_length (fun vs H Q E h => ?_) (fun cdv A outer s H vs Q E hr h => ?_)
  · obtain ⟨i, rfl, _⟩ := h
    rfl
  · refine ⟨_, (pss_one (ps_ret (pe_ifExp (pt_cmpR op_gt (pe_ix ix_tup (pe_gc rfl T.c_CHOICES) (pv 0) (fun _ _ => rfl)) pe_int (nomark _)) pe_int pe_int))), ?_⟩
    obtain ⟨h, rfl, h8, q⟩ := h
    refine ⟨_, rfl, aH, _, _, _, rfl, rfl, T.s_CHOICES _, atI_nz (choices_at h8), _, _, rfl, rfl, _, rfl, ?_⟩
    by_cases c : 0 < choices h
    · refine if_t (dec_t (by omega)) ?_
      have : hlen h = 2 := if_pos c
      rw [this] at q
      exact q
    · refine if_f (dec_f (by omega)) ?_
      have : hlen h = 1 := if_neg c
      rw [this] at q
      exact q
/-! ### concept_end -/
theorem headOk_lt {l : List Nat} (h : headOk l = true) : ∃ x r, l = x :: r ∧ x < 8 ∧ hlen x ≤ l.length := by
  cases l with
  | nil => simp [headOk] at h
  | cons x r =>
    simp only [headOk, Bool.and_eq_true, decide_eq_true_eq, Bool.or_eq_true] at h
    refine ⟨x, r, rfl, h.1, ?_⟩
    unfold hlen
    by_cases c : 0 < choices x
    · rw [if_pos c]
      have h2 := h.2
      cases r with
      | nil =>
        simp at h2
        omega
      | cons a b => simp
    · rw [if_neg c]
      simp
theorem skip_step {f m : Nat} {l : List Nat} (h : headOk l = true) : skip (f + 1) (m + 1) l = skip f (m + parts (l.headD 0)) (l.drop (hlen (l.headD 0))) := by
  show (if headOk l = true then _ else _) = _
  rw [if_pos h]
theorem skip_no {f m : Nat} {l : List Nat} (h : headOk l = false) : skip (f + 1) (m + 1) l = none := by
  show (if headOk l = true then _ else _) = _
  rw [h, if_neg Bool.false_ne_true]
abbrev s_concept_end : Stmt := topS 13
theorem sc_concept_end : FnScope ["numbers", "start", "at", "missing"] ["numbers", "start"] (defScope s_concept_end) := ⟨rfl, rfl, rfl, by decide +kernel, rfl, by decide +kernel, by decide +kernel⟩
def sp_concept_end (K : PySem.W.Frag) : Sp := fun vs H Q _ => ∃ (a : Addr) (l : List Nat) (s : Nat), vs = [.ref a, .int (s : Int)] ∧ Sq K H a (nz l) ∧ s ≤ l.length ∧
  (∀ r, rest1 (l.drop s) = some r → ∀ e : Nat, e ≤ l.length → l.drop e = r → s ≤ e → Q (.int (e : Int)) H) ∧ (rest1 (l.drop s) = none → Q .non H)
theorem ok_concept_end {f : Addr} {fd : FuncData} (F : Fun K "concept_end" "concept_end" s_concept_end f fd) (T : Txt K mg aP aH)
    (C_is_head : Cal P w K mg base 1 "is_head" (sp_is_head K)) (C_head_length : Cal P w K mg base 1 "head_length" sp_head_length) : FnOk P w K mg base CX0 2 f fd ["numbers", "start"] (sp_concept_end K) := by
  refine F.ok sc_concept_end (fun vs H Q E h => ?_) (fun cdv A outer s H vs Q E hr h => ?_)
  · obtain ⟨a, l, i, rfl, _⟩ := h
    rfl
  · refine ⟨_, (pss_cons (ps_set (i := 2) sc_concept_end.nd rfl (Or.inl rfl) (pv 1))
      (pss_cons (ps_set (i := 3) sc_concept_end.nd rfl (Or.inl rfl) pe_int)
      (pss_cons (ps_while PassesOwn.never (pt_cmpR op_gt (pv 3) pe_int (nomark _))
        (pss_cons (ps_if (pt_not (pt_val (pe_c C_is_head hr (by decide) rfl (pa_cons (pv 0) (pa_cons (pv 2) pa_nil)))))
          (pss_one (ps_ret pe_non))
          pss_nil)
        (pss_cons (ps_aug (i := 3) sc_concept_end.nd rfl (Or.inl rfl) (pe_op op_sub (pe_ix ix_tup (pe_gc rfl T.c_PARTS) (pe_ix ix_seq (pv 0) (pv 2) (fun _ _ => rfl)) (fun _ _ => rfl)) pe_int) iop_add)
        (pss_one (ps_aug (i := 2) sc_concept_end.nd rfl (Or.inl rfl) (pe_c C_head_length hr (by decide) rfl (pa_cons (pe_ix ix_seq (pv 0) (pv 2) (fun _ _ => rfl)) pa_nil)) iop_add)))))
      (pss_one (ps_ret (pv 2)))))), ?_⟩
    obtain ⟨a, l, st, rfl, hs, hst, q1, q2⟩ := h
    refine ⟨_, rfl, ?_⟩
    refine ⟨fun m σ H' => H' = H ∧ ∃ (i miss fu : Nat), σ = [some (.ref a), some (.int (st : Int)), some (.int (i : Int)), some (.int (miss : Int))] ∧ m = l.length - i ∧ st ≤ i ∧ i ≤ l.length ∧ l.length - i < fu ∧ skip fu miss (l.drop i) = rest1 (l.drop st),
      ⟨_, rfl, st, 1, (l.drop st).length + 1, rfl, rfl, Nat.le_refl _, hst, by rw [List.length_drop]; omega, rfl⟩, ?_⟩
    rintro m σ H' ⟨rfl, i, miss, fu, rfl, rfl, hi1, hi2, hf, he⟩
    refine ⟨_, rfl, _, _, rfl, rfl, _, rfl, ?_⟩
    by_cases c : 0 < miss
    · refine if_t (dec_t (by omega)) ?_
      obtain ⟨m1, rfl⟩ : ∃ m1, miss = m1 + 1 := ⟨miss - 1, by omega⟩
      obtain ⟨f1, rfl⟩ : ∃ f1, fu = f1 + 1 := ⟨fu - 1, by omega⟩
      refine ⟨fun σ' H'' => ∃ m', m' < l.length - i ∧ (H'' = H' ∧ ∃ (i miss fu : Nat), σ' = [some (.ref a), some (.int (st : Int)), some (.int (i : Int)), some (.int (miss : Int))] ∧ m' = l.length - i ∧ st ≤ i ∧ i ≤ l.length ∧ l.length - i < fu ∧ skip fu miss (l.drop i) = rest1 (l.drop st)), fun _ _ z => z, ?_⟩
      refine ⟨_, rfl, _, rfl, a, l, i, rfl, hs, _, rfl, ?_⟩
      cases c2 : headOk (l.drop i) with
      | false =>
        rw [skip_no c2] at he
        exact q2 he.symm
      | true =>
        rw [skip_step c2] at he
        obtain ⟨x, r, e1, x8, hl⟩ := headOk_lt c2
        have hlt : i < l.length := by
          rcases Nat.lt_or_ge i l.length with h | h
          · exact h
          · rw [List.drop_eq_nil_of_le h] at e1
            cases e1
        have ex : l[i] = x := by
          rw [drop_cons hlt] at e1
          exact (List.cons.inj e1).1
        have e2 : l[i]? = some x := by rw [List.getElem?_eq_getElem hlt, ex]
        rw [e1] at he
        rw [List.length_drop] at hl
        have hp := hlen_pos x
        refine ⟨_, rfl, _, rfl, _, rfl, ix_of hs (atI_nz e2) ?_⟩
        refine ⟨aP, _, _, _, rfl, rfl, T.s_PARTS _, atI_nz (parts_at x8), _, _, rfl, rfl, _, _, rfl, rfl, ?_⟩
        refine ⟨_, rfl, _, rfl, _, rfl, ix_of hs (atI_nz e2) ?_⟩
        refine ⟨x, rfl, x8, _, _, rfl, rfl, ?_⟩
        refine ⟨l.length - (i + hlen x), by omega, rfl, i + hlen x, m1 + parts x, f1, ?_, rfl, by omega, by omega, by omega, ?_⟩
        · have e3 : ((i : Int) + (hlen x : Nat)) = ((i + hlen x : Nat) : Int) := by omega
          have e4 : (((m1 + 1 : Nat) : Int) + (((parts x : Nat) : Int) - 1)) = ((m1 + parts x : Nat) : Int) := by omega
          rw [← e3, ← e4]
          rfl
        · have he : skip f1 (m1 + parts x) (List.drop (hlen x) (x :: r)) = rest1 (List.drop st l) := he
          rw [← e1, List.drop_drop] at he
          exact he
    · refine if_f (dec_f (by omega)) ?_
      have e : miss = 0 := by omega
      subst e
      rw [skip_zero] at he
      refine ⟨_, rfl, ?_⟩
      exact q1 _ he.symm i hi2 rfl hi1

/-! ### data -/
def Ct (H : Hp) (v : V) (c : Oc.C) : Prop := wf c ∧ ∃ a, v = .ref a ∧ H a = some (.tup (nz (enc c)))
def Pr (H : Hp) (v : V) (p : Oc.C × Oc.C) : Prop := ∃ a v1 v2, v = .ref a ∧ H a = some (.tup [v1, v2]) ∧ Ct H v1 p.1 ∧ Ct H v2 p.2
theorem Ct.same {H H' : Hp} {v : V} {c : Oc.C} (e : Same H H') (h : Ct H v c) : Ct H' v c := by
  obtain ⟨w, a, rfl, h⟩ := h
  exact ⟨w, a, rfl, e _ _ h⟩
theorem Pr.same {H H' : Hp} {v : V} {p : Oc.C × Oc.C} (e : Same H H') (h : Pr H v p) : Pr H' v p := by
  obtain ⟨a, v1, v2, rfl, h, h1, h2⟩ := h
  exact ⟨a, v1, v2, rfl, e _ _ h, h1.same e, h2.same e⟩
theorem cut_to {l : List Nat} {k : Nat} (h : k ≤ l.length) : cutV (nz l) none (some (k : Int)) = nz (l.take k) := by
  unfold cutV
  rw [HT.sIx_none, HT.sIx_nat, nz_len, List.drop_zero, Nat.sub_zero, Nat.min_eq_left h]
  unfold nz
  rw [List.map_take]
theorem cut_from {l : List Nat} {k : Nat} (h : k ≤ l.length) : cutV (nz l) (some (k : Int)) none = nz (l.drop k) := by
  unfold cutV
  rw [HT.sIx_none, HT.sIx_nat, nz_len, Nat.min_eq_left h]
  unfold nz
  rw [← List.map_drop, ← List.map_take, List.take_of_length_le (by rw [List.length_drop]; exact Nat.le_refl _)]
theorem cut_mid {l : List Nat} {j k : Nat} (h1 : j ≤ k) (h : k ≤ l.length) : cutV (nz l) (some (j : Int)) (some (k : Int)) = nz ((l.drop j).take (k - j)) := by
  unfold cutV
  rw [HT.sIx_nat, HT.sIx_nat, nz_len, Nat.min_eq_left h, Nat.min_eq_left (by omega)]
  unfold nz
  rw [← List.map_drop, ← List.map_take]
/-! ### two_concepts -/
abbrev s_two_concepts : Stmt := topS 15
theorem sc_two_concepts : FnScope ["numbers", "middle"] ["numbers"] (defScope s_two_concepts) := ⟨rfl, rfl, rfl, by decide +kernel, rfl, by decide +kernel, by decide +kernel⟩
def sp_two_concepts (K : PySem.W.Frag) : Sp := fun vs H Q _ => ∃ (a : Addr) (l : List Nat), vs = [.ref a] ∧ SqL K H a (nz l) ∧
  (Oc.two l = none → Q .non H) ∧ (∀ p, Oc.two l = some p → ∀ v H', Same H H' → Pr H' v p → Q v H')
theorem rest_len {l : List Nat} {r : List Nat} (h : rest1 l = some r) : ∃ c, wf c ∧ l = enc c ++ r ∧ l.drop (enc c).length = r ∧ (enc c).length ≤ l.length := by
  obtain ⟨c, w, rfl⟩ := rest1_some h
  exact ⟨c, w, rfl, by simp, by simp⟩
theorem ok_two_concepts {f : Addr} {fd : FuncData} (F : Fun K "two_concepts" "two_concepts" s_two_concepts f fd) (T : Txt K mg aP aH)
    (C_concept_end : Cal P w K mg base 2 "concept_end" (sp_concept_end K)) : FnOk P w K mg base CX0 3 f fd ["numbers"] (sp_two_concepts K) := by
  refine F.ok sc_two_concepts (fun vs H Q E h => ?_) (fun cdv A outer s H vs Q E hr h => ?_)
  · obtain ⟨a, l, rfl, _⟩ := h
    rfl
  · refine ⟨_, (pss_cons (ps_set (i := 1) sc_two_concepts.nd rfl (Or.inl rfl) (pe_c C_concept_end hr (by decide) rfl (pa_cons (pv 0) (pa_cons pe_int pa_nil))))
      (pss_cons (ps_if (PW.pt (pw_or (pt_cmpR op_isN (pv 1) pe_non (nomark _)) (pw_or1 (pt_cmpR op_ne (pe_c C_concept_end hr (by decide) rfl (pa_cons (pv 0) (pa_cons (pv 1) pa_nil))) (pe_callB call_len_seq (by rfl) T.b_len PySem.boot_len (pa_cons (pv 0) pa_nil)) (nomark _)))))
        (pss_one (ps_ret pe_non))
        pss_nil)
      (pss_one (ps_ret (pe_tup (pa_cons (pe_callTy call_tuple_of (by rfl) T.b_tuple (by decide +kernel) (pa_cons (pe_slice sl_list (pv 0) po_none (po_some (pv 1))) pa_nil)) (pa_cons (pe_callTy call_tuple_of (by rfl) T.b_tuple (by decide +kernel) (pa_cons (pe_slice sl_list (pv 0) (po_some (pv 1)) po_none) pa_nil)) pa_nil))))))), ?_⟩
    obtain ⟨a, l, rfl, hs, q1, q2⟩ := h
    refine ⟨_, rfl, a, l, 0, rfl, Or.inl hs, Nat.zero_le _, ?_, ?_⟩
    · intro r hrr e he hd _
      rw [List.drop_zero] at hrr
      obtain ⟨c, wc, e1, e2, e3⟩ := rest_len hrr
      have eq : e = (enc c).length := by
        have h1 := congrArg List.length hd
        have h2 := congrArg List.length e2
        rw [List.length_drop] at h1 h2
        omega
      refine ⟨_, rfl, rfl, _, rfl, ?_⟩
      refine if_f (dec_f (by simp)) ?_
      refine ⟨_, rfl, _, rfl, a, l, e, rfl, Or.inl hs, he, ?_, ?_⟩
      · intro r2 hr2 e' he' hd' hle
        rw [hd] at hr2
        refine ⟨_, rfl, a, _, rfl, Or.inl hs, rfl, _, rfl, ?_⟩
        rw [nz_len]
        by_cases hl : e' = l.length
        · have r2n : r2 = [] := by rw [← hd', hl, List.drop_length]
          rw [r2n] at hr2
          obtain ⟨p, hp, w1, w2, ea, eb⟩ := two_yes hrr hr2
          refine if_f ?_ ?_
          · simp [hl]
          have el : (enc p.1).length = e := by
            have h1 := congrArg List.length ea
            have h2 := congrArg List.length e1
            rw [List.length_append] at h1 h2
            omega
          have et : l.take e = enc p.1 := by rw [ea, ← el, List.take_left]
          have ed : l.drop e = enc p.2 := by rw [hd, eb]
          refine ⟨_, rfl, _, rfl, _, rfl, a, _, rfl, hs, fun b1 n1 => ?_⟩
          rw [cut_to he, et]
          refine ⟨b1, _, rfl, Or.inl ⟨SqL.of upd_same, fun b2 n2 => ?_⟩⟩
          have s1 : Same H (upd (upd H b1 (.lst (nz (enc p.1)))) b2 (.tup (nz (enc p.1)))) := (same_new n1).trans (same_new n2)
          refine ⟨_, rfl, _, rfl, _, rfl, a, _, rfl, same_l s1 hs, fun b3 n3 => ?_⟩
          rw [cut_from he, ed]
          refine ⟨b3, _, rfl, Or.inl ⟨SqL.of upd_same, fun b4 n4 => ?_⟩⟩
          refine ⟨by show 2 ≤ sizeLine; decide, fun b5 n5 => ?_⟩
          have s2 := (same_new (o := .lst (nz (enc p.2))) n3).trans (same_new (o := .tup (nz (enc p.2))) n4)
          have s3 := s2.trans (same_new (o := .tup [.ref b2, .ref b4]) n5)
          refine q2 p hp _ _ (s1.trans s3) ⟨b5, .ref b2, .ref b4, rfl, upd_same, ⟨w1, b2, rfl, s3 _ _ upd_same⟩, ⟨w2, b4, rfl, same_new n5 _ _ upd_same⟩⟩
        · refine if_t ?_ ?_
          · have : ((e' : Int) = (l.length : Int)) ↔ e' = l.length := by omega
            simp [this, hl]
          refine q1 (two_none2 hrr ?_)
          rw [hr2]
          intro z
          have z := Option.some.inj z
          rw [z] at hd'
          have := congrArg List.length hd'
          rw [List.length_drop] at this
          simp at this
          omega
      · intro hn
        refine ⟨_, rfl, a, _, rfl, Or.inl hs, rfl, _, rfl, ?_⟩
        refine if_t ?_ ?_
        · simp
        refine q1 (two_none2 hrr ?_)
        rw [hd] at hn
        rw [hn]
        intro z
        cases z
    · intro hn
      rw [List.drop_zero] at hn
      refine ⟨_, rfl, rfl, _, rfl, ?_⟩
      refine if_t (dec_t rfl) ?_
      exact q1 (two_none1 hn)
/-! ### one_concept -/
theorem concept_no {l : List Nat} (k : rest1 l ≠ some []) : Oc.concept l = none := by
  cases h : Oc.concept l with
  | none => rfl
  | some c =>
    obtain ⟨w, rfl⟩ := concept_some h
    have e := rest1_enc w []
    rw [List.append_nil] at e
    exact absurd e k
abbrev s_one_concept : Stmt := topS 14
theorem sc_one_concept : FnScope ["numbers"] ["numbers"] (defScope s_one_concept) := ⟨rfl, rfl, rfl, by decide +kernel, rfl, by decide +kernel, by decide +kernel⟩
def sp_one_concept (K : PySem.W.Frag) : Sp := fun vs H Q _ => ∃ (a : Addr) (l : List Nat), vs = [.ref a] ∧ SqL K H a (nz l) ∧
  (Oc.concept l = none → Q .non H) ∧ (∀ c, Oc.concept l = some c → ∀ v H', Same H H' → Ct H' v c → Q v H')
theorem ok_one_concept {f : Addr} {fd : FuncData} (F : Fun K "one_concept" "one_concept" s_one_concept f fd) (T : Txt K mg aP aH)
    (C_concept_end : Cal P w K mg base 2 "concept_end" (sp_concept_end K)) : FnOk P w K mg base CX0 3 f fd ["numbers"] (sp_one_concept K) := by
  refine F.ok sc_one_concept (fun vs H Q E h => ?_) (fun cdv A outer s H vs Q E hr h => ?_)
  · obtain ⟨a, l, rfl, _⟩ := h
    rfl
  · refine ⟨_, (pss_cons (ps_if (pt_cmpR op_ne (pe_c C_concept_end hr (by decide) rfl (pa_cons (pv 0) (pa_cons pe_int pa_nil))) (pe_callB call_len_seq (by rfl) T.b_len PySem.boot_len (pa_cons (pv 0) pa_nil)) (nomark _))
        (pss_one (ps_ret pe_non))
        pss_nil)
      (pss_one (ps_ret (pe_callTy call_tuple_of (by rfl) T.b_tuple (by decide +kernel) (pa_cons (pv 0) pa_nil))))), ?_⟩
    obtain ⟨a, l, rfl, hs, q1, q2⟩ := h
    refine ⟨_, rfl, a, l, 0, rfl, Or.inl hs, Nat.zero_le _, ?_, ?_⟩
    · intro r hrr e he hd _
      rw [List.drop_zero] at hrr
      refine ⟨_, rfl, a, _, rfl, Or.inl hs, rfl, _, rfl, ?_⟩
      rw [nz_len]
      by_cases hl : e = l.length
      · have rn : r = [] := by rw [← hd, hl, List.drop_length]
        rw [rn] at hrr
        obtain ⟨c, wc, e1⟩ := rest1_some hrr
        rw [List.append_nil] at e1
        refine if_f (by simp [hl]) ?_
        refine ⟨_, rfl, a, _, rfl, Or.inl ⟨hs, fun b n => ?_⟩⟩
        rw [e1] at q2 ⊢
        exact q2 c (concept_enc wc) _ _ (same_new n) ⟨wc, b, rfl, upd_same⟩
      · refine if_t ?_ ?_
        · have : ((e : Int) = (l.length : Int)) ↔ e = l.length := by omega
          simp [this, hl]
        refine q1 (concept_no ?_)
        rw [hrr]
        intro z
        have z := Option.some.inj z
        rw [z] at hd
        have := congrArg List.length hd
        rw [List.length_drop] at this
        simp at this
        omega
    · intro hn
      rw [List.drop_zero] at hn
      refine ⟨_, rfl, a, _, rfl, Or.inl hs, rfl, _, rfl, ?_⟩
      refine if_t (by simp) ?_
      refine q1 (concept_no ?_)
      rw [hn]
      intro z
      cases z
end
end Py

namespace Py
open PySem PySem.Spec PyProof.Rows L2 Ex
theorem sz10 {n : Nat} (h : n < 1000000) : n < sizeLine := Nat.lt_of_lt_of_le h (by decide)
theorem pr_get {α β : Type} {F : α → β → Prop} : ∀ {l : List α} {m : List β} {i : Nat} {x : α}, Paired F l m → l[i]? = some x → ∃ y, m[i]? = some y ∧ F x y
  | _, _, i, x, .nil, h => by simp at h
  | _, _, 0, x, .cons (b := b) h1 h2, h => by
    have e := Option.some.inj h
    subst e
    exact ⟨b, rfl, h1⟩
  | _, _, i + 1, x, .cons h1 h2, h => by
    have h : _ := (by simpa using h : _ = some x)
    obtain ⟨y, e, f⟩ := pr_get h2 h
    exact ⟨y, by simpa using e, f⟩
theorem pr_len {α β : Type} {F : α → β → Prop} {l : List α} {m : List β} (h : Paired F l m) : l.length = m.length := Paired.length h
theorem pr_mono {α β : Type} {F G : α → β → Prop} {l : List α} {m : List β} (h : Paired F l m) (k : ∀ a b, F a b → G a b) : Paired G l m := Paired.mapP h k
theorem take_more {α : Type} {l : List α} {i : Nat} {x : α} (h : l[i]? = some x) : l.take (i + 1) = l.take i ++ [x] := by
  obtain ⟨hl, rfl⟩ := List.getElem?_eq_some_iff.mp h
  exact List.take_succ_eq_append_getElem hl
section
variable {P : Program} {w : World} {K : PySem.W.Frag} {mg : Str → Option Value} {base : Heap} {aP aH : Addr}
/-! ### head_places -/
abbrev s_head_places : Stmt := topS 16
theorem sc_head_places : FnScope ["concept", "places", "at"] ["concept"] (defScope s_head_places) := ⟨rfl, rfl, rfl, by decide +kernel, rfl, by decide +kernel, by decide +kernel⟩
def sp_head_places (K : PySem.W.Frag) : Sp := fun vs H Q _ => ∃ (a : Addr) (l : List Nat), vs = [.ref a] ∧ SqT K H a (nz l) ∧ (∀ x ∈ l, x < 8) ∧ l.length ≤ 10000 ∧
  ∀ p H', Same H H' → H p = none → H' p = some (.lst (nz (placesOf l))) → Q (.ref p) H'
theorem ok_head_places {f : Addr} {fd : FuncData} (F : Fun K "head_places" "head_places" s_head_places f fd) (T : Txt K mg aP aH)
    (C_head_length : Cal P w K mg base 1 "head_length" sp_head_length) : FnOk P w K mg base CX0 2 f fd ["concept"] (sp_head_places K) := by
  refine F.ok sc_head_places (fun vs H Q E h => ?_) (fun cdv A outer s H vs Q E hr h => ?_)
  · obtain ⟨a, l, rfl, _⟩ := h
    rfl
  · refine ⟨_, (pss_cons (ps_set (i := 1) sc_head_places.nd rfl (Or.inl rfl) (pe_lst pa_nil))
      (pss_cons (ps_set (i := 2) sc_head_places.nd rfl (Or.inl rfl) pe_int)
      (pss_cons (ps_while PassesOwn.never (pt_cmpR op_lt (pv 2) (pe_callB call_len_seq (by rfl) T.b_len PySem.boot_len (pa_cons (pv 0) pa_nil)) (nomark _))
        (pss_cons (ps_expr (pe_bm PySem.F.plainAttrs_list PySem.F.slot_list_append PySem.F.type_list_append mt_append (pv 1) (pa_cons (pv 2) pa_nil)))
        (pss_one (ps_aug (i := 2) sc_head_places.nd rfl (Or.inl rfl) (pe_c C_head_length hr (by decide) rfl (pa_cons (pe_ix ix_seq (pv 0) (pv 2) (fun _ _ => rfl)) pa_nil)) iop_add))))
      (pss_one (ps_ret (pv 1)))))), ?_⟩
    obtain ⟨a, l, rfl, hs, h8, hl, q⟩ := h
    refine ⟨by show 0 ≤ sizeLine; decide, fun p np => ?_⟩
    refine ⟨fun m σ H' => ∃ (i : Nat) (acc : List Nat), σ = [some (.ref a), some (.ref p), some (.int (i : Int))] ∧ m = l.length - i ∧ Same H H' ∧ H' p = some (.lst (nz acc)) ∧ acc ++ hgo 0 i (l.drop i) = placesOf l ∧ acc.length ≤ i,
      ⟨_, 0, [], rfl, rfl, same_new np, upd_same, rfl, Nat.le_refl _⟩, ?_⟩
    rintro m σ H' ⟨i, acc, rfl, rfl, sm, hp, he, hle⟩
    refine ⟨_, rfl, _, rfl, a, _, rfl, Or.inr (same_t sm hs), _, _, rfl, rfl, _, rfl, ?_⟩
    rw [nz_len]
    by_cases c : i < l.length
    · refine if_t (dec_t (by omega)) ?_
      have e2 : l[i]? = some l[i] := List.getElem?_eq_getElem c
      have x8 : l[i] < 8 := h8 _ (List.getElem_mem c)
      have hps := hlen_pos l[i]
      refine ⟨fun σ' H'' => ∃ m', m' < l.length - i ∧ ∃ (i : Nat) (acc : List Nat), σ' = [some (.ref a), some (.ref p), some (.int (i : Int))] ∧ m' = l.length - i ∧ Same H H'' ∧ H'' p = some (.lst (nz acc)) ∧ acc ++ hgo 0 i (l.drop i) = placesOf l ∧ acc.length ≤ i, fun _ _ z => z, ?_⟩
      refine ⟨_, rfl, .inl ⟨rfl, _, SqL.of hp⟩, _, rfl, p, _, _, rfl, rfl, hp, sz10 (by rw [nz_len]; omega), ?_⟩
      have sm2 : Same H (upd H' p (.lst (nz acc ++ [.int (i : Int)]))) := same_mut sm np
      refine ⟨_, rfl, _, rfl, _, rfl, ix_of (Or.inr (same_t sm2 hs)) (atI_nz e2) ?_⟩
      refine ⟨l[i], rfl, x8, _, _, rfl, rfl, ?_⟩
      refine ⟨l.length - (i + hlen l[i]), by omega, i + hlen l[i], acc ++ [i], ?_, rfl, sm2, ?_, ?_, by rw [List.length_append, List.length_singleton]; omega⟩
      · have e3 : ((i : Int) + (hlen l[i] : Nat)) = ((i + hlen l[i] : Nat) : Int) := by omega
        rw [← e3]
        rfl
      · rw [nz_app]
        exact upd_same
      · rw [← he, drop_cons c, hgo_step, ← drop_cons c, List.drop_drop, List.append_assoc]
        rfl
    · refine if_f (dec_f (by omega)) ?_
      refine ⟨_, rfl, ?_⟩
      rw [List.drop_eq_nil_of_le (by omega)] at he
      have : hgo 0 i [] = [] := rfl
      rw [this, List.append_nil] at he
      rw [he] at hp
      exact q p H' sm np hp
/-! ### concept_at -/
abbrev s_concept_at : Stmt := topS 17
theorem sc_concept_at : FnScope ["concept", "at"] ["concept", "at"] (defScope s_concept_at) := ⟨rfl, rfl, rfl, by decide +kernel, rfl, by decide +kernel, by decide +kernel⟩
def sp_concept_at : Sp := fun vs H Q _ => ∃ (v : V) (c : Oc.C) (p : Nat) (d : Oc.C), vs = [v, .int (p : Int)] ∧ Ct H v c ∧ (p, d) ∈ subsAt 0 c ∧
  ∀ v' H', Same H H' → Ct H' v' d → Q v' H'
theorem ok_concept_at {f : Addr} {fd : FuncData} (F : Fun K "concept_at" "concept_at" s_concept_at f fd) (T : Txt K mg aP aH)
    (C_concept_end : Cal P w K mg base 2 "concept_end" (sp_concept_end K)) : FnOk P w K mg base CX0 3 f fd ["concept", "at"] sp_concept_at := by
  refine F.ok sc_concept_at (fun vs H Q E h => ?_) (fun cdv A outer s H vs Q E hr h => ?_)
  · obtain ⟨v, c, p, d, rfl, _⟩ := h
    rfl
  · refine ⟨_, (pss_one (ps_ret (pe_slice sl_tupA (pv 0) (po_some (pv 1)) (po_some (pe_c C_concept_end hr (by decide) rfl (pa_cons (pv 0) (pa_cons (pv 1) pa_nil))))))), ?_⟩
    obtain ⟨v, c, p, d, rfl, ⟨wc, a, rfl, ha⟩, hd, q⟩ := h
    obtain ⟨wd, pre, post, e1, e2⟩ := subs_at c 0 p d hd wc
    rw [Nat.zero_add] at e2
    have hsT : SqT K H a (nz (enc c)) := SqT.of ha
    have hdr : (enc c).drop p = enc d ++ post := by rw [e1, ← e2, List.drop_left]
    have hpl : p ≤ (enc c).length := by rw [e1, List.length_append, e2]; omega
    refine ⟨_, rfl, _, rfl, _, rfl, _, rfl, _, rfl, a, enc c, p, rfl, Or.inr hsT, hpl, ?_, ?_⟩
    · intro r hrr e he hde hle
      rw [hdr, rest1_enc wd] at hrr
      have er := Option.some.inj hrr
      have hee : e - p = (enc d).length := by
        have h1 := congrArg List.length hde
        have h2 := congrArg List.length hdr
        rw [← er] at h1
        rw [List.length_drop] at h1 h2
        rw [List.length_append] at h2
        omega
      have hcut : cutV (nz (enc c)) (some (p : Int)) (some (e : Int)) = nz (enc d) := by
        rw [cut_mid hle he, hdr, hee, List.take_left]
      refine ⟨_, rfl, a, _, rfl, hsT, fun hw => ?_, fun hw b nb => ?_⟩
      · -- the whole
        rw [HT.sIx_nat, HT.sIx_nat, nz_len, Nat.min_eq_left he, Nat.min_eq_left hpl] at hw
        refine q _ _ (Same.refl H) ⟨wd, a, rfl, ?_⟩
        rw [ha]
        obtain ⟨hp0, he0⟩ := hw
        have : enc c = enc d := by
          have h3 : (enc c).drop p = enc c := by rw [hp0]; rfl
          rw [h3] at hdr
          have h4 : post = [] := by
            have := congrArg List.length hdr
            rw [List.length_append] at this
            have : post.length = 0 := by omega
            exact List.eq_nil_of_length_eq_zero this
          rw [h4, List.append_nil] at hdr
          exact hdr
        rw [this]
      · refine q _ _ (same_new nb) ⟨wd, b, rfl, ?_⟩
        rw [hcut]
        exact upd_same
    · intro hn
      rw [hdr, rest1_enc wd] at hn
      cases hn
end
end Py

namespace Py
open PySem PySem.Spec PyProof.Rows L2 Ex
/-! ### atoms_in -/
/-- a group: a tuple of concepts -/
def Gr (H : Hp) (v : V) (g : List Oc.C) : Prop := ∃ a vs, v = .ref a ∧ H a = some (.tup vs) ∧ Paired (Ct H) vs g
theorem Gr.same {H H' : Hp} {v : V} {g : List Oc.C} (e : Same H H') (h : Gr H v g) : Gr H' v g := by
  obtain ⟨a, vs, rfl, h, p⟩ := h
  exact ⟨a, vs, rfl, e _ _ h, pr_mono p fun _ _ => Ct.same e⟩
theorem Pr.gr {H : Hp} {v : V} {p : Oc.C × Oc.C} (h : Pr H v p) : Gr H v [p.1, p.2] := by
  obtain ⟨a, v1, v2, rfl, h, h1, h2⟩ := h
  exact ⟨a, _, rfl, h, .cons h1 (.cons h2 .nil)⟩
/-- the key of a concept -/
def ky (c : Oc.C) : List Key := (enc c).map fun (n : Nat) => (Sum.inl (n : Int) : Key)
theorem ky_kV (c : Oc.C) : (ky c).map kV = nz (enc c) := by
  unfold ky nz
  rw [List.map_map]
  rfl
theorem ky_inj {c d : Oc.C} (wc : wf c) (wd : wf d) (h : ky c = ky d) : c = d := by
  refine enc_inj wc wd ?_
  unfold ky at h
  have inj : Function.Injective fun (n : Nat) => (Sum.inl (n : Int) : Key) := fun a b e => by
    have := Sum.inl.inj e
    omega
  exact (List.map_inj_right (fun a b e => inj e)).mp h
def ents (m : List Oc.C) : List (List Key × V) := m.map fun c => (ky c, V.bl true)
def addAll (m l : List Oc.C) : List Oc.C := l.foldl addC m
theorem ents_put {m : List Oc.C} {c : Oc.C} (wm : ∀ x ∈ m, wf x) (wc : wf c) : putK (ents m) (ky c) (.bl true) = ents (addC m c) := by
  have e : ((ents m).any fun kv => decide (kv.1 = ky c)) = m.contains c := by
    rw [Bool.eq_iff_iff, List.any_eq_true, List.contains_iff_mem]
    constructor
    · rintro ⟨kv, hkv, h⟩
      obtain ⟨x, hx, rfl⟩ := List.mem_map.mp hkv
      have := ky_inj (wm x hx) wc (of_decide_eq_true h)
      rw [← this]
      exact hx
    · intro h
      exact ⟨_, List.mem_map.mpr ⟨c, h, rfl⟩, decide_eq_true rfl⟩
  unfold putK addC
  rw [e]
  by_cases h : m.contains c = true
  · rw [if_pos h, if_pos h]
    refine (List.map_congr_left (g := id) fun kv hkv => ?_).trans (List.map_id _)
    obtain ⟨x, hx, rfl⟩ := List.mem_map.mp hkv
    split <;> rfl
  · rw [if_neg h, if_neg h]
    unfold ents
    rw [List.map_append]
    rfl
theorem addAll_wf {l : List Oc.C} : ∀ {m : List Oc.C}, (∀ x ∈ m, wf x) → (∀ x ∈ l, wf x) → ∀ x ∈ addAll m l, wf x := by
  intro m hm hl x hx
  rcases (foldl_addC_mem l m).mp hx with h | h
  · exact hm x h
  · exact hl x h
theorem addC_len (m : List Oc.C) (c : Oc.C) : (addC m c).length ≤ m.length + 1 := by
  unfold addC
  split
  · omega
  · simp
theorem addAll_len : ∀ (l m : List Oc.C), (addAll m l).length ≤ m.length + l.length
  | [], m => by simp [addAll]
  | c :: r, m => by
    have h1 := addAll_len r (addC m c)
    have h2 := addC_len m c
    show (addAll (addC m c) r).length ≤ _
    simp only [List.length_cons]
    omega
theorem addAll_app (m a b : List Oc.C) : addAll m (a ++ b) = addAll (addAll m a) b := List.foldl_append ..
theorem flat_take {α β : Type} {f : α → List β} {g : List α} {j : Nat} {c : α} (h : g[j]? = some c) : (g.take j).flatMap f ++ (f c ++ (g.drop (j + 1)).flatMap f) = g.flatMap f := by
  obtain ⟨hl, rfl⟩ := List.getElem?_eq_some_iff.mp h
  have : g = g.take j ++ g[j] :: g.drop (j + 1) := by rw [← List.drop_eq_getElem_cons hl, List.take_append_drop]
  conv => rhs; rw [this, List.flatMap_append, List.flatMap_cons]
theorem flat_next {α β : Type} {f : α → List β} {g : List α} {j : Nat} {c : α} (h : g[j]? = some c) : (g.take (j + 1)).flatMap f = (g.take j).flatMap f ++ f c := by
  rw [take_more h, List.flatMap_append]
  simp
/-- the atoms of a group -/
def gat (g : List Oc.C) : List Oc.C := g.flatMap Oc.C.atoms
theorem gat_flat (gs : List (List Oc.C)) : gs.flatMap gat = gs.flatten.flatMap Oc.C.atoms := by
  induction gs with
  | nil => rfl
  | cons g r ih =>
    rw [List.flatMap_cons, ih, List.flatten_cons, List.flatMap_append]
    rfl
/-- the atoms among the first k places of a concept -/
def kat (c : Oc.C) (k : Nat) : List Oc.C := (((subsAt 0 c).take k).filter fun x => isAtom x.2).map (·.2)
theorem kat_all (c : Oc.C) : kat c (subsAt 0 c).length = c.atoms := by
  unfold kat
  rw [List.take_length, atoms_subs]
theorem kat_len (c : Oc.C) (k : Nat) : (kat c k).length ≤ c.atoms.length := by
  rw [← atoms_subs c 0]
  unfold kat
  rw [List.length_map, List.length_map]
  exact ((List.take_sublist k (subsAt 0 c)).filter _).length_le
theorem kat_yes {c : Oc.C} {k p : Nat} {d : Oc.C} (h : (subsAt 0 c)[k]? = some (p, d)) (ha : isAtom d = true) : kat c (k + 1) = kat c k ++ [d] := by
  unfold kat
  rw [take_more h, List.filter_append, List.map_append, List.filter_cons, if_pos ha]
  rfl
theorem kat_no {c : Oc.C} {k p : Nat} {d : Oc.C} (h : (subsAt 0 c)[k]? = some (p, d)) (ha : isAtom d = false) : kat c (k + 1) = kat c k := by
  unfold kat
  rw [take_more h, List.filter_append, List.map_append, List.filter_cons, if_neg (by rw [ha]; decide)]
  simp
theorem kat_wf {c : Oc.C} (w : wf c) (k : Nat) : ∀ x ∈ kat c k, wf x := by
  intro x hx
  unfold kat at hx
  obtain ⟨y, hy, rfl⟩ := List.mem_map.mp hx
  have := List.mem_of_mem_take (List.mem_filter.mp hy).1
  exact (subs_at c 0 y.1 y.2 this w).1
theorem form_in (d : Oc.C) : inV (V.int (form d : Nat)) [V.int 2, V.int 6, V.int 7] = isAtom d := by
  cases d <;> rfl
theorem form_at {c d : Oc.C} {p : Nat} (w : wf c) (h : (p, d) ∈ subsAt 0 c) : (enc c)[p]? = some (form d) := by
  obtain ⟨_, pre, post, e1, e2⟩ := subs_at c 0 p d h w
  rw [Nat.zero_add] at e2
  obtain ⟨r, er⟩ := enc_head d
  rw [e1, ← e2, List.getElem?_append_right (Nat.le_refl _), Nat.sub_self, er]
  rfl
section
variable {P : Program} {w : World} {K : PySem.W.Frag} {mg : Str → Option Value} {base : Heap} {aP aH : Addr}
abbrev s_atoms_in : Stmt := topS 18
theorem sc_atoms_in : FnScope ["groups", "found", "group", "concept", "at"] ["groups"] (defScope s_atoms_in) := ⟨rfl, rfl, rfl, by decide +kernel, rfl, by decide +kernel, by decide +kernel⟩
def sp_atoms_in (K : PySem.W.Frag) : Sp := fun vs H Q _ => ∃ (a : Addr) (ws : List V) (gs : List (List Oc.C)), vs = [.ref a] ∧ SqL K H a ws ∧ Paired (Gr H) ws gs ∧
  (∀ g ∈ gs, ∀ c ∈ g, (enc c).length ≤ 10000) ∧ (gs.flatten.flatMap Oc.C.atoms).length ≤ 10000 ∧
  ∀ p H' us, Same H H' → H p = none → H' p = some (.lst us) → Paired (Ct H') us (Oc.atomsOf gs.flatten) → Q (.ref p) H'
theorem ok_atoms_in {f : Addr} {fd : FuncData} (F : Fun K "atoms_in" "atoms_in" s_atoms_in f fd) (T : Txt K mg aP aH)
    (C_head_places : Cal P w K mg base 2 "head_places" (sp_head_places K)) (C_concept_at : Cal P w K mg base 3 "concept_at" sp_concept_at) : FnOk P w K mg base CX0 4 f fd ["groups"] (sp_atoms_in K) := by
  refine F.ok sc_atoms_in (fun vs H Q E h => ?_) (fun cdv A outer s H vs Q E hr h => ?_)
  · obtain ⟨a, l, g, rfl, _⟩ := h
    rfl
  · refine ⟨_, (pss_cons (ps_set (i := 1) sc_atoms_in.nd rfl (Or.inl rfl) pe_dnewT)
      (pss_cons (ps_for PassesOwn.never rfl (pi_list (pv 0)) (pg_name (i := 2) sc_atoms_in.nd rfl (Or.inl rfl))
        (pss_one (ps_for PassesOwn.never rfl (pi_tup (pv 2)) (pg_name (i := 3) sc_atoms_in.nd rfl (Or.inl rfl))
          (pss_one (ps_for PassesOwn.never rfl (pi_list (pe_c C_head_places hr (by decide) rfl (pa_cons (pv 3) pa_nil))) (pg_name (i := 4) sc_atoms_in.nd rfl (Or.inl rfl))
            (pss_one (ps_if (pt_cmpR op_in_seq (pe_ix ix_seq (pv 3) (pv 4) (fun _ _ => rfl)) (pe_tup (pa_cons (pe_gc rfl T.c_NAME) (pa_cons (pe_gc rfl T.c_TO_SOME) (pa_cons (pe_gc rfl T.c_TO_ALL) pa_nil)))) (by rfl))
              (pss_one (ps_dput (hu_of hr) (pv 1) (pe_c C_concept_at hr (by decide) rfl (pa_cons (pv 3) (pa_cons (pv 4) pa_nil))) pe_bl rfl))
              pss_nil)))))))
      (pss_one (ps_ret (pe_callTy (call_list_dT rfl) (by rfl) T.b_list (by decide +kernel) (pa_cons (pv 1) pa_nil)))))), ?_⟩
    obtain ⟨a, ws, gs, rfl, hs, hg, h30, htot, q⟩ := h
    rw [← gat_flat] at htot
    refine fun d nd => ?_
    -- groups
    refine ⟨_, rfl, a, rfl, ⟨_, same_l (same_new nd) hs⟩, for_list (K := K) (a := a) (xs := ws) (fun i σ H' => ∃ x y z : Option V, σ = [some (.ref a), some (.ref d), x, y, z] ∧ Same H H' ∧ H' d = some (.dT (ents (addAll [] ((gs.take i).flatMap gat)))))
      ⟨none, none, none, rfl, same_new nd, upd_same⟩ (fun i σ H' _ ⟨_, _, _, _, sm, _⟩ => same_l sm hs) ?_ ?_⟩
    · rintro i v σ H' hi ⟨x, y, z, rfl, sm, hd⟩
      obtain ⟨g, hgi, hgr⟩ := pr_get hg hi
      have gl := flat_take (f := gat) hgi
      have gl2 := congrArg List.length gl
      rw [List.length_append, List.length_append] at gl2
      have wg : ∀ c ∈ g, wf c := by
        intro c hc
        obtain ⟨b, us, _, _, pc⟩ := hgr
        obtain ⟨j, hj, e⟩ := List.mem_iff_getElem.mp hc
        have hj2 : j < us.length := by rw [pr_len pc]; exact hj
        obtain ⟨c', hc', h'⟩ := pr_get pc (List.getElem?_eq_getElem hj2)
        rw [List.getElem?_eq_getElem hj, e] at hc'
        cases hc'
        exact h'.1
      have wpre : ∀ x ∈ addAll [] ((gs.take i).flatMap gat), wf x := by
        refine addAll_wf (fun _ h => by cases h) fun x hx => ?_
        obtain ⟨g', hg', hx⟩ := List.mem_flatMap.mp hx
        obtain ⟨c', hc', hx⟩ := List.mem_flatMap.mp hx
        refine atoms_wf c' ?_ x hx
        obtain ⟨j, hj, e⟩ := List.mem_iff_getElem.mp (List.mem_of_mem_take hg')
        have hj2 : j < ws.length := by rw [pr_len hg]; exact hj
        obtain ⟨g'', hg'', h'⟩ := pr_get hg (List.getElem?_eq_getElem hj2)
        rw [List.getElem?_eq_getElem hj, e] at hg''
        cases hg''
        obtain ⟨b, us, _, _, pc⟩ := h'
        obtain ⟨j, hj, e⟩ := List.mem_iff_getElem.mp hc'
        have hj2 : j < us.length := by rw [pr_len pc]; exact hj
        obtain ⟨c'', hc'', h'⟩ := pr_get pc (List.getElem?_eq_getElem hj2)
        rw [List.getElem?_eq_getElem hj, e] at hc''
        cases hc''
        exact h'.1
      obtain ⟨b, us, rfl, hb, pc⟩ := hgr.same sm
      have hg30 := h30 g (List.mem_of_getElem? hgi)
      generalize hm1 : addAll [] ((gs.take i).flatMap gat) = m1 at hd wpre
      have hl1 : m1.length ≤ ((gs.take i).flatMap gat).length := by
        rw [← hm1]
        have := addAll_len ((gs.take i).flatMap gat) []
        simpa using this
      -- the group's concepts
      refine ⟨_, rfl, b, rfl, ⟨_, SqT.of hb⟩, for_tup (K := K) (a := b) (xs := us) (fun j σ H' => ∃ y z : Option V, σ = [some (.ref a), some (.ref d), some (.ref b), y, z] ∧ Same H H' ∧ SqT K H' b us ∧ Paired (Ct H') us g ∧ H' d = some (.dT (ents (addAll m1 ((g.take j).flatMap Oc.C.atoms)))))
        ⟨_, _, rfl, sm, SqT.of hb, pc, hd⟩ (fun j σ H' _ ⟨_, _, _, _, hb, _⟩ => hb) ?_ ?_⟩
      · rintro j v σ H2 hj ⟨y, z, rfl, sm2, hb2, pc2, hd2⟩
        obtain ⟨c, hcj, wc, e, rfl, he⟩ := pr_get pc2 hj
        have cl := flat_take (f := Oc.C.atoms) hcj
        have cl2 := congrArg List.length cl
        rw [List.length_append, List.length_append] at cl2
        have gatl : (gat g).length = (g.flatMap Oc.C.atoms).length := rfl
        have hc30 := hg30 c (List.mem_of_getElem? hcj)
        have wpre2 : ∀ x ∈ addAll m1 ((g.take j).flatMap Oc.C.atoms), wf x := by
          refine addAll_wf wpre fun x hx => ?_
          obtain ⟨c', hc', hx⟩ := List.mem_flatMap.mp hx
          exact atoms_wf c' (wg c' (List.mem_of_mem_take hc')) x hx
        have hl2 := addAll_len ((g.take j).flatMap Oc.C.atoms) m1
        generalize hm2 : addAll m1 ((g.take j).flatMap Oc.C.atoms) = m2 at hd2 wpre2 hl2
        -- the concept's heads
        refine ⟨_, rfl, e, enc c, rfl, SqT.of he, enc_lt8 c wc, hc30, fun l H3 sm3 nl hl => ?_⟩
        rw [places_enc] at hl
        refine ⟨l, rfl, ⟨_, SqL.of hl⟩, for_list (K := K) (a := l) (xs := nz ((subsAt 0 c).map (·.1))) (fun k σ H' => ∃ z : Option V, σ = [some (.ref a), some (.ref d), some (.ref b), some (.ref e), z] ∧ Same H H' ∧ SqT K H' b us ∧ Paired (Ct H') us g ∧ H' e = some (.tup (nz (enc c))) ∧ H' l = some (.lst (nz ((subsAt 0 c).map (·.1)))) ∧ l ≠ d ∧ H' d = some (.dT (ents (addAll m2 (kat c k)))))
          ⟨_, rfl, sm2.trans sm3, same_t sm3 hb2, pr_mono pc2 fun _ _ => Ct.same sm3, sm3 _ _ he, hl, (ne_of_none hd2 nl).symm, sm3 _ _ hd2⟩ (fun k σ H' _ ⟨_, _, _, _, _, _, hl, _⟩ => SqL.of hl) ?_ ?_⟩
        · rintro k v σ H4 hk ⟨z, rfl, sm4, hb4, pc4, he4, hl4, nld, hd4⟩
          obtain ⟨pd, hpd, rfl⟩ : ∃ pd : Nat × Oc.C, (subsAt 0 c)[k]? = some pd ∧ v = V.int (pd.1 : Nat) := by
            unfold nz at hk
            rw [List.getElem?_map, List.getElem?_map] at hk
            cases h : (subsAt 0 c)[k]? with
            | none => rw [h] at hk; cases hk
            | some pd =>
              rw [h] at hk
              exact ⟨pd, rfl, (Option.some.inj hk).symm⟩
          obtain ⟨p, dd⟩ := pd
          have hmem : (p, dd) ∈ subsAt 0 c := List.mem_of_getElem? hpd
          have hf := form_at wc hmem
          have wdd : wf dd := (subs_at c 0 p dd hmem wc).1
          refine ⟨_, rfl, _, rfl, ix_of (Or.inr (SqT.of he4)) (atI_nz hf) ?_⟩
          refine ⟨by show 3 ≤ sizeLine; decide, fun t nt => ⟨t, _, rfl, Or.inr (SqT.of upd_same), rfl, rfl, _, rfl, ?_⟩⟩
          have sm5 : Same H4 (upd H4 t (.tup [.int 2, .int 6, .int 7])) := same_new nt
          have form_in' : (if false = true then !inV (V.int ((form dd : Nat) : Int)) [V.int 2, V.int 6, V.int 7] else inV (V.int ((form dd : Nat) : Int)) [V.int 2, V.int 6, V.int 7]) = isAtom dd := form_in dd
          cases ha : isAtom dd with
          | true =>
            refine if_t (form_in'.trans ha) ?_
            refine ⟨_, rfl, _, rfl, _, rfl, .ref e, c, p, dd, rfl, ⟨wc, e, rfl, sm5 _ _ he4⟩, hmem, fun v' H6 sm6 ct6 => ?_⟩
            obtain ⟨_, b6, rfl, hb6⟩ := ct6
            have sm7 := sm5.trans sm6
            have hd6 := sm7 _ _ hd4
            have nd6 : d ≠ b6 := by
              intro z
              rw [z, hb6] at hd6
              cases hd6
            have hlen : (ents (addAll m2 (kat c k))).length < sizeLine := by
              have h1 := addAll_len (kat c k) m2
              have h2 := kat_len c k
              refine sz10 ?_
              unfold ents
              rw [List.length_map]
              omega
            rw [← ky_kV] at hb6
            have wm3 : ∀ x ∈ addAll m2 (kat c k), wf x := addAll_wf wpre2 (kat_wf wc k)
            refine ⟨d, _, rfl, DPut.t hd6 hb6 hlen, ?_⟩
            rw [ents_put wm3 wdd]
            have sm8 : ∀ {b : Addr} {o : HO}, H4 b = some o → b ≠ d → upd H6 d (.dT (ents (addC (addAll m2 (kat c k)) dd))) b = some o := fun {b o} h n => by
              rw [upd_ne n]
              exact sm7 _ _ h
            have sm9 : Same H (upd H6 d (.dT (ents (addC (addAll m2 (kat c k)) dd)))) := same_mut (sm4.trans sm7) nd
            have neq : ∀ {b : Addr} {xs : List V}, H6 b = some (.tup xs) → b ≠ d := fun {b xs} h z => by
              rw [z, hd6] at h
              cases h
            have ct9 : ∀ v c', Ct H4 v c' → Ct (upd H6 d (.dT (ents (addC (addAll m2 (kat c k)) dd)))) v c' := fun v c' h => by
              obtain ⟨w', b', rfl, h'⟩ := h
              have h6 := sm7 _ _ h'
              exact ⟨w', b', rfl, by rw [upd_ne (neq h6)]; exact h6⟩
            refine ⟨_, rfl, sm9, ?_, pr_mono pc4 ct9, ?_, ?_, nld, ?_⟩
            · rcases same_t sm7 hb4 with (h | ⟨o, h⟩) | h
              · exact Or.inl (Or.inl (by rw [upd_ne (neq h)]; exact h))
              · refine Or.inl (Or.inr ⟨o, ?_⟩)
                rw [upd_ne ?_]
                · exact h
                · intro z
                  rw [z, hd6] at h
                  cases h
              · exact Or.inr h
            · have h6 := sm7 _ _ he4
              rw [upd_ne (neq h6)]
              exact h6
            · rw [upd_ne nld]
              exact sm7 _ _ hl4
            · rw [kat_yes hpd ha, addAll_app]
              exact upd_same
          | false =>
            refine if_f (form_in'.trans ha) ?_
            refine ⟨_, rfl, sm4.trans sm5, same_t sm5 hb4, pr_mono pc4 fun _ _ => Ct.same sm5, sm5 _ _ he4, sm5 _ _ hl4, nld, ?_⟩
            rw [kat_no hpd ha]
            exact sm5 _ _ hd4
        · rintro σ H5 ⟨z, rfl, sm4, hb4, pc4, he4, hl4, nld, hd4⟩
          rw [nz_len, List.length_map, kat_all] at hd4
          refine ⟨_, _, rfl, sm4, hb4, pc4, ?_⟩
          rw [flat_next hcj, addAll_app, hm2]
          exact hd4
      · rintro σ H5 ⟨y, z, rfl, sm4, hb4, pc4, hd4⟩
        refine ⟨_, _, _, rfl, sm4, ?_⟩
        rw [pr_len pc, List.take_length] at hd4
        rw [flat_next hgi, addAll_app, hm1]
        exact hd4
    · rintro σ H5 ⟨x, y, z, rfl, sm4, hd4⟩
      rw [pr_len hg, List.take_length] at hd4
      refine ⟨_, rfl, d, _, rfl, .inl hd4, fun p bs np hk => ?_⟩
      have e : addAll [] (gs.flatMap gat) = Oc.atomsOf gs.flatten := by
        rw [gat_flat]
        rfl
      have smn := same_new (o := .lst (bs.map V.ref)) np
      have hw : ∀ x ∈ addAll [] (gs.flatMap gat), wf x := by
        refine addAll_wf (fun _ h => by cases h) fun x hx => ?_
        obtain ⟨g', hg', hx⟩ := List.mem_flatMap.mp hx
        obtain ⟨c', hc', hx⟩ := List.mem_flatMap.mp hx
        refine atoms_wf c' ?_ x hx
        obtain ⟨j, hj, e⟩ := List.mem_iff_getElem.mp hg'
        have hj2 : j < ws.length := by rw [pr_len hg]; exact hj
        obtain ⟨g'', hg'', h'⟩ := pr_get hg (List.getElem?_eq_getElem hj2)
        rw [List.getElem?_eq_getElem hj, e] at hg''
        cases hg''
        obtain ⟨b, us, _, _, pc⟩ := h'
        obtain ⟨j, hj, e⟩ := List.mem_iff_getElem.mp hc'
        have hj2 : j < us.length := by rw [pr_len pc]; exact hj
        obtain ⟨c'', hc'', h'⟩ := pr_get pc (List.getElem?_eq_getElem hj2)
        rw [List.getElem?_eq_getElem hj, e] at hc''
        cases hc''
        exact h'.1
      have pk : ∀ (m : List Oc.C) (bs : List Addr), (∀ x ∈ m, wf x) → IsKeys H5 (ents m) bs → Paired (Ct (upd H5 p (.lst (bs.map V.ref)))) (bs.map V.ref) m → True := fun _ _ _ _ _ => trivial
      have pk2 : ∀ (m : List Oc.C) (bs : List Addr) (H' : Hp), Same H5 H' → (∀ x ∈ m, wf x) → IsKeys H5 (ents m) bs → Paired (Ct H') (bs.map V.ref) m := by
        intro m
        induction m with
        | nil =>
          intro bs H' _ _ h
          cases h
          exact .nil
        | cons c r ih =>
          intro bs H' hsm hw h
          cases h with
          | cons h1 h2 =>
            rename_i b bs'
            refine .cons ⟨hw c (by simp), _, rfl, ?_⟩ (ih bs' H' hsm (fun x hx => hw x (by simp [hx])) h2)
            have h1 : H5 b = some (.tup ((ky c).map kV)) := h1
            rw [ky_kV] at h1
            exact hsm _ _ h1
      have := pk2 _ bs _ smn hw hk
      rw [e] at this
      exact q p _ _ (sm4.trans smn) (sm4.free np) upd_same this
end
end Py

namespace Py
open PySem PySem.Spec PyProof.Rows L2 Ex
/-! ## whole numbers as sets of bits -/
theorem band (a b : Nat) : Builtin.bitAnd (a : Int) (b : Int) = ((a &&& b : Nat) : Int) := by
  rw [bitAnd_pp (by omega) (by omega), Int.toNat_natCast, Int.toNat_natCast]
theorem bor (a b : Nat) : Builtin.bitOr (a : Int) (b : Int) = ((a ||| b : Nat) : Int) := by
  rw [Bits.bitOr_pp (by omega) (by omega), Int.toNat_natCast, Int.toNat_natCast]
theorem bxor (a b : Nat) : Builtin.bitXor (a : Int) (b : Int) = ((a ^^^ b : Nat) : Int) := by
  rw [Bits.bitXor_pp (by omega) (by omega), Int.toNat_natCast, Int.toNat_natCast]
theorem shl1 (k : Nat) : (1 : Int) * 2 ^ ((k : Int)).toNat = ((2 ^ k : Nat) : Int) := by
  rw [Int.toNat_natCast, Int.one_mul, Int.natCast_pow]
  rfl
theorem cpow1 {k : Nat} (h : k ≤ 1000000) : CPow 1 (k : Int) := ⟨by omega, by omega, by decide⟩
theorem dec_V {a b : Int} : decide (V.int a = V.int b) = decide (a = b) := by
  rw [Bool.eq_iff_iff]
  simp
theorem bits_next {n : Nat} {p : Nat → Bool} : bits (n + 1) p = if p n = true then bits n p ||| 2 ^ n else bits n p := by
  symm
  refine bits_ext fun t => ?_
  by_cases h : p n = true
  · rw [if_pos h, Nat.testBit_or, bits_testBit, Nat.testBit_two_pow]
    by_cases e : n = t
    · subst e
      simp [h]
    · by_cases l : t < n
      · have : t < n + 1 := by omega
        simp [e, l, this]
      · have : ¬ t < n + 1 := by omega
        simp [e, l, this]
  · rw [if_neg h, bits_testBit]
    by_cases e : n = t
    · subst e
      simp [h]
    · have : (t < n + 1) ↔ t < n := by omega
      simp [this]
section
variable {σ : L2.St} {H : Hp} {Q : VK} {D : Ends} {ta tb te : TE} {t u : TS} {r : R2} {tt uu : TT} {g : TG} {tas : TA} {f : Str} {K : PySem.W.Frag}
theorem p_op (h : ta σ H fun x H1 => tb σ H1 fun y H2 => r x y H2 Q) : tOp r ta tb σ H Q := h
theorem p_ret (h : te σ H D.rt) : tRet te D σ H := h
theorem p_seq (h : t { D with nx := u D } σ H) : tSeq t u D σ H := h
theorem p_asg (h : te σ H fun x H1 => g x σ H1 D.nx) : tAsg te g D σ H := h
theorem p_drop (h : te σ H fun _ H1 => D.nx σ H1) : tDrop te D σ H := h
theorem p_if (h : tt σ H fun b H1 => if b = true then t D σ H1 else u D σ H1) : tIfS tt t u D σ H := h
theorem p_test {Q : Bool → Hp → Prop} (h : te σ H fun x H' => ∃ k, x = .bl k ∧ Q k H') : tTest te σ H Q := h
theorem p_and {Q : Bool → Hp → Prop} (h : tt σ H fun c H1 => if c = true then uu σ H1 Q else Q false H1) : tAnd tt uu σ H Q := h
theorem p_or {Q : Bool → Hp → Prop} (h : tt σ H fun c H1 => if c = true then Q true H1 else uu σ H1 Q) : tOr tt uu σ H Q := h
theorem p_cons {Q : List V → Hp → Prop} (h : te σ H fun x H1 => tas σ H1 fun xs H2 => Q (x :: xs) H2) : tCons te tas σ H Q := h
theorem p_tup (h : tas σ H fun xs H1 => xs.length ≤ sizeLine ∧ ∀ p, H1 p = none → Q (.ref p) (upd H1 p (.tup xs))) : tTup tas σ H Q := h
theorem p_lst (h : tas σ H fun xs H1 => xs.length ≤ sizeLine ∧ ∀ p, H1 p = none → Q (.ref p) (upd H1 p (.lst xs))) : tLst tas σ H Q := h
theorem p_fld (h : tb σ H fun y H1 => ta σ H1 fun x H2 => ∃ a C dx fs, x = .ref a ∧ H2 a = some (.ins C dx fs) ∧ Cls K C ∧ NoAttr K C f ∧ fs.length < 1000 ∧ D.nx σ (upd H2 a (.ins C dx (putF f y fs)))) : sFld K ta tb f D σ H := h
theorem p_aug {i : Nat} {ti : TIp} {x : V} (e : σ[i]? = some (some x)) (h : te σ H fun y H1 => ti x y H1 fun z H2 => D.nx (σ.set i (some z)) H2) : tAug i te ti D σ H := ⟨x, e, h⟩
theorem p_call {sp : Sp} {dvs : List V} {E : XK} (h : tas σ H fun vs H1 => sp (vs ++ dvs) H1 Q E) : tCall sp dvs E tas σ H Q := h
theorem p_cb {rc : List V → Hp → VK → Prop} (h : tas σ H fun vs H1 => rc vs H1 Q) : tCB rc tas σ H Q := h
theorem p_ife (h : tt σ H fun c H1 => if c = true then ta σ H1 Q else tb σ H1 Q) : tIf tt ta tb σ H Q := h
end
theorem r_and {a b : Nat} {H : Hp} {Q : VK} (q : Q (.int (a &&& b : Nat)) H) : rI0 (fun i j => .int (Builtin.bitAnd i j)) (.int (a : Int)) (.int (b : Int)) H Q :=
  ⟨a, b, rfl, rfl, by show Q (.int (Builtin.bitAnd (a : Int) (b : Int))) H; rw [band]; exact q⟩
theorem r_or {a b : Nat} {H : Hp} {Q : VK} (q : Q (.int (a ||| b : Nat)) H) : rI0 (fun i j => .int (Builtin.bitOr i j)) (.int (a : Int)) (.int (b : Int)) H Q :=
  ⟨a, b, rfl, rfl, by show Q (.int (Builtin.bitOr (a : Int) (b : Int))) H; rw [bor]; exact q⟩
theorem r_xor {a b : Nat} {H : Hp} {Q : VK} (q : Q (.int (a ^^^ b : Nat)) H) : rI0 (fun i j => .int (Builtin.bitXor i j)) (.int (a : Int)) (.int (b : Int)) H Q :=
  ⟨a, b, rfl, rfl, by show Q (.int (Builtin.bitXor (a : Int) (b : Int))) H; rw [bxor]; exact q⟩
theorem r_shl1 {k : Nat} {H : Hp} {Q : VK} (h : k ≤ 1000000) (q : Q (.int (2 ^ k : Nat)) H) : rI CPow (fun i j => .int (i * 2 ^ j.toNat)) (.int 1) (.int (k : Int)) H Q :=
  ⟨1, k, rfl, rfl, cpow1 h, by show Q (.int ((1 : Int) * 2 ^ ((k : Int)).toNat)) H; rw [shl1]; exact q⟩
/-- how many types -/
abbrev tn (at_ : List Oc.C) : Nat := 2 ^ at_.length
abbrev vl (at_ : List Oc.C) (c : Oc.C) : Nat := val (tn at_) at_ c
section
variable {P : Program} {w : World} {K : PySem.W.Frag} {mg : Str → Option Value} {base : Heap} {aP aH : Addr}
/-! ### kinds_with_atom -/
abbrev s_kinds_with_atom : Stmt := topS 20
theorem sc_kinds_with_atom : FnScope ["amount", "place", "found", "kind"] ["amount", "place"] (defScope s_kinds_with_atom) := ⟨rfl, rfl, rfl, by decide +kernel, rfl, by decide +kernel, by decide +kernel⟩
def sp_kinds_with_atom : Sp := fun vs H Q _ => ∃ (n k : Nat), vs = [.int (n : Int), .int (k : Int)] ∧ n ≤ 1000 ∧ Q (.int (bits n fun t => Oc.bit t k : Nat)) H
theorem bit_test (t k : Nat) : decide (V.int (Builtin.bitAnd ((t : Int) / 2 ^ ((k : Int)).toNat) 1) = V.int 1) = Oc.bit t k := by
  have e : ((t : Int) / 2 ^ ((k : Int)).toNat) = ((t / 2 ^ k : Nat) : Int) := by
    rw [Int.toNat_natCast, Int.natCast_ediv, Int.natCast_pow]
    rfl
  rw [e, show (1 : Int) = ((1 : Nat) : Int) from rfl, band, dec_V, Nat.and_one_is_mod]
  unfold Oc.bit
  rw [Bool.eq_iff_iff]
  simp only [decide_eq_true_eq, beq_iff_eq]
  omega
theorem ok_kinds_with_atom {f : Addr} {fd : FuncData} (F : Fun K "kinds_with_atom" "kinds_with_atom" s_kinds_with_atom f fd) (T : Txt K mg aP aH) : FnOk P w K mg base CX0 1 f fd ["amount", "place"] sp_kinds_with_atom := by
  refine F.ok sc_kinds_with_atom (fun vs H Q E h => ?_) (fun cdv A outer s H vs Q E hr h => ?_)
  · obtain ⟨n, k, rfl, _⟩ := h
    rfl
  · refine ⟨_, (pss_cons (ps_set (i := 2) sc_kinds_with_atom.nd rfl (Or.inl rfl) pe_int)
      (pss_cons (ps_for PassesOwn.never rfl (pi_range1 rfl T.b_range (pa_cons (pv 0) pa_nil)) (pg_name (i := 3) sc_kinds_with_atom.nd rfl (Or.inl rfl))
        (pss_one (ps_if (pt_cmpR op_eq (pe_op op_and (pe_op op_shr (pv 3) (pv 1)) pe_int) pe_int (nomark _))
          (pss_one (ps_aug (i := 2) sc_kinds_with_atom.nd rfl (Or.inl rfl) (pe_op op_shl pe_int (pv 3)) iop_or))
          pss_nil)))
      (pss_one (ps_ret (pv 2))))), ?_⟩
    obtain ⟨n, k, rfl, hn, q⟩ := h
    refine ⟨_, rfl, n, rfl, by omega, by omega, for_range (lo := 0) (n := ((n : Int)).toNat) (fun i σ H' => H' = H ∧ ∃ x : Option V, σ = [some (.int (n : Int)), some (.int (k : Int)), some (.int (bits i fun t => Oc.bit t k : Nat)), x]) ⟨rfl, _, rfl⟩ ?_ ?_⟩
    · rintro i σ H' hi ⟨rfl, x, rfl⟩
      rw [show (0 : Int) + (i : Int) = (i : Int) by omega]
      refine ⟨_, rfl, _, rfl, _, _, rfl, rfl, (by omega : (0 : Int) ≤ (k : Int)), _, _, rfl, rfl, rfl, _, rfl, ?_⟩
      have hb := bits_next (n := i) (p := fun t => Oc.bit t k)
      cases c : Oc.bit i k with
      | true =>
        refine if_t ((bit_test i k).trans c) ?_
        simp only [c, if_pos] at hb
        refine ⟨_, rfl, _, rfl, r_shl1 (by omega) (r_or ?_)⟩
        rw [← hb]
        exact ⟨rfl, _, rfl⟩
      | false =>
        refine if_f ((bit_test i k).trans c) ?_
        simp only [c, Bool.false_eq_true, if_false] at hb
        refine ⟨rfl, some (.int (i : Int)), ?_⟩
        rw [hb]
        rfl
    · rintro σ H' ⟨rfl, x, rfl⟩
      rw [Int.toNat_natCast]
      exact ⟨_, rfl, q⟩
end
/-! ## the object of the kinds -/
structure AtOk (at_ : List Oc.C) : Prop where
  g : Good at_
  w : ∀ x ∈ at_, wf x
  a : ∀ x ∈ at_, isAtom x = true
  n : at_.length ≤ 4
  l : ∀ x ∈ at_, (enc x).length ≤ 10000
theorem AtOk.tn16 {at_ : List Oc.C} (h : AtOk at_) : tn at_ ≤ 16 := Nat.pow_le_pow_right (by decide) h.n
def cols (at_ : List Oc.C) : List (List Key × V) := at_.map fun c => (ky c, V.int (vl at_ c : Nat))
theorem cols_get {at_ : List Oc.C} {N : Oc.C → Nat} : ∀ {m : List Oc.C} {c : Oc.C}, (∀ x ∈ m, wf x) → c ∈ m → valV (m.map fun c => (ky c, V.int (N c : Nat))) (ky c) = some (.int (N c : Nat))
  | [], c, _, h => by cases h
  | d :: r, c, w, h => by
    rw [List.map_cons]
    by_cases e : d = c
    · subst e
      exact valV_pos rfl
    · have hr : c ∈ r := by
        rcases List.mem_cons.mp h with h | h
        · exact absurd h.symm e
        · exact h
      rw [valV_neg (fun z => e (ky_inj (w d (by simp)) (w c h) z))]
      exact cols_get (at_ := at_) (fun x hx => w x (by simp [hx])) hr
structure KTx (K : PySem.W.Frag) (CK : Addr) : Prop where
  cl : Cls K CK
  n_amount : NoAttr K CK "amount"
  n_every : NoAttr K CK "every"
  n_columns : NoAttr K CK "columns"
  n_links : NoAttr K CK "links"
/-- an instance that has its numbers and columns, and no method's name among its values -/
structure KF (at_ : List Oc.C) (fs : List (Str × V)) (d : Addr) : Prop where
  amount : fs.lookup ("amount" : Str) = some (.int (tn at_ : Nat))
  every : fs.lookup ("every" : Str) = some (.int (vl at_ .top : Nat))
  columns : fs.lookup ("columns" : Str) = some (.ref d)
  m_link : fs.lookup ("link" : Str) = none
  m_having : fs.lookup ("having" : Str) = none
  m_combined : fs.lookup ("combined" : Str) = none
  m_satisfying : fs.lookup ("satisfying" : Str) = none
  m_occurring : fs.lookup ("occurring" : Str) = none
  m_supported_by : fs.lookup ("supported_by" : Str) = none
  m_finds_all : fs.lookup ("finds_all" : Str) = none
  m_allowed : fs.lookup ("allowed" : Str) = none
structure K0 (CK : Addr) (H : Hp) (a : Addr) (at_ : List Oc.C) : Prop where
  ok : AtOk at_
  ex : ∃ dx fs d, H a = some (.ins CK dx fs) ∧ KF at_ fs d ∧ H d = some (.dT (cols at_))
theorem K0.same {CK : Addr} {H H' : Hp} {a : Addr} {at_ : List Oc.C} (e : Same H H') (h : K0 CK H a at_) : K0 CK H' a at_ := by
  obtain ⟨dx, fs, d, h1, h2, h3⟩ := h.ex
  exact ⟨h.ok, dx, fs, d, e _ _ h1, h2, e _ _ h3⟩
section
variable {K : PySem.W.Frag} {CK : Addr} {H : Hp} {a : Addr} {at_ : List Oc.C}
theorem K0.r_every (k : K0 CK H a at_) (TK : KTx K CK) {i : Nat} {σ : L2.St} (hs : σ[i]? = some (some (.ref a))) {Q : VK} (q : Q (.int (vl at_ .top : Nat)) H) : tFld K (tVar i) "every" σ H Q := by
  obtain ⟨dx, fs, d, h1, h2, h3⟩ := k.ex
  exact ⟨_, hs, a, CK, dx, fs, _, rfl, h1, TK.cl, TK.n_every, h2.every, q⟩
theorem K0.r_amount (k : K0 CK H a at_) (TK : KTx K CK) {i : Nat} {σ : L2.St} (hs : σ[i]? = some (some (.ref a))) {Q : VK} (q : Q (.int (tn at_ : Nat)) H) : tFld K (tVar i) "amount" σ H Q := by
  obtain ⟨dx, fs, d, h1, h2, h3⟩ := k.ex
  exact ⟨_, hs, a, CK, dx, fs, _, rfl, h1, TK.cl, TK.n_amount, h2.amount, q⟩
end
def SameBut (l : Addr) (H H' : Hp) : Prop := ∀ b o, H b = some o → b ≠ l → H' b = some o
theorem pop_at {A : List Nat} {x : Nat} : (nz (A ++ [x]))[(nz (A ++ [x])).length - 1]? = some (V.int (x : Nat)) := by
  rw [nz_len]
  refine nz_at ?_
  simp
theorem pop_drop {A : List Nat} {x : Nat} : (nz (A ++ [x])).dropLast = nz A := by
  rw [nz_app]
  simp [nz]
section
variable {P : Program} {w : World} {K : PySem.W.Frag} {mg : Str → Option Value} {base : Heap} {aP aH CK : Addr}
/-! ### combined -/
abbrev s_Kinds_combined : Stmt := inClass (topS 21) 3
theorem sc_Kinds_combined : FnScope ["self", "concept", "at", "parts", "form"] ["self", "concept", "at", "parts"] (defScope s_Kinds_combined) := ⟨rfl, rfl, rfl, by decide +kernel, rfl, by decide +kernel, by decide +kernel⟩
def sp_combined (CK : Addr) : Sp := fun vs H Q _ => ∃ (a l : Addr) (at_ : List Oc.C) (vc : V) (c : Oc.C) (p : Nat) (d : Oc.C) (S S0 : List Nat) (v : Nat), vs = [.ref a, vc, .int (p : Int), .ref l] ∧ K0 CK H a at_ ∧ Ct H vc c ∧ InA at_ c ∧ (enc c).length ≤ 10000 ∧
  (p, d) ∈ subsAt 0 c ∧ H l = some (.lst (nz S)) ∧ comb (tn at_) at_ S d = some (S0, v) ∧ ∀ H', SameBut l H H' → H' l = some (.lst (nz S0)) → Q (.int (v : Nat)) H'
theorem ok_combined {f : Addr} {fd : FuncData} (F : Fun K "combined" "Kinds.combined" s_Kinds_combined f fd) (T : Txt K mg aP aH) (TK : KTx K CK)
    (C_concept_at : Cal P w K mg base 3 "concept_at" sp_concept_at) : FnOk P w K mg base CX0 4 f fd ["self", "concept", "at", "parts"] (sp_combined CK) := by
  refine F.ok sc_Kinds_combined (fun vs H Q E h => ?_) (fun cdv A outer s H vs Q E hr h => ?_)
  · obtain ⟨a, l, at_, vc, c, p, d, S, S0, v, rfl, _⟩ := h
    rfl
  · refine ⟨_, (pss_cons (ps_set (i := 4) sc_Kinds_combined.nd rfl (Or.inl rfl) (pe_ix ix_seq (pv 1) (pv 2) (fun _ _ => rfl)))
      (pss_cons (ps_if (pt_cmpR op_eq (pv 4) (pe_gc rfl T.c_EVERYTHING) (nomark _))
        (pss_one (ps_ret (pe_fld (pv 0) rfl)))
        pss_nil)
      (pss_cons (ps_if (pt_cmpR op_eq (pv 4) (pe_gc rfl T.c_NOTHING) (nomark _))
        (pss_one (ps_ret pe_int))
        pss_nil)
      (pss_cons (ps_if (pt_cmpR op_eq (pv 4) (pe_gc rfl T.c_BOTH) (nomark _))
        (pss_one (ps_ret (pe_op op_and (pe_bm0 PySem.F.plainAttrs_list PySem.F.slot_list_pop PySem.F.type_list_pop mt_pop (pv 3)) (pe_bm0 PySem.F.plainAttrs_list PySem.F.slot_list_pop PySem.F.type_list_pop mt_pop (pv 3)))))
        pss_nil)
      (pss_cons (ps_if (pt_cmpR op_eq (pv 4) (pe_gc rfl T.c_EITHER) (nomark _))
        (pss_one (ps_ret (pe_op op_or (pe_bm0 PySem.F.plainAttrs_list PySem.F.slot_list_pop PySem.F.type_list_pop mt_pop (pv 3)) (pe_bm0 PySem.F.plainAttrs_list PySem.F.slot_list_pop PySem.F.type_list_pop mt_pop (pv 3)))))
        pss_nil)
      (pss_cons (ps_if (pt_cmpR op_eq (pv 4) (pe_gc rfl T.c_LACKING) (nomark _))
        (pss_one (ps_ret (pe_op op_xor (pe_fld (pv 0) rfl) (pe_bm0 PySem.F.plainAttrs_list PySem.F.slot_list_pop PySem.F.type_list_pop mt_pop (pv 3)))))
        pss_nil)
      (pss_cons (ps_if (pt_cmpR op_in_seq (pv 4) (pe_tup (pa_cons (pe_gc rfl T.c_TO_SOME) (pa_cons (pe_gc rfl T.c_TO_ALL) pa_nil))) (by rfl))
        (pss_one (ps_expr (pe_bm0 PySem.F.plainAttrs_list PySem.F.slot_list_pop PySem.F.type_list_pop mt_pop (pv 3))))
        pss_nil)
      (pss_one (ps_ret (pe_dget (hu_of hr) (pe_fld (pv 0) rfl) (pe_c C_concept_at hr (by decide) rfl (pa_cons (pv 1) (pa_cons (pv 2) pa_nil))) (fun _ _ => rfl))))))))))), ?_⟩
    obtain ⟨a, l, at_, vc, c, p, d, S, S0, v, rfl, k0, ⟨wc, e, rfl, he⟩, hin, hlen, hmem, hl, hcomb, q⟩ := h
    have hf := form_at wc hmem
    have dget : ∀ (H' : Hp), SameBut l H H' → isAtom d = true → ∀ (Q : VK), (∀ H'', Same H' H'' → Q (.int (vl at_ d : Nat)) H'') →
      tDGet (tFld K (tVar 0) "columns") (tCall sp_concept_at [] E0 (tCons (tVar 1) (tCons (tVar 2) tNil))) [some (.ref a), some (.ref e), some (.int (p : Int)), some (.ref l), some (.int (form d : Nat))] H' Q := by
      intro H' sb ha Q q
      obtain ⟨dx, fs, dd, h1, h2, h3⟩ := k0.ex
      have nl : ∀ {b : Addr} {o : HO}, H b = some o → (∀ xs, o ≠ .lst xs) → b ≠ l := fun {b o} h n z => by
        rw [z, hl] at h
        exact n _ (Option.some.inj h).symm
      refine ⟨_, rfl, a, CK, dx, fs, _, rfl, sb _ _ h1 (nl h1 (by intro _ z; cases z)), TK.cl, TK.n_columns, h2.columns, ?_⟩
      refine ⟨_, rfl, _, rfl, .ref e, c, p, d, rfl, ⟨wc, e, rfl, sb _ _ he (nl he (by intro _ z; cases z))⟩, hmem, fun v' H'' sm ct => ?_⟩
      obtain ⟨wd, b, rfl, hb⟩ := ct
      rw [← ky_kV] at hb
      have hd := DGet.t (sm _ _ (sb _ _ h3 (nl h3 (by intro _ z; cases z)))) hb
      have hda : d ∈ at_ := hin d (sub_atom hmem ha)
      have hv : valV (cols at_) (ky d) = some (.int (vl at_ d : Nat)) := cols_get (at_ := at_) k0.ok.w hda
      rw [hv] at hd
      exact ⟨dd, _, rfl, hd, q _ sm⟩
    have smb : SameBut l H H := fun _ _ h _ => h
    cases d with
    | top =>
      refine ⟨_, rfl, _, rfl, ix_of (v := V.int 0) (Or.inr (SqT.of he)) (atI_nz hf) ?_⟩
      refine ⟨_, rfl, rfl, _, rfl, if_t (by decide) ?_⟩
      cases hcomb
      exact p_ret (k0.r_every TK rfl (q _ smb hl))
    | bot =>
      refine ⟨_, rfl, _, rfl, ix_of (v := V.int 1) (Or.inr (SqT.of he)) (atI_nz hf) ?_⟩
      refine ⟨_, rfl, rfl, _, rfl, if_f (by decide) ?_⟩
      refine ⟨_, rfl, rfl, _, rfl, if_t (by decide) ?_⟩
      cases hcomb
      have e0 : val (tn at_) at_ .bot = 0 := bits_none
      have := q _ smb hl
      rw [e0] at this
      exact this
    | name nm =>
      refine ⟨_, rfl, _, rfl, ix_of (v := V.int 2) (Or.inr (SqT.of he)) (atI_nz hf) ?_⟩
      refine ⟨_, rfl, rfl, _, rfl, if_f (by decide) ?_⟩
      refine ⟨_, rfl, rfl, _, rfl, if_f (by decide) ?_⟩
      refine ⟨_, rfl, rfl, _, rfl, if_f (by decide) ?_⟩
      refine ⟨_, rfl, rfl, _, rfl, if_f (by decide) ?_⟩
      refine ⟨_, rfl, rfl, _, rfl, if_f (by decide) ?_⟩
      refine ⟨_, rfl, by show 2 ≤ sizeLine; decide, fun t nt => ⟨t, _, rfl, Or.inr (SqT.of upd_same), rfl, rfl, _, rfl, if_f (by decide) ?_⟩⟩
      cases hcomb
      refine dget _ (fun b o h _ => same_new nt _ _ h) rfl _ fun H'' sm => ?_
      have sm2 := (same_new nt).trans sm
      exact q _ (fun b o h _ => sm2 _ _ h) (sm2 _ _ hl)
    | and x y =>
      refine ⟨_, rfl, _, rfl, ix_of (v := V.int 3) (Or.inr (SqT.of he)) (atI_nz hf) ?_⟩
      refine ⟨_, rfl, rfl, _, rfl, if_f (by decide) ?_⟩
      refine ⟨_, rfl, rfl, _, rfl, if_f (by decide) ?_⟩
      refine ⟨_, rfl, rfl, _, rfl, if_t (by decide) ?_⟩
      unfold comb at hcomb
      simp only at hcomb
      split at hcomb
      · rename_i x1 y1 r1 er
        cases hcomb
        have eS := rev_two er
        rw [show r1.reverse ++ [y1, x1] = (r1.reverse ++ [y1]) ++ [x1] by simp] at eS
        rw [eS] at hl
        refine ⟨_, rfl, .inl ⟨rfl, _, SqL.of hl⟩, l, _, _, rfl, rfl, hl, pop_at, ?_⟩
        rw [pop_drop]
        refine ⟨_, rfl, .inl ⟨rfl, _, SqL.of upd_same⟩, l, _, _, rfl, rfl, upd_same, pop_at, ?_⟩
        rw [pop_drop]
        refine r_and ?_
        exact q _ (fun b o h n => by rw [upd_ne n, upd_ne n]; exact h) upd_same
      · cases hcomb
    | or x y =>
      refine ⟨_, rfl, _, rfl, ix_of (v := V.int 4) (Or.inr (SqT.of he)) (atI_nz hf) ?_⟩
      refine ⟨_, rfl, rfl, _, rfl, if_f (by decide) ?_⟩
      refine ⟨_, rfl, rfl, _, rfl, if_f (by decide) ?_⟩
      refine ⟨_, rfl, rfl, _, rfl, if_f (by decide) ?_⟩
      refine ⟨_, rfl, rfl, _, rfl, if_t (by decide) ?_⟩
      unfold comb at hcomb
      simp only at hcomb
      split at hcomb
      · rename_i x1 y1 r1 er
        cases hcomb
        have eS := rev_two er
        rw [show r1.reverse ++ [y1, x1] = (r1.reverse ++ [y1]) ++ [x1] by simp] at eS
        rw [eS] at hl
        refine ⟨_, rfl, .inl ⟨rfl, _, SqL.of hl⟩, l, _, _, rfl, rfl, hl, pop_at, ?_⟩
        rw [pop_drop]
        refine ⟨_, rfl, .inl ⟨rfl, _, SqL.of upd_same⟩, l, _, _, rfl, rfl, upd_same, pop_at, ?_⟩
        rw [pop_drop]
        refine r_or ?_
        exact q _ (fun b o h n => by rw [upd_ne n, upd_ne n]; exact h) upd_same
      · cases hcomb
    | not x =>
      refine ⟨_, rfl, _, rfl, ix_of (v := V.int 5) (Or.inr (SqT.of he)) (atI_nz hf) ?_⟩
      refine ⟨_, rfl, rfl, _, rfl, if_f (by decide) ?_⟩
      refine ⟨_, rfl, rfl, _, rfl, if_f (by decide) ?_⟩
      refine ⟨_, rfl, rfl, _, rfl, if_f (by decide) ?_⟩
      refine ⟨_, rfl, rfl, _, rfl, if_f (by decide) ?_⟩
      refine ⟨_, rfl, rfl, _, rfl, if_t (by decide) ?_⟩
      unfold comb at hcomb
      simp only at hcomb
      split at hcomb
      · rename_i x1 r1 er
        cases hcomb
        have eS := rev_one er
        rw [eS] at hl
        refine p_ret (p_op (k0.r_every TK rfl ?_))
        refine ⟨_, rfl, .inl ⟨rfl, _, SqL.of hl⟩, l, _, _, rfl, rfl, hl, pop_at, ?_⟩
        rw [pop_drop]
        refine r_xor ?_
        exact q _ (fun b o h n => by rw [upd_ne n]; exact h) upd_same
      · cases hcomb
    | some rr x =>
      refine ⟨_, rfl, _, rfl, ix_of (v := V.int 6) (Or.inr (SqT.of he)) (atI_nz hf) ?_⟩
      refine ⟨_, rfl, rfl, _, rfl, if_f (by decide) ?_⟩
      refine ⟨_, rfl, rfl, _, rfl, if_f (by decide) ?_⟩
      refine ⟨_, rfl, rfl, _, rfl, if_f (by decide) ?_⟩
      refine ⟨_, rfl, rfl, _, rfl, if_f (by decide) ?_⟩
      refine ⟨_, rfl, rfl, _, rfl, if_f (by decide) ?_⟩
      refine ⟨_, rfl, by show 2 ≤ sizeLine; decide, fun t nt => ⟨t, _, rfl, Or.inr (SqT.of upd_same), rfl, rfl, _, rfl, if_t (by decide) ?_⟩⟩
      unfold comb at hcomb
      simp only at hcomb
      split at hcomb
      · rename_i x1 r1 er
        cases hcomb
        have eS := rev_one er
        rw [eS] at hl
        have hl2 := same_new (o := .tup [.int 6, .int 7]) nt _ _ hl
        refine ⟨_, rfl, .inl ⟨rfl, _, SqL.of hl2⟩, l, _, _, rfl, rfl, hl2, pop_at, ?_⟩
        rw [pop_drop]
        have sb : SameBut l H (upd (upd H t (.tup [.int 6, .int 7])) l (.lst (nz r1.reverse))) := fun b o h n => by
          rw [upd_ne n]
          exact same_new nt _ _ h
        refine dget _ sb rfl _ fun H'' sm => ?_
        exact q _ (fun b o h n => sm _ _ (sb _ _ h n)) (sm _ _ upd_same)
      · cases hcomb
    | all rr x =>
      refine ⟨_, rfl, _, rfl, ix_of (v := V.int 7) (Or.inr (SqT.of he)) (atI_nz hf) ?_⟩
      refine ⟨_, rfl, rfl, _, rfl, if_f (by decide) ?_⟩
      refine ⟨_, rfl, rfl, _, rfl, if_f (by decide) ?_⟩
      refine ⟨_, rfl, rfl, _, rfl, if_f (by decide) ?_⟩
      refine ⟨_, rfl, rfl, _, rfl, if_f (by decide) ?_⟩
      refine ⟨_, rfl, rfl, _, rfl, if_f (by decide) ?_⟩
      refine ⟨_, rfl, by show 2 ≤ sizeLine; decide, fun t nt => ⟨t, _, rfl, Or.inr (SqT.of upd_same), rfl, rfl, _, rfl, if_t (by decide) ?_⟩⟩
      unfold comb at hcomb
      simp only at hcomb
      split at hcomb
      · rename_i x1 r1 er
        cases hcomb
        have eS := rev_one er
        rw [eS] at hl
        have hl2 := same_new (o := .tup [.int 6, .int 7]) nt _ _ hl
        refine ⟨_, rfl, .inl ⟨rfl, _, SqL.of hl2⟩, l, _, _, rfl, rfl, hl2, pop_at, ?_⟩
        rw [pop_drop]
        have sb : SameBut l H (upd (upd H t (.tup [.int 6, .int 7])) l (.lst (nz r1.reverse))) := fun b o h n => by
          rw [upd_ne n]
          exact same_new nt _ _ h
        refine dget _ sb rfl _ fun H'' sm => ?_
        exact q _ (fun b o h n => sm _ _ (sb _ _ h n)) (sm _ _ upd_same)
      · cases hcomb
end
end Py

namespace Py
open PySem PySem.Spec PyProof.Rows L2 Ex
theorem combs_pre {N : Nat} {at_ : List Oc.C} {xs : List (Nat × Oc.C)} {i : Nat} {x : Nat × Oc.C} {S R : List Nat} (hx : xs[i]? = some x) (hall : combs N at_ xs [] = some R) (hi : combs N at_ (xs.take i) [] = some S) :
    ∃ S0 v, comb N at_ S x.2 = some (S0, v) ∧ combs N at_ (xs.take (i + 1)) [] = some (S0 ++ [v]) := by
  have e : xs = xs.take (i + 1) ++ xs.drop (i + 1) := (List.take_append_drop _ _).symm
  rw [e, combs_append, take_more hx, combs_append, hi] at hall
  have hall : ((comb N at_ S x.2).bind fun y => combs N at_ [] (y.1 ++ [y.2])).bind _ = some R := hall
  cases hc : comb N at_ S x.2 with
  | none =>
    rw [hc] at hall
    cases hall
  | some y =>
    refine ⟨y.1, y.2, rfl, ?_⟩
    rw [take_more hx, combs_append, hi]
    show (comb N at_ S x.2).bind _ = _
    rw [hc]
    rfl
section
variable {P : Program} {w : World} {K : PySem.W.Frag} {mg : Str → Option Value} {base : Heap} {aP aH CK : Addr}
/-! ### having -/
abbrev s_Kinds_having : Stmt := inClass (topS 21) 2
theorem sc_Kinds_having : FnScope ["self", "concept", "parts", "at"] ["self", "concept"] (defScope s_Kinds_having) := ⟨rfl, rfl, rfl, by decide +kernel, rfl, by decide +kernel, by decide +kernel⟩
def sp_having (CK : Addr) : Sp := fun vs H Q _ => ∃ (a : Addr) (at_ : List Oc.C) (vc : V) (c : Oc.C), vs = [.ref a, vc] ∧ K0 CK H a at_ ∧ Ct H vc c ∧ InA at_ c ∧ (enc c).length ≤ 10000 ∧
  ∀ H', Same H H' → Q (.int (vl at_ c : Nat)) H'
theorem ok_having {f : Addr} {fd : FuncData} (F : Fun K "having" "Kinds.having" s_Kinds_having f fd) (T : Txt K mg aP aH) (TK : KTx K CK)
    (C_head_places : Cal P w K mg base 2 "head_places" (sp_head_places K)) (C_Kinds_combined : Met P w K mg base 4 CK "combined" (sp_combined CK)) : FnOk P w K mg base CX0 5 f fd ["self", "concept"] (sp_having CK) := by
  refine F.ok sc_Kinds_having (fun vs H Q E h => ?_) (fun cdv A outer s H vs Q E hr h => ?_)
  · obtain ⟨a, at_, vc, c, rfl, _⟩ := h
    rfl
  · refine ⟨_, (pss_cons (ps_set (i := 2) sc_Kinds_having.nd rfl (Or.inl rfl) (pe_lst pa_nil))
      (pss_cons (ps_for PassesOwn.never rfl (pi_reversed (by rfl) T.b_reversed (pa_cons (pe_c C_head_places hr (by decide) rfl (pa_cons (pv 1) pa_nil)) pa_nil)) (pg_name (i := 3) sc_Kinds_having.nd rfl (Or.inl rfl))
        (pss_one (ps_expr (pe_bm PySem.F.plainAttrs_list PySem.F.slot_list_append PySem.F.type_list_append mt_append (pv 2) (pa_cons (pe_mt C_Kinds_combined hr (by decide) (pv 0) (pa_cons (pv 1) (pa_cons (pv 3) (pa_cons (pv 2) pa_nil)))) pa_nil)))))
      (pss_one (ps_ret (pe_ix ix_seq (pv 2) pe_int (fun _ _ => rfl)))))), ?_⟩
    obtain ⟨a, at_, vc, c, rfl, k0, ⟨wc, e, rfl, he⟩, hin, hlen, q⟩ := h
    refine ⟨by show 0 ≤ sizeLine; decide, fun l nl => ?_⟩
    have sm1 := same_new (o := .lst []) nl
    refine ⟨_, rfl, e, enc c, rfl, SqT.of (sm1 _ _ he), enc_lt8 c wc, hlen, fun pl H2 sm2 npl hpl => ?_⟩
    rw [places_enc] at hpl
    have nll : pl ≠ l := by
      intro z
      rw [z, upd_same] at npl
      cases npl
    have sm3 := sm1.trans sm2
    have hl2 : H2 l = some (.lst (nz [])) := sm2 _ _ upd_same
    have hall : combs (tn at_) at_ (subsAt 0 c).reverse [] = some [vl at_ c] := combs_all (tn at_) at_ c 0 []
    have xl : (nz ((subsAt 0 c).map (·.1))).length = (subsAt 0 c).length := by rw [nz_len, List.length_map]
    have hsz : (subsAt 0 c).length ≤ (enc c).length := by
      have := places_len 0 0 (enc c)
      rw [show hgo 0 0 (enc c) = (subsAt 0 c).map (·.1) from places_enc c, List.length_map] at this
      exact this
    refine ⟨pl, _, rfl, SqL.of hpl, RT.for_Itv (K := K) (a := pl) (xs := nz ((subsAt 0 c).map (·.1))) (fun i σ H' => ∃ (x : Option V) (S : List Nat), σ = [some (.ref a), some (.ref e), some (.ref l), x] ∧ Same H H' ∧ H' pl = some (.lst (nz ((subsAt 0 c).map (·.1)))) ∧ H' l = some (.lst (nz S)) ∧ combs (tn at_) at_ ((subsAt 0 c).reverse.take i) [] = some S ∧ S.length ≤ i)
      ⟨none, [], rfl, sm3, hpl, hl2, rfl, Nat.le_refl _⟩ (fun i σ H' ⟨_, _, _, _, h, _⟩ => SqL.of h) ?_ ?_⟩
    · rintro i x σ H' hi hx ⟨y, S, rfl, sm, hp, hl, hc, hS⟩
      rw [xl] at hi hx
      have hrev : (subsAt 0 c).reverse[i]? = (subsAt 0 c)[(subsAt 0 c).length - 1 - i]? := by
        rw [List.getElem?_reverse hi]
      obtain ⟨pd, hpd⟩ : ∃ pd, (subsAt 0 c)[(subsAt 0 c).length - 1 - i]? = some pd := ⟨_, List.getElem?_eq_getElem (by omega)⟩
      have ex : x = V.int (pd.1 : Nat) := by
        unfold nz at hx
        rw [List.getElem?_map, List.getElem?_map, hpd] at hx
        exact (Option.some.inj hx).symm
      subst ex
      rw [hpd] at hrev
      obtain ⟨S0, v, hcb, hnext⟩ := combs_pre hrev hall hc
      have hmem : (pd.1, pd.2) ∈ subsAt 0 c := List.mem_of_getElem? hpd
      have hcl := comb_len hcb
      obtain ⟨dx, fs, d, h1, h2, h3⟩ := (k0.same sm).ex
      refine ⟨_, rfl, .inl ⟨rfl, _, SqL.of hl⟩, ?_⟩
      refine ⟨_, rfl, a, dx, fs, rfl, h1, h2.m_combined, _, rfl, _, rfl, _, rfl, ?_⟩
      refine ⟨a, l, at_, .ref e, c, pd.1, pd.2, S, S0, v, rfl, k0.same sm, ⟨wc, e, rfl, sm _ _ he⟩, hin, hlen, hmem, hl, hcb, fun H4 sb hl4 => ?_⟩
      refine ⟨l, _, _, rfl, rfl, hl4, sz10 (by rw [nz_len]; omega), ?_⟩
      refine ⟨_, S0 ++ [v], rfl, ?_, ?_, ?_, hnext, by rw [List.length_append, List.length_singleton]; omega⟩
      · intro b o hb
        have nb : b ≠ l := ne_of_none hb nl
        rw [upd_ne nb]
        exact sb _ _ (sm _ _ hb) nb
      · rw [upd_ne nll]
        exact sb _ _ hp nll
      · rw [nz_app]
        exact upd_same
    · rintro σ H' ⟨y, S, rfl, sm, hp, hl, hc, hS⟩
      rw [xl] at hc
      rw [List.take_of_length_le (by rw [List.length_reverse]; exact Nat.le_refl _), hall] at hc
      cases hc
      refine ⟨_, rfl, ixL_of (v := V.int (vl at_ c : Nat)) (SqL.of hl) ?_ (q _ sm)⟩
      exact atI_nz (l := [vl at_ c]) (i := 0) rfl
/-! ### link -/
/-- a link as it lies in the heap -/
def Lk (at_ : List Oc.C) (H : Hp) (v : V) (x : Oc.C) : Prop := ∃ a, v = .ref a ∧ H a = some (.tup [.int (rol x : Nat), .int (bits (tn at_) (tgp at_ x) : Nat), .int (bits (tn at_) (ndp at_ x) : Nat)])
theorem Lk.same {at_ : List Oc.C} {H H' : Hp} {v : V} {x : Oc.C} (e : Same H H') (h : Lk at_ H v x) : Lk at_ H' v x := by
  obtain ⟨a, rfl, h⟩ := h
  exact ⟨a, rfl, e _ _ h⟩
def inner : Oc.C → Oc.C
  | .some _ c => c
  | .all _ c => c
  | c => c
theorem enc_role {x : Oc.C} (h : isRole x = true) : enc x = form x :: rol x :: enc (inner x) := by
  cases x <;> first | rfl | cases h
theorem xor_top {at_ : List Oc.C} {p : Nat → Bool} : vl at_ .top ^^^ bits (tn at_) p = bits (tn at_) fun t => !p t := by
  show bits (tn at_) _ ^^^ bits (tn at_) p = _
  rw [bits_xor]
  refine bits_congr fun t _ => ?_
  show (true ^^ p t) = !p t
  rw [Bool.true_xor]
abbrev s_Kinds_link : Stmt := inClass (topS 21) 1
theorem sc_Kinds_link : FnScope ["self", "atom", "targets", "needing"] ["self", "atom"] (defScope s_Kinds_link) := ⟨rfl, rfl, rfl, by decide +kernel, rfl, by decide +kernel, by decide +kernel⟩
def sp_link (CK : Addr) : Sp := fun vs H Q _ => ∃ (a : Addr) (at_ : List Oc.C) (vc : V) (x : Oc.C), vs = [.ref a, vc] ∧ K0 CK H a at_ ∧ Ct H vc x ∧ x ∈ at_ ∧ isRole x = true ∧
  ∀ v H', Same H H' → Lk at_ H' v x → Q v H'
theorem ok_link {f : Addr} {fd : FuncData} (F : Fun K "link" "Kinds.link" s_Kinds_link f fd) (T : Txt K mg aP aH) (TK : KTx K CK)
    (C_Kinds_having : Met P w K mg base 5 CK "having" (sp_having CK)) : FnOk P w K mg base CX0 6 f fd ["self", "atom"] (sp_link CK) := by
  refine F.ok sc_Kinds_link (fun vs H Q E h => ?_) (fun cdv A outer s H vs Q E hr h => ?_)
  · obtain ⟨a, at_, vc, c, rfl, _⟩ := h
    rfl
  · refine ⟨_, (pss_cons (ps_set (i := 2) sc_Kinds_link.nd rfl (Or.inl rfl) (pe_mt C_Kinds_having hr (by decide) (pv 0) (pa_cons (pe_slice sl_tupA (pv 1) (po_some pe_int) po_none) pa_nil)))
      (pss_cons (ps_set (i := 3) sc_Kinds_link.nd rfl (Or.inl rfl) (pe_dget (hu_of hr) (pe_fld (pv 0) rfl) (pv 1) (fun _ _ => rfl)))
      (pss_cons (ps_if (pt_cmpR op_eq (pe_ix ix_seq (pv 1) pe_int (fun _ _ => rfl)) (pe_gc rfl T.c_TO_ALL) (nomark _))
        (pss_cons (ps_set (i := 2) sc_Kinds_link.nd rfl (Or.inl rfl) (pe_op op_xor (pe_fld (pv 0) rfl) (pv 2)))
        (pss_one (ps_set (i := 3) sc_Kinds_link.nd rfl (Or.inl rfl) (pe_op op_xor (pe_fld (pv 0) rfl) (pv 3)))))
        pss_nil)
      (pss_one (ps_ret (pe_tup (pa_cons (pe_ix ix_seq (pv 1) pe_int (fun _ _ => rfl)) (pa_cons (pv 2) (pa_cons (pv 3) pa_nil))))))))), ?_⟩
    obtain ⟨a, at_, vc, x, rfl, k0, ⟨wx, e, rfl, he⟩, hx, hrole, q⟩ := h
    have eenc := enc_role hrole
    have wi : wf (inner x) := by
      cases x <;> first | exact wx.2 | cases hrole
    have hini : InA at_ (inner x) := by
      cases x with
      | some r c => exact fun y hy => k0.ok.g.some r c hx y hy
      | all r c => exact fun y hy => k0.ok.g.all r c hx y hy
      | _ => cases hrole
    have hli : (enc (inner x)).length ≤ 10000 := by
      have := k0.ok.l x hx
      rw [eenc] at this
      simp only [List.length_cons] at this
      omega
    obtain ⟨dx, fs, d, h1, h2, h3⟩ := k0.ex
    -- targets = self.having(atom[2:])
    refine ⟨_, rfl, a, dx, fs, rfl, h1, h2.m_having, _, rfl, _, rfl, e, _, rfl, SqT.of he, fun hw => ?_, fun _ b nb => ?_⟩
    · exfalso
      have h0 := hw.1
      rw [show ((2 : Int)) = ((2 : Nat) : Int) from rfl, HT.sIx_nat, nz_len, eenc] at h0
      simp only [List.length_cons] at h0
      have := enc_pos (inner x)
      omega
    have hcut : cutV (nz (enc x)) (some 2) none = nz (enc (inner x)) := by
      have h := cut_from (l := enc x) (k := 2) (by rw [eenc]; simp)
      rw [show ((2 : Nat) : Int) = (2 : Int) from rfl] at h
      rw [h, eenc]
      rfl
    rw [hcut]
    have sm1 := same_new (o := .tup (nz (enc (inner x)))) nb
    refine ⟨a, at_, .ref b, inner x, rfl, k0.same sm1, ⟨wi, b, rfl, upd_same⟩, hini, hli, fun H2 sm2 => ?_⟩
    have sm3 := sm1.trans sm2
    -- needing = self.columns[atom]
    have hk := he
    rw [← ky_kV] at hk
    have hd := DGet.t (sm3 _ _ h3) (sm3 _ _ hk)
    have hv : valV (cols at_) (ky x) = some (.int (vl at_ x : Nat)) := cols_get (at_ := at_) k0.ok.w hx
    rw [hv] at hd
    refine ⟨_, rfl, a, CK, dx, fs, _, rfl, sm3 _ _ h1, TK.cl, TK.n_columns, h2.columns, _, rfl, d, _, rfl, hd, ?_⟩
    -- if atom[0] == TO_ALL
    have hf : (enc x)[0]? = some (form x) := by rw [eenc]; rfl
    have hr1 : (enc x)[1]? = some (rol x) := by rw [eenc]; rfl
    cases x with
    | some r c =>
      refine ⟨_, rfl, ixT_of (v := V.int 6) (SqT.of (sm3 _ _ he)) (atI_nz (i := 0) hf) ?_⟩
      refine ⟨rfl, _, rfl, if_f (by decide) ?_⟩
      refine ⟨_, rfl, ixT_of (v := V.int (r : Nat)) (SqT.of (sm3 _ _ he)) (atI_nz (i := 1) hr1) ?_⟩
      refine ⟨_, rfl, _, rfl, by show 3 ≤ sizeLine; decide, fun p np => ?_⟩
      exact q _ _ (sm3.trans (same_new np)) ⟨p, rfl, upd_same⟩
    | all r c =>
      refine ⟨_, rfl, ixT_of (v := V.int 7) (SqT.of (sm3 _ _ he)) (atI_nz (i := 0) hf) ?_⟩
      refine ⟨rfl, _, rfl, if_t (by decide) ?_⟩
      refine p_seq (p_asg (p_op ((k0.same sm3).r_every TK rfl ⟨_, rfl, r_xor ?_⟩)))
      refine p_asg (p_op ((k0.same sm3).r_every TK rfl ⟨_, rfl, r_xor ?_⟩))
      rw [show vl at_ (inner (.all r c)) = bits (tn at_) fun t => Oc.holds at_ t c from rfl, show vl at_ (.all r c) = bits (tn at_) fun t => Oc.holds at_ t (.all r c) from rfl, xor_top, xor_top]
      refine ⟨_, rfl, ixT_of (v := V.int (r : Nat)) (SqT.of (sm3 _ _ he)) (atI_nz (i := 1) hr1) ?_⟩
      refine ⟨_, rfl, _, rfl, by show 3 ≤ sizeLine; decide, fun p np => ?_⟩
      exact q _ _ (sm3.trans (same_new np)) ⟨p, rfl, upd_same⟩
    | _ => cases hrole
end
end Py

namespace Py
open PySem PySem.Spec PyProof.Rows L2 Ex
/-- an instance with its links, too -/
structure K1 (CK : Addr) (H : Hp) (a : Addr) (at_ : List Oc.C) : Prop where
  ok : AtOk at_
  ex : ∃ dx fs d l ws, H a = some (.ins CK dx fs) ∧ KF at_ fs d ∧ H d = some (.dT (cols at_)) ∧ fs.lookup ("links" : Str) = some (.ref l) ∧ H l = some (.lst ws) ∧ Paired (Lk at_ H) ws (roles at_)
theorem K1.k0 {CK : Addr} {H : Hp} {a : Addr} {at_ : List Oc.C} (h : K1 CK H a at_) : K0 CK H a at_ := by
  obtain ⟨dx, fs, d, l, ws, h1, h2, h3, _⟩ := h.ex
  exact ⟨h.ok, dx, fs, d, h1, h2, h3⟩
theorem K1.same {CK : Addr} {H H' : Hp} {a : Addr} {at_ : List Oc.C} (e : Same H H') (h : K1 CK H a at_) : K1 CK H' a at_ := by
  obtain ⟨dx, fs, d, l, ws, h1, h2, h3, h4, h5, h6⟩ := h.ex
  exact ⟨h.ok, dx, fs, d, l, ws, e _ _ h1, h2, e _ _ h3, h4, e _ _ h5, pr_mono h6 fun _ _ => Lk.same e⟩
/-! ### sets of kinds -/
theorem one_and {n t : Nat} {p : Nat → Bool} (h : t < n) : decide (2 ^ t &&& bits n p = 0) = !p t := by
  rw [bits_one h, bits_and, bits_zero_any]
  congr 1
  rw [Bool.eq_iff_iff, List.any_eq_true]
  constructor
  · rintro ⟨u, hu, e⟩
    simp only [Bool.and_eq_true, beq_iff_eq] at e
    rw [← e.1]
    exact e.2
  · intro e
    exact ⟨t, List.mem_range.mpr h, by simp [e]⟩
theorem and_one {n t : Nat} {p : Nat → Bool} (h : t < n) : decide (bits n p &&& 2 ^ t = 0) = !p t := by
  rw [Nat.and_comm]
  exact one_and h
theorem dec_eq0 {x : Nat} : decide (V.int ((x : Nat) : Int) = V.int 0) = decide (x = 0) := by
  rw [dec_V, Bool.eq_iff_iff]
  simp only [decide_eq_true_eq]
  omega
theorem dec_ne0 {x : Nat} : (!decide (V.int ((x : Nat) : Int) = V.int 0)) = !decide (x = 0) := by rw [dec_eq0]
theorem dec_eqN {x y : Nat} : decide (V.int ((x : Nat) : Int) = V.int ((y : Nat) : Int)) = decide (x = y) := by
  rw [dec_V, Bool.eq_iff_iff]
  simp only [decide_eq_true_eq]
  omega
theorem all_next {α : Type} {p : α → Bool} {l : List α} {i : Nat} {x : α} (h : l[i]? = some x) : (l.take (i + 1)).all p = ((l.take i).all p && p x) := by
  rw [take_more h, List.all_append]
  simp
theorem all_no {α : Type} {p : α → Bool} {l : List α} {i : Nat} {x : α} (h : l[i]? = some x) (e : p x = false) : l.all p = false := by
  rw [Bool.eq_false_iff]
  intro z
  rw [List.all_eq_true] at z
  rw [z x (List.mem_of_getElem? h)] at e
  cases e
section
variable {P : Program} {w : World} {K : PySem.W.Frag} {mg : Str → Option Value} {base : Heap} {aP aH CK : Addr}
/-! ### allowed -/
abbrev s_Kinds_allowed : Stmt := inClass (topS 21) 8
theorem sc_Kinds_allowed : FnScope ["self", "kind_bit", "role", "kept", "link_role", "targets", "needing"] ["self", "kind_bit", "role"] (defScope s_Kinds_allowed) := ⟨rfl, rfl, rfl, by decide +kernel, rfl, by decide +kernel, by decide +kernel⟩
def sp_allowed (CK : Addr) : Sp := fun vs H Q _ => ∃ (a : Addr) (at_ : List Oc.C) (t r : Nat), vs = [.ref a, .int (2 ^ t : Nat), .int (r : Nat)] ∧ K1 CK H a at_ ∧ t < tn at_ ∧ Q (.int (bits (tn at_) (Oc.fits at_ r t) : Nat)) H
theorem ok_allowed {f : Addr} {fd : FuncData} (F : Fun K "allowed" "Kinds.allowed" s_Kinds_allowed f fd) (T : Txt K mg aP aH) (TK : KTx K CK) : FnOk P w K mg base CX0 1 f fd ["self", "kind_bit", "role"] (sp_allowed CK) := by
  refine F.ok sc_Kinds_allowed (fun vs H Q E h => ?_) (fun cdv A outer s H vs Q E hr h => ?_)
  · obtain ⟨a, at_, t, r, rfl, _⟩ := h
    rfl
  · refine ⟨_, (pss_cons (ps_set (i := 3) sc_Kinds_allowed.nd rfl (Or.inl rfl) (pe_fld (pv 0) rfl))
      (pss_cons (ps_for PassesOwn.never rfl (pi_list (pe_fld (pv 0) rfl)) (pg_tup rfl (pgs_cons (pg_name (i := 4) sc_Kinds_allowed.nd rfl (Or.inl rfl)) (pgs_cons (pg_name (i := 5) sc_Kinds_allowed.nd rfl (Or.inl rfl)) (pgs_cons (pg_name (i := 6) sc_Kinds_allowed.nd rfl (Or.inl rfl)) pgs_nil))))
        (pss_one (ps_if (PW.pt (pw_and (pt_cmpR op_eq (pv 4) (pv 2) (nomark _)) (pw_and1 (pt_cmpR op_eq (pe_op op_and (pv 1) (pv 6)) pe_int (nomark _)))))
          (pss_one (ps_aug (i := 3) sc_Kinds_allowed.nd rfl (Or.inl rfl) (pe_op op_xor (pe_fld (pv 0) rfl) (pv 5)) iop_and))
          pss_nil)))
      (pss_one (ps_ret (pv 3))))), ?_⟩
    obtain ⟨a, at_, t, r, rfl, k1, ht, q⟩ := h
    refine p_seq (p_asg (k1.k0.r_every TK rfl ?_))
    obtain ⟨dx, fs, d, l, ws, h1, h2, h3, h4, h5, h6⟩ := k1.ex
    refine ⟨_, rfl, a, CK, dx, fs, _, rfl, h1, TK.cl, TK.n_links, h4, ?_⟩
    refine ⟨l, rfl, ⟨_, SqL.of h5⟩, for_list (K := K) (a := l) (xs := ws) (fun i σ H' => H' = H ∧ ∃ x y z : Option V, σ = [some (.ref a), some (.int (2 ^ t : Nat)), some (.int (r : Nat)), some (.int (bits (tn at_) (fun u => ((roles at_).take i).all fun x => (rol x != r || (ndp at_ x t || !tgp at_ x u))) : Nat)), x, y, z])
      ⟨rfl, none, none, none, rfl⟩ (fun i σ H' _ ⟨e, _⟩ => e ▸ SqL.of h5) ?_ ?_⟩
    · rintro i v σ H' hi ⟨rfl, x, y, z, rfl⟩
      obtain ⟨c, hc, p, rfl, hp⟩ := pr_get h6 hi
      refine ⟨p, _, rfl, SqT.of hp, rfl, _, _, rfl, _, _, rfl, _, _, rfl, rfl, ?_⟩
      have hn := fun u => all_next (p := fun x => (rol x != r || (ndp at_ x t || !tgp at_ x u))) hc
      refine p_if (p_and ?_)
      refine ⟨_, rfl, _, rfl, rfl, _, rfl, ?_⟩
      by_cases hr : rol c = r
      · refine if_t ?_ ?_
        · subst hr
          exact dec_t rfl
        refine p_op ⟨_, rfl, _, rfl, r_and ⟨rfl, _, rfl, ?_⟩⟩
        by_cases hd : ndp at_ c t = true
        · refine if_f ?_ ?_
          · exact dec_eq0.trans ((one_and ht).trans (by rw [hd]; rfl))
          refine ⟨rfl, some (.int (rol c : Nat)), some (.int (bits (tn at_) (tgp at_ c) : Nat)), some (.int (bits (tn at_) (ndp at_ c) : Nat)), ?_⟩
          simp only [hn, hd, Bool.true_or, Bool.or_true, Bool.and_true]
          rfl
        · have hd : ndp at_ c t = false := by simpa using hd
          refine if_t ?_ ?_
          · exact dec_eq0.trans ((one_and ht).trans (by rw [hd]; rfl))
          refine p_aug (x := .int (bits (tn at_) (fun u => ((roles at_).take i).all fun x => (rol x != r || (ndp at_ x t || !tgp at_ x u))) : Nat)) rfl (p_op (k1.k0.r_every TK rfl ⟨_, rfl, r_xor ?_⟩))
          rw [xor_top]
          refine r_and ?_
          rw [bits_and]
          refine ⟨rfl, some (.int (rol c : Nat)), some (.int (bits (tn at_) (tgp at_ c) : Nat)), some (.int (bits (tn at_) (ndp at_ c) : Nat)), ?_⟩
          have : ∀ u, (((roles at_).take (i + 1)).all fun x => (rol x != r || (ndp at_ x t || !tgp at_ x u))) = ((((roles at_).take i).all fun x => (rol x != r || (ndp at_ x t || !tgp at_ x u))) && !tgp at_ c u) := fun u => by
            rw [hn, hd, hr]
            simp
          simp only [this]
          rfl
      · refine if_f ?_ ?_
        · exact dec_eqN.trans (dec_f hr)
        refine if_f rfl ?_
        refine ⟨rfl, some (.int (rol c : Nat)), some (.int (bits (tn at_) (tgp at_ c) : Nat)), some (.int (bits (tn at_) (ndp at_ c) : Nat)), ?_⟩
        have e : (rol c != r) = true := by simp [hr]
        simp only [hn, e, Bool.true_or, Bool.and_true]
        rfl
    · rintro σ H' ⟨rfl, x, y, z, rfl⟩
      refine ⟨_, rfl, ?_⟩
      rw [pr_len h6, List.take_length]
      have : (fun u => (roles at_).all fun x => (rol x != r || (ndp at_ x t || !tgp at_ x u))) = Oc.fits at_ r t := funext fun u => (fits_roles at_ r t u).symm
      rw [this]
      exact q
/-! ### finds_all -/
abbrev s_Kinds_finds_all : Stmt := inClass (topS 21) 7
theorem sc_Kinds_finds_all : FnScope ["self", "kind_bit", "left", "role", "targets", "needing"] ["self", "kind_bit", "left"] (defScope s_Kinds_finds_all) := ⟨rfl, rfl, rfl, by decide +kernel, rfl, by decide +kernel, by decide +kernel⟩
def sp_finds_all (CK : Addr) : Sp := fun vs H Q _ => ∃ (a : Addr) (at_ : List Oc.C) (t : Nat) (p : Nat → Bool), vs = [.ref a, .int (2 ^ t : Nat), .int (bits (tn at_) p : Nat)] ∧ K1 CK H a at_ ∧ t < tn at_ ∧ Q (.bl (bornP at_ p t)) H
theorem ok_finds_all {f : Addr} {fd : FuncData} (F : Fun K "finds_all" "Kinds.finds_all" s_Kinds_finds_all f fd) (T : Txt K mg aP aH) (TK : KTx K CK)
    (C_Kinds_allowed : Met P w K mg base 1 CK "allowed" (sp_allowed CK)) : FnOk P w K mg base CX0 2 f fd ["self", "kind_bit", "left"] (sp_finds_all CK) := by
  refine F.ok sc_Kinds_finds_all (fun vs H Q E h => ?_) (fun cdv A outer s H vs Q E hr h => ?_)
  · obtain ⟨a, at_, t, r, rfl, _⟩ := h
    rfl
  · refine ⟨_, (pss_cons (ps_for PassesOwn.never rfl (pi_list (pe_fld (pv 0) rfl)) (pg_tup rfl (pgs_cons (pg_name (i := 3) sc_Kinds_finds_all.nd rfl (Or.inl rfl)) (pgs_cons (pg_name (i := 4) sc_Kinds_finds_all.nd rfl (Or.inl rfl)) (pgs_cons (pg_name (i := 5) sc_Kinds_finds_all.nd rfl (Or.inl rfl)) pgs_nil))))
        (pss_one (ps_if (PW.pt (pw_and (pt_cmpR op_ne (pe_op op_and (pv 1) (pv 5)) pe_int (nomark _)) (pw_and1 (pt_cmpR op_eq (pe_op op_and (pe_op op_and (pv 2) (pv 4)) (pe_mt C_Kinds_allowed hr (by decide) (pv 0) (pa_cons (pv 1) (pa_cons (pv 3) pa_nil)))) pe_int (nomark _)))))
          (pss_one (ps_ret pe_bl))
          pss_nil)))
      (pss_one (ps_ret pe_bl))), ?_⟩
    obtain ⟨a, at_, t, p, rfl, k1, ht, q⟩ := h
    obtain ⟨dx, fs, d, l, ws, h1, h2, h3, h4, h5, h6⟩ := k1.ex
    refine ⟨_, rfl, a, CK, dx, fs, _, rfl, h1, TK.cl, TK.n_links, h4, ?_⟩
    refine ⟨l, rfl, ⟨_, SqL.of h5⟩, for_list (K := K) (a := l) (xs := ws) (fun i σ H' => H' = H ∧ (((roles at_).take i).all fun x => (!ndp at_ x t || (List.range (2 ^ at_.length)).any fun u => p u && (tgp at_ x u && Oc.fits at_ (rol x) t u))) = true ∧ ∃ x y z : Option V, σ = [some (.ref a), some (.int (2 ^ t : Nat)), some (.int (bits (tn at_) p : Nat)), x, y, z])
      ⟨rfl, rfl, none, none, none, rfl⟩ (fun i σ H' _ ⟨e, _⟩ => e ▸ SqL.of h5) ?_ ?_⟩
    · rintro i v σ H' hi ⟨rfl, ih, x, y, z, rfl⟩
      obtain ⟨c, hc, b, rfl, hb⟩ := pr_get h6 hi
      refine ⟨b, _, rfl, SqT.of hb, rfl, _, _, rfl, _, _, rfl, _, _, rfl, rfl, ?_⟩
      have hn := all_next (p := fun x => (!ndp at_ x t || (List.range (2 ^ at_.length)).any fun u => p u && (tgp at_ x u && Oc.fits at_ (rol x) t u))) hc
      rw [ih, Bool.true_and] at hn
      refine p_if (p_and ?_)
      refine p_op ⟨_, rfl, _, rfl, r_and ⟨rfl, _, rfl, ?_⟩⟩
      by_cases hd : ndp at_ c t = true
      · refine if_t ?_ ?_
        · exact dec_ne0.trans (by rw [one_and ht, hd]; rfl)
        refine p_op (p_op ⟨_, rfl, _, rfl, r_and ?_⟩)
        refine ⟨_, rfl, a, dx, fs, rfl, h1, h2.m_allowed, _, rfl, _, rfl, a, at_, t, rol c, rfl, k1, ht, r_and ⟨rfl, _, rfl, ?_⟩⟩
        rw [bits_and, bits_and]
        have e : decide (bits (tn at_) (fun u => (p u && tgp at_ c u) && Oc.fits at_ (rol c) t u) = 0) = !((List.range (2 ^ at_.length)).any fun u => p u && (tgp at_ c u && Oc.fits at_ (rol c) t u)) := by
          rw [bits_zero_any]
          simp only [Bool.and_assoc]
        cases hz : (List.range (2 ^ at_.length)).any fun u => p u && (tgp at_ c u && Oc.fits at_ (rol c) t u) with
        | true =>
          rw [hz] at e
          refine if_f (dec_eq0.trans e) ?_
          refine ⟨rfl, ?_, _, _, _, rfl⟩
          rw [hn, hz, Bool.or_true]
        | false =>
          rw [hz] at e
          refine if_t (dec_eq0.trans e) ?_
          have : bornP at_ p t = false := all_no hc (by rw [hd, hz]; rfl)
          rw [this] at q
          exact q
      · have hd : ndp at_ c t = false := by simpa using hd
        refine if_f ?_ ?_
        · exact dec_ne0.trans (by rw [one_and ht, hd]; rfl)
        refine if_f rfl ?_
        refine ⟨rfl, ?_, _, _, _, rfl⟩
        rw [hn, hd]
        rfl
    · rintro σ H' ⟨rfl, ih, x, y, z, rfl⟩
      rw [pr_len h6, List.take_length] at ih
      have : bornP at_ p t = true := ih
      rw [this] at q
      exact q
/-! ### supported_by -/
abbrev s_Kinds_supported_by : Stmt := inClass (topS 21) 6
theorem sc_Kinds_supported_by : FnScope ["self", "left", "kept", "kind"] ["self", "left"] (defScope s_Kinds_supported_by) := ⟨rfl, rfl, rfl, by decide +kernel, rfl, by decide +kernel, by decide +kernel⟩
def sp_supported_by (CK : Addr) : Sp := fun vs H Q _ => ∃ (a : Addr) (at_ : List Oc.C) (p : Nat → Bool), vs = [.ref a, .int (bits (tn at_) p : Nat)] ∧ K1 CK H a at_ ∧ Q (.int (bits (tn at_) (stepP at_ p) : Nat)) H
theorem ok_supported_by {f : Addr} {fd : FuncData} (F : Fun K "supported_by" "Kinds.supported_by" s_Kinds_supported_by f fd) (T : Txt K mg aP aH) (TK : KTx K CK)
    (C_Kinds_finds_all : Met P w K mg base 2 CK "finds_all" (sp_finds_all CK)) : FnOk P w K mg base CX0 3 f fd ["self", "left"] (sp_supported_by CK) := by
  refine F.ok sc_Kinds_supported_by (fun vs H Q E h => ?_) (fun cdv A outer s H vs Q E hr h => ?_)
  · obtain ⟨a, at_, p, rfl, _⟩ := h
    rfl
  · refine ⟨_, (pss_cons (ps_set (i := 2) sc_Kinds_supported_by.nd rfl (Or.inl rfl) pe_int)
      (pss_cons (ps_for PassesOwn.never rfl (pi_range1 rfl T.b_range (pa_cons (pe_fld (pv 0) rfl) pa_nil)) (pg_name (i := 3) sc_Kinds_supported_by.nd rfl (Or.inl rfl))
        (pss_one (ps_if (PW.pt (pw_and (pt_cmpR op_ne (pe_op op_and (pv 1) (pe_op op_shl pe_int (pv 3))) pe_int (nomark _)) (pw_and1 (pt_val (pe_mt C_Kinds_finds_all hr (by decide) (pv 0) (pa_cons (pe_op op_shl pe_int (pv 3)) (pa_cons (pv 1) pa_nil)))))))
          (pss_one (ps_aug (i := 2) sc_Kinds_supported_by.nd rfl (Or.inl rfl) (pe_op op_shl pe_int (pv 3)) iop_or))
          pss_nil)))
      (pss_one (ps_ret (pv 2))))), ?_⟩
    obtain ⟨a, at_, p, rfl, k1, q⟩ := h
    have h16 := k1.ok.tn16
    obtain ⟨dx, fs, d, l, ws, h1, h2, h3, h4, h5, h6⟩ := k1.ex
    refine p_seq (p_asg ?_)
    refine ⟨_, rfl, a, CK, dx, fs, _, rfl, h1, TK.cl, TK.n_amount, h2.amount, ?_⟩
    refine ⟨(tn at_ : Nat), rfl, by omega, by omega, for_range (lo := 0) (n := (((tn at_ : Nat) : Int)).toNat) (fun i σ H' => H' = H ∧ ∃ x : Option V, σ = [some (.ref a), some (.int (bits (tn at_) p : Nat)), some (.int (bits i (stepP at_ p) : Nat)), x]) ⟨rfl, _, rfl⟩ ?_ ?_⟩
    · rintro i σ H' hi ⟨rfl, x, rfl⟩
      rw [Int.toNat_natCast] at hi
      rw [show (0 : Int) + (i : Int) = (i : Int) by omega]
      have hb := bits_next (n := i) (p := stepP at_ p)
      refine p_if (p_and ?_)
      refine p_op ⟨_, rfl, p_op ⟨_, rfl, r_shl1 (by omega) (r_and ⟨rfl, _, rfl, ?_⟩)⟩⟩
      cases hp : p i with
      | true =>
        refine if_t (dec_ne0.trans (by rw [and_one hi, hp]; rfl)) ?_
        refine ⟨_, rfl, a, dx, fs, rfl, h1, h2.m_finds_all, ?_⟩
        refine p_cons (p_op ⟨_, rfl, r_shl1 (by omega) ⟨_, rfl, ?_⟩⟩)
        refine ⟨a, at_, i, p, rfl, k1, hi, _, rfl, ?_⟩
        have hs : stepP at_ p i = bornP at_ p i := by
          show (p i && _) = _
          rw [hp, Bool.true_and]
        cases hz : bornP at_ p i with
        | true =>
          refine if_t rfl ?_
          rw [hs, hz, if_pos rfl] at hb
          refine p_aug rfl (p_op ⟨_, rfl, r_shl1 (by omega) (r_or ?_)⟩)
          rw [← hb]
          exact ⟨rfl, _, rfl⟩
        | false =>
          refine if_f rfl ?_
          rw [hs, hz, if_neg Bool.false_ne_true] at hb
          refine ⟨rfl, some (.int (i : Int)), ?_⟩
          rw [hb]
          rfl
      | false =>
        refine if_f (dec_ne0.trans (by rw [and_one hi, hp]; rfl)) ?_
        refine if_f rfl ?_
        have hs : stepP at_ p i = false := by
          show (p i && _) = _
          rw [hp, Bool.false_and]
        rw [hs, if_neg Bool.false_ne_true] at hb
        refine ⟨rfl, some (.int (i : Int)), ?_⟩
        rw [hb]
        rfl
    · rintro σ H' ⟨rfl, x, rfl⟩
      rw [Int.toNat_natCast]
      exact ⟨_, rfl, q⟩
/-! ### satisfying -/
abbrev s_Kinds_satisfying : Stmt := inClass (topS 21) 4
theorem sc_Kinds_satisfying : FnScope ["self", "pairs", "kept", "first", "second"] ["self", "pairs"] (defScope s_Kinds_satisfying) := ⟨rfl, rfl, rfl, by decide +kernel, rfl, by decide +kernel, by decide +kernel⟩
/-- pairs that may be asked about -/
structure PsOk (at_ : List Oc.C) (l : List (Oc.C × Oc.C)) : Prop where
  i : InL at_ l
  n : ∀ a ∈ l, (enc a.1).length ≤ 10000 ∧ (enc a.2).length ≤ 10000
def sp_satisfying (K : PySem.W.Frag) (CK : Addr) : Sp := fun vs H Q _ => ∃ (a b : Addr) (at_ : List Oc.C) (ws : List V) (l : List (Oc.C × Oc.C)), vs = [.ref a, .ref b] ∧ K0 CK H a at_ ∧ SqL K H b ws ∧ Paired (Pr H) ws l ∧ PsOk at_ l ∧
  ∀ H', Same H H' → Q (.int (bits (tn at_) (Oc.keeps at_ l) : Nat)) H'
theorem ok_satisfying {f : Addr} {fd : FuncData} (F : Fun K "satisfying" "Kinds.satisfying" s_Kinds_satisfying f fd) (T : Txt K mg aP aH) (TK : KTx K CK)
    (C_Kinds_having : Met P w K mg base 5 CK "having" (sp_having CK)) : FnOk P w K mg base CX0 6 f fd ["self", "pairs"] (sp_satisfying K CK) := by
  refine F.ok sc_Kinds_satisfying (fun vs H Q E h => ?_) (fun cdv A outer s H vs Q E hr h => ?_)
  · obtain ⟨a, b, at_, ws, l, rfl, _⟩ := h
    rfl
  · refine ⟨_, (pss_cons (ps_set (i := 2) sc_Kinds_satisfying.nd rfl (Or.inl rfl) (pe_fld (pv 0) rfl))
      (pss_cons (ps_for PassesOwn.never rfl (pi_list (pv 1)) (pg_tup rfl (pgs_cons (pg_name (i := 3) sc_Kinds_satisfying.nd rfl (Or.inl rfl)) (pgs_cons (pg_name (i := 4) sc_Kinds_satisfying.nd rfl (Or.inl rfl)) pgs_nil)))
        (pss_one (ps_aug (i := 2) sc_Kinds_satisfying.nd rfl (Or.inl rfl) (pe_op op_or (pe_op op_xor (pe_fld (pv 0) rfl) (pe_mt C_Kinds_having hr (by decide) (pv 0) (pa_cons (pv 3) pa_nil))) (pe_mt C_Kinds_having hr (by decide) (pv 0) (pa_cons (pv 4) pa_nil))) iop_and)))
      (pss_one (ps_ret (pv 2))))), ?_⟩
    obtain ⟨a, b, at_, ws, l, rfl, k0, hb, hps, ho, q⟩ := h
    refine p_seq (p_asg (k0.r_every TK rfl ?_))
    refine ⟨_, rfl, b, rfl, ⟨_, hb⟩, for_list (K := K) (a := b) (xs := ws) (fun i σ H' => Same H H' ∧ ∃ x y : Option V, σ = [some (.ref a), some (.ref b), some (.int (bits (tn at_) (Oc.keeps at_ (l.take i)) : Nat)), x, y])
      ⟨Same.refl H, none, none, rfl⟩ (fun i σ H' _ ⟨e, _⟩ => same_l e hb) ?_ ?_⟩
    · rintro i v σ H' hi ⟨sm, x, y, rfl⟩
      obtain ⟨c, hc, hpr⟩ := pr_get hps hi
      obtain ⟨p, v1, v2, rfl, hp, c1, c2⟩ := hpr.same sm
      have hm := List.mem_of_getElem? hc
      refine ⟨p, _, rfl, SqT.of hp, rfl, _, _, rfl, _, _, rfl, rfl, ?_⟩
      have k0' := k0.same sm
      obtain ⟨dx, fs, d, h1, h2, h3⟩ := k0'.ex
      refine p_aug rfl (p_op (p_op (k0'.r_every TK rfl ?_)))
      refine ⟨_, rfl, a, dx, fs, rfl, h1, h2.m_having, _, rfl, a, at_, v1, c.1, rfl, k0', c1, (ho.i c hm).1, (ho.n c hm).1, fun H2 sm2 => r_xor ?_⟩
      refine ⟨_, rfl, a, dx, fs, rfl, sm2 _ _ h1, h2.m_having, _, rfl, a, at_, v2, c.2, rfl, k0'.same sm2, c2.same sm2, (ho.i c hm).2, (ho.n c hm).2, fun H3 sm3 => r_or (r_and ?_)⟩
      refine ⟨sm.trans (sm2.trans sm3), some v1, some v2, ?_⟩
      have e : bits (tn at_) (Oc.keeps at_ (l.take i)) &&& (vl at_ .top ^^^ vl at_ c.1 ||| vl at_ c.2) = bits (tn at_) (Oc.keeps at_ (l.take (i + 1))) := by
        rw [show vl at_ c.1 = bits (tn at_) fun t => Oc.holds at_ t c.1 from rfl, show vl at_ c.2 = bits (tn at_) fun t => Oc.holds at_ t c.2 from rfl, xor_top, bits_or, bits_and]
        refine bits_congr fun t _ => ?_
        rw [take_more hc, keeps_snoc]
      rw [e]
      rfl
    · rintro σ H' ⟨sm, x, y, rfl⟩
      rw [pr_len hps, List.take_length]
      exact ⟨_, rfl, q _ sm⟩
/-! ### occurring -/
abbrev s_Kinds_occurring : Stmt := inClass (topS 21) 5
theorem sc_Kinds_occurring : FnScope ["self", "axioms", "left", "supported"] ["self", "axioms"] (defScope s_Kinds_occurring) := ⟨rfl, rfl, rfl, by decide +kernel, rfl, by decide +kernel, by decide +kernel⟩
def sp_occurring (K : PySem.W.Frag) (CK : Addr) : Sp := fun vs H Q _ => ∃ (a b : Addr) (at_ : List Oc.C) (ws : List V) (l : List (Oc.C × Oc.C)), vs = [.ref a, .ref b] ∧ K1 CK H a at_ ∧ SqL K H b ws ∧ Paired (Pr H) ws l ∧ PsOk at_ l ∧
  ∀ H', Same H H' → Q (.int (bits (tn at_) (tm at_ l) : Nat)) H'
theorem ok_occurring {f : Addr} {fd : FuncData} (F : Fun K "occurring" "Kinds.occurring" s_Kinds_occurring f fd) (T : Txt K mg aP aH) (TK : KTx K CK)
    (C_Kinds_satisfying : Met P w K mg base 6 CK "satisfying" (sp_satisfying K CK)) (C_Kinds_supported_by : Met P w K mg base 3 CK "supported_by" (sp_supported_by CK)) : FnOk P w K mg base CX0 7 f fd ["self", "axioms"] (sp_occurring K CK) := by
  refine F.ok sc_Kinds_occurring (fun vs H Q E h => ?_) (fun cdv A outer s H vs Q E hr h => ?_)
  · obtain ⟨a, b, at_, ws, l, rfl, _⟩ := h
    rfl
  · refine ⟨_, (pss_cons (ps_set (i := 2) sc_Kinds_occurring.nd rfl (Or.inl rfl) (pe_mt C_Kinds_satisfying hr (by decide) (pv 0) (pa_cons (pv 1) pa_nil)))
      (pss_cons (ps_set (i := 3) sc_Kinds_occurring.nd rfl (Or.inl rfl) (pe_mt C_Kinds_supported_by hr (by decide) (pv 0) (pa_cons (pv 2) pa_nil)))
      (pss_cons (ps_while PassesOwn.never (pt_cmpR op_ne (pv 3) (pv 2) (nomark _))
        (pss_cons (ps_set (i := 2) sc_Kinds_occurring.nd rfl (Or.inl rfl) (pv 3))
        (pss_one (ps_set (i := 3) sc_Kinds_occurring.nd rfl (Or.inl rfl) (pe_mt C_Kinds_supported_by hr (by decide) (pv 0) (pa_cons (pv 2) pa_nil))))))
      (pss_one (ps_ret (pv 2)))))), ?_⟩
    obtain ⟨a, b, at_, ws, l, rfl, k1, hb, hps, ho, q⟩ := h
    obtain ⟨dx, fs, d, h1, h2, h3⟩ := k1.k0.ex
    refine ⟨_, rfl, a, dx, fs, rfl, h1, h2.m_satisfying, _, rfl, a, b, at_, ws, l, rfl, k1.k0, hb, hps, ho, fun H2 sm => ?_⟩
    refine ⟨_, rfl, a, dx, fs, rfl, sm _ _ h1, h2.m_supported_by, _, rfl, a, at_, _, rfl, k1.same sm, ?_⟩
    refine ⟨fun m σ H' => H' = H2 ∧ ∃ p, Towards at_ l p ∧ m = (lst at_ p).length ∧ σ = [some (.ref a), some (.ref b), some (.int (bits (tn at_) p : Nat)), some (.int (bits (tn at_) (stepP at_ p) : Nat))], ⟨_, rfl, _, towards_start at_ l, rfl, rfl⟩, ?_⟩
    rintro m σ H' ⟨rfl, p, tw, rfl, rfl⟩
    refine ⟨_, rfl, _, rfl, rfl, _, rfl, ?_⟩
    by_cases c : bits (tn at_) (stepP at_ p) = bits (tn at_) p
    · refine if_f ?_ ?_
      · rw [dec_eqN, dec_t c]
        rfl
      refine ⟨_, rfl, ?_⟩
      rw [tw.stop c]
      exact q _ sm
    · refine if_t ?_ ?_
      · rw [dec_eqN, dec_f c]
        rfl
      refine ⟨fun σ' H'' => ∃ m', m' < (lst at_ p).length ∧ (H'' = H' ∧ ∃ p, Towards at_ l p ∧ m' = (lst at_ p).length ∧ σ' = [some (.ref a), some (.ref b), some (.int (bits (tn at_) p : Nat)), some (.int (bits (tn at_) (stepP at_ p) : Nat))]), fun _ _ z => z, ?_⟩
      refine ⟨_, rfl, ?_⟩
      refine ⟨_, rfl, a, dx, fs, rfl, sm _ _ h1, h2.m_supported_by, _, rfl, a, at_, stepP at_ p, rfl, k1.same sm, ?_⟩
      exact ⟨_, step_other c, rfl, stepP at_ p, tw.go c, rfl, rfl⟩
end
end Py

namespace Py
open PySem PySem.Spec PyProof.Rows L2 Ex
/-- a loop over enumerate(a list) -/
theorem for_enum {K : PySem.W.Frag} {a : Addr} {xs : List V} {g : TG} {tb : TS} {D : Ends} {σ : L2.St} {H : Hp} (Pv : Nat → L2.St → Hp → Prop) (h0 : Pv 0 σ H) (hl : ∀ i σ H, i ≤ xs.length → Pv i σ H → SqL K H a xs)
    (hs : ∀ i x T σ H, xs[i]? = some x → Pv i σ H → H T = none → g (.ref T) σ (upd H T (.tup [.int (i : Nat), x])) fun σ2 H2 => tb { D with nx := Pv (i + 1), ct := Pv (i + 1), bk := D.nx } σ2 H2) (hd : ∀ σ H, Pv xs.length σ H → D.nx σ H) :
    ∃ W : Nat → Nat → L2.St → Hp → Prop, (∃ m, W 0 m σ H) ∧ ∀ i m σ H, W i m σ H →
      ((Ite K a).stop i H ∧ D.nx σ H) ∨ ((Ite K a).go i H ∧ ∃ N : L2.St → Hp → Prop, (∀ σ' H', N σ' H' → ∃ m', m' < m ∧ W (i + 1) m' σ' H') ∧ ∀ x H', (Ite K a).yld i H x H' → g x σ H' fun σ2 H2 => tb { D with nx := N, ct := N, bk := D.nx } σ2 H2) := by
  refine ⟨fun i m σ H => m = xs.length - i ∧ i ≤ xs.length ∧ Pv i σ H, ⟨xs.length, by simp, Nat.zero_le _, h0⟩, ?_⟩
  rintro i m σ H ⟨rfl, hi, p⟩
  have q := hl i σ H hi p
  by_cases hlt : i < xs.length
  · refine .inr ⟨⟨xs, xs[i], q, by simp [hlt]⟩, Pv (i + 1), fun σ' H' p' => ⟨xs.length - (i + 1), by omega, rfl, hlt, p'⟩, fun x H' y => ?_⟩
    obtain ⟨T, v, rfl, nT, rfl, hv⟩ := y
    exact hs i v T σ _ (hv xs q) p nT
  · have e : i = xs.length := by omega
    subst e
    exact .inl ⟨⟨xs, q, Nat.le_refl _⟩, hd σ H p⟩
theorem idx_at : ∀ {l : List Oc.C} {k : Nat} {x : Oc.C}, l.Nodup → l[k]? = some x → l.idxOf? x = some k
  | [], k, x, _, h => by simp at h
  | y :: r, 0, x, nd, h => by
    have e : y = x := by simpa using h
    subst e
    simp [List.idxOf?_cons]
  | y :: r, k + 1, x, nd, h => by
    have h : r[k]? = some x := by simpa using h
    obtain ⟨n1, n2⟩ := List.nodup_cons.mp nd
    have ne : ¬ (y == x) = true := by
      intro z
      have z : y = x := by simpa using z
      subst z
      exact n1 (List.mem_of_getElem? h)
    rw [List.idxOf?_cons, if_neg ne, idx_at n2 h]
    rfl
theorem vl_col {at_ : List Oc.C} (ok : AtOk at_) {k : Nat} {x : Oc.C} (h : at_[k]? = some x) : (bits (tn at_) fun t => Oc.bit t k) = vl at_ x := by
  refine bits_congr fun t _ => ?_
  show _ = Oc.holds at_ t x
  rw [holds_atom (ok.a x (List.mem_of_getElem? h))]
  unfold has
  rw [idx_at ok.g.nd h]
theorem putK_new {m : List Oc.C} {c : Oc.C} {N : Oc.C → Nat} (wm : ∀ x ∈ m, wf x) (wc : wf c) (h : c ∉ m) : putK (m.map fun c => (ky c, V.int (N c : Nat))) (ky c) (.int (N c : Nat)) = (m ++ [c]).map fun c => (ky c, V.int (N c : Nat)) := by
  have e : ((m.map fun c => (ky c, V.int (N c : Nat))).any fun kv => decide (kv.1 = ky c)) = false := by
    rw [Bool.eq_false_iff]
    intro z
    obtain ⟨kv, hkv, z⟩ := List.any_eq_true.mp z
    obtain ⟨x, hx, rfl⟩ := List.mem_map.mp hkv
    have := ky_inj (wm x hx) wc (of_decide_eq_true z)
    rw [this] at hx
    exact h hx
  unfold putK
  rw [e, if_neg Bool.false_ne_true, List.map_append]
  rfl
theorem SameBut.trans {l : Addr} {H H' H'' : Hp} (h : SameBut l H H') (k : SameBut l H' H'') : SameBut l H H'' := fun b o e n => k _ _ (h _ _ e n) n
theorem SameBut.of {l : Addr} {H H' : Hp} (h : Same H H') : SameBut l H H' := fun b o e _ => h _ _ e
theorem SameBut.upd {l : Addr} {H H' : Hp} {o : HO} (h : SameBut l H H') : SameBut l H (upd H' l o) := fun b o e n => by
  rw [upd_ne n]
  exact h _ _ e n
theorem SameBut.new {l p : Addr} {H H' : Hp} {o : HO} (h : SameBut l H H') (np : H p = none) : SameBut l H (L2.upd H' p o) := fun b o' e n => by
  rw [upd_ne (ne_of_none e np)]
  exact h _ _ e n
theorem Ct.but {l : Addr} {H H' : Hp} {v : V} {c : Oc.C} {o : HO} (e : SameBut l H H') (hl : H l = some o) (ho : ∀ xs, o ≠ .tup xs) (h : Ct H v c) : Ct H' v c := by
  obtain ⟨w, a, rfl, h⟩ := h
  refine ⟨w, a, rfl, e _ _ h fun z => ?_⟩
  rw [z, hl] at h
  exact ho _ (Option.some.inj h)
theorem Lk.but {at_ : List Oc.C} {l : Addr} {H H' : Hp} {v : V} {x : Oc.C} {o : HO} (e : SameBut l H H') (hl : H l = some o) (ho : ∀ xs, o ≠ .tup xs) (h : Lk at_ H v x) : Lk at_ H' v x := by
  obtain ⟨a, rfl, h⟩ := h
  refine ⟨a, rfl, e _ _ h fun z => ?_⟩
  rw [z, hl] at h
  exact ho _ (Option.some.inj h)
theorem take_notin {l : List Oc.C} (nd : l.Nodup) {i : Nat} {c : Oc.C} (h : l[i]? = some c) : c ∉ l.take i := by
  intro z
  obtain ⟨j, e⟩ := List.mem_iff_getElem?.mp z
  rw [List.getElem?_take] at e
  split at e
  · have hj := (List.getElem?_eq_some_iff.mp e).1
    have := (List.getElem?_inj (i := j) (j := i) hj nd).mp (e.trans h.symm)
    omega
  · cases e
section
variable {P : Program} {w : World} {K : PySem.W.Frag} {mg : Str → Option Value} {base : Heap} {aP aH CK : Addr}
/-! ### Kinds -/
abbrev s_Kinds___init__ : Stmt := inClass (topS 21) 0
theorem sc_Kinds___init__ : FnScope ["self", "atoms", "place", "atom"] ["self", "atoms"] (defScope s_Kinds___init__) := ⟨rfl, rfl, rfl, by decide +kernel, rfl, by decide +kernel, by decide +kernel⟩
def sp_Kinds (CK : Addr) : Sp := fun vs H Q _ => ∃ (a l dx : Addr) (at_ : List Oc.C) (us : List V), vs = [.ref a, .ref l] ∧ H a = some (.ins CK dx []) ∧ H l = some (.lst us) ∧ Paired (Ct H) us at_ ∧ AtOk at_ ∧
  ∀ H', SameBut a H H' → K1 CK H' a at_ → Q .non H'
abbrev fs3 (at_ : List Oc.C) (d : Addr) : List (Str × V) := [("amount", .int (tn at_ : Nat)), ("every", .int (vl at_ .top : Nat)), ("columns", .ref d)]
abbrev fs4 (at_ : List Oc.C) (d D : Addr) : List (Str × V) := [("amount", .int (tn at_ : Nat)), ("every", .int (vl at_ .top : Nat)), ("columns", .ref d), ("links", .ref D)]
theorem kf3 (at_ : List Oc.C) (d : Addr) : KF at_ (fs3 at_ d) d := ⟨rfl, rfl, rfl, rfl, rfl, rfl, rfl, rfl, rfl, rfl, rfl⟩
theorem kf4 (at_ : List Oc.C) (d D : Addr) : KF at_ (fs4 at_ d D) d := ⟨rfl, rfl, rfl, rfl, rfl, rfl, rfl, rfl, rfl, rfl, rfl⟩
theorem top_num (at_ : List Oc.C) : ((2 ^ tn at_ : Nat) : Int) - 1 = ((vl at_ .top : Nat) : Int) := by
  have e : vl at_ .top = 2 ^ tn at_ - 1 := bits_all
  rw [e]
  have : 0 < 2 ^ tn at_ := Nat.two_pow_pos _
  omega
theorem p_con {v : V} {σ : L2.St} {H : Hp} {Q : VK} (h : Q v H) : tC v σ H Q := h
theorem r_sub {a b c : Int} {H : Hp} {Q : VK} (e : a - b = c) (q : Q (.int c) H) : rI0 (fun i j => .int (i - j)) (.int a) (.int b) H Q := ⟨a, b, rfl, rfl, by subst e; exact q⟩
theorem role_in {c : Oc.C} : inV (V.int (form c : Nat)) [V.int 6, V.int 7] = isRole c := by cases c <;> rfl
theorem filt_yes {l : List Oc.C} {i : Nat} {c : Oc.C} (h : l[i]? = some c) (r : isRole c = true) : (l.take (i + 1)).filter isRole = (l.take i).filter isRole ++ [c] := by
  rw [take_more h, List.filter_append, List.filter_cons, if_pos r]
  rfl
theorem filt_no {l : List Oc.C} {i : Nat} {c : Oc.C} (h : l[i]? = some c) (r : isRole c = false) : (l.take (i + 1)).filter isRole = (l.take i).filter isRole := by
  rw [take_more h, List.filter_append, List.filter_cons, if_neg (by rw [r]; decide)]
  simp
def colsP (at_ m : List Oc.C) : List (List Key × V) := m.map fun c => (ky c, V.int (vl at_ c : Nat))
theorem ok_Kinds {f : Addr} {fd : FuncData} (F : Fun K "__init__" "Kinds.__init__" s_Kinds___init__ f fd) (T : Txt K mg aP aH) (TK : KTx K CK)
    (C_kinds_with_atom : Cal P w K mg base 1 "kinds_with_atom" sp_kinds_with_atom) (C_Kinds_link : Met P w K mg base 6 CK "link" (sp_link CK)) : FnOk P w K mg base CX0 7 f fd ["self", "atoms"] (sp_Kinds CK) := by
  refine F.ok sc_Kinds___init__ (fun vs H Q E h => ?_) (fun cdv A outer s H vs Q E hr h => ?_)
  · obtain ⟨a, l, dx, at_, us, rfl, _⟩ := h
    rfl
  · refine ⟨_, (pss_cons (ps_fld (pv 0) (pe_op op_shl pe_int (pe_callB call_len_seq (by rfl) T.b_len PySem.boot_len (pa_cons (pv 1) pa_nil))) rfl)
      (pss_cons (ps_fld (pv 0) (pe_op op_sub (pe_op op_shl pe_int (pe_fld (pv 0) rfl)) pe_int) rfl)
      (pss_cons (ps_fld (pv 0) pe_dnewT rfl)
      (pss_cons (ps_for PassesOwn.never rfl (pi_enum (by rfl) T.b_enumerate (pa_cons (pv 1) pa_nil)) (pg_tup rfl (pgs_cons (pg_name (i := 2) sc_Kinds___init__.nd rfl (Or.inl rfl)) (pgs_cons (pg_name (i := 3) sc_Kinds___init__.nd rfl (Or.inl rfl)) pgs_nil)))
        (pss_one (ps_dput (hu_of hr) (pe_fld (pv 0) rfl) (pv 3) (pe_c C_kinds_with_atom hr (by decide) rfl (pa_cons (pe_fld (pv 0) rfl) (pa_cons (pv 2) pa_nil))) rfl)))
      (pss_one (ps_fld (pv 0) (pe_lc (own := [("atom", 3)]) (g := gName 3)  rfl sc_Kinds___init__.nd (pi_list (pv 1)) (blkOk_by (N := ["self", "atoms", "place", "atom"]) (sc := defScope s_Kinds___init__) (by decide +kernel)) (fun _ _ _ _ _ => pg_name (i := 3) sc_Kinds___init__.nd rfl (Or.inl rfl)) (fun _ _ _ _ _ => pts_one (pt_cmpR (op_in_seqK (K := K) rfl) (pe_ix (ix_seqK (K := K) rfl) (pv 3) pe_int (fun _ _ => rfl)) (pe_tup (pa_cons (pe_gc rfl T.c_TO_SOME) (pa_cons (pe_gc rfl T.c_TO_ALL) pa_nil))) (by rfl))) (fun _ _ _ _ _ => (pe_mt C_Kinds_link hr (by decide) (pv 0) (pa_cons (pv 3) pa_nil)))) rfl)))))), ?_⟩
    obtain ⟨a, l, dx, at_, us, rfl, ha, hl, hus, ok, q⟩ := h
    have h16 := ok.tn16
    have el := pr_len hus
    have nal : l ≠ a := by
      intro z
      rw [z, ha] at hl
      cases hl
    -- amount
    refine p_seq (p_fld (p_op ⟨_, rfl, l, us, rfl, .inl (SqL.of hl), ?_⟩))
    rw [el]
    refine r_shl1 (by have := ok.n; omega) ?_
    refine ⟨_, rfl, a, CK, dx, [], rfl, ha, TK.cl, TK.n_amount, by decide, ?_⟩
    -- every
    refine ⟨_, rfl, a, CK, dx, [("amount", .int (tn at_ : Nat))], _, rfl, upd_same, TK.cl, TK.n_amount, rfl, r_shl1 (k := tn at_) (by omega) (p_con (r_sub (top_num at_) ?_))⟩
    refine ⟨_, rfl, a, CK, dx, _, rfl, upd_same, TK.cl, TK.n_every, by show 1 < 1000; decide, ?_⟩
    -- columns
    refine fun d nd => ?_
    have nda : d ≠ a := by
      intro z
      rw [z, upd_same] at nd
      cases nd
    rw [upd_ne nda, upd_ne nda] at nd
    refine ⟨_, rfl, a, CK, dx, [("amount", .int (tn at_ : Nat)), ("every", .int (vl at_ .top : Nat))], rfl, ?_, TK.cl, TK.n_columns, by show 2 < 1000; decide, ?_⟩
    · rw [upd_ne nda.symm]
      exact upd_same
    generalize hH1 : L2.upd (L2.upd (L2.upd (L2.upd H a _) a _) d _) a _ = H1
    have g1 : H1 a = some (.ins CK dx (fs3 at_ d)) := by
      rw [← hH1]
      exact upd_same
    have g2 : H1 d = some (.dT []) := by
      rw [← hH1, upd_ne nda]
      exact upd_same
    have g3 : SameBut a H H1 := by
      rw [← hH1]
      exact SameBut.upd (SameBut.new (SameBut.upd (SameBut.upd fun b o e _ => e)) nd)
    clear hH1
    have hlin : ∀ {H' : Hp}, SameBut a H H' → H' l = some (.lst us) := fun e => e _ _ hl nal
    refine ⟨_, rfl, l, us, rfl, SqL.of (hlin g3), for_enum (K := K) (a := l) (xs := us) (fun i σ H' => SameBut a H H' ∧ H' a = some (.ins CK dx (fs3 at_ d)) ∧ H' d = some (.dT (colsP at_ (at_.take i))) ∧ ∃ x y : Option V, σ = [some (.ref a), some (.ref l), x, y])
      ⟨g3, g1, g2, none, none, rfl⟩ (fun i σ H' _ ⟨e, _⟩ => SqL.of (hlin e)) ?_ ?_⟩
    · rintro i v T σ H' hi ⟨sb, ia, idd, x, y, rfl⟩ nT
      obtain ⟨c, hc, ct⟩ := pr_get hus hi
      have hil : i < at_.length := (List.getElem?_eq_some_iff.mp hc).1
      obtain ⟨wc, b, rfl, hb⟩ := ct.but sb ha (by intro _ z; cases z)
      have smT := same_new (o := .tup [.int (i : Nat), .ref b]) nT
      refine ⟨T, _, rfl, SqT.of upd_same, rfl, _, _, rfl, _, _, rfl, rfl, ?_⟩
      refine ⟨_, rfl, a, CK, dx, fs3 at_ d, _, rfl, smT _ _ ia, TK.cl, TK.n_amount, rfl, _, rfl, tn at_, i, rfl, by omega, ?_⟩
      rw [← ky_kV] at hb
      have hlen : (colsP at_ (at_.take i)).length < sizeLine := by
        have := ok.n
        unfold colsP
        rw [List.length_map, List.length_take]
        exact sz10 (by omega)
      refine ⟨_, rfl, a, CK, dx, fs3 at_ d, _, rfl, smT _ _ ia, TK.cl, TK.n_columns, rfl, _, rfl, d, _, rfl, DPut.t (smT _ _ idd) (smT _ _ hb) hlen, ?_⟩
      refine ⟨(sb.trans (SameBut.of smT)).new nd, ?_, ?_, _, _, rfl⟩
      · rw [upd_ne nda.symm]
        exact smT _ _ ia
      · rw [upd_same, vl_col ok hc, take_more hc]
        have := putK_new (N := vl at_) (m := at_.take i) (fun x hx => ok.w x (List.mem_of_mem_take hx)) wc (take_notin ok.g.nd hc)
        exact congrArg (fun z => some (HO.dT z)) this
    · rintro σ H1 ⟨sb, ia, idd, x, y, rfl⟩
      rw [el, List.take_length] at idd
      refine ⟨_, rfl, l, rfl, ⟨_, SqL.of (hlin sb)⟩, fun D nD => lc_list (K := K) (a := l) (xs := us) (fun i H' => SameBut a H H' ∧ H' a = some (.ins CK dx (fs3 at_ d)) ∧ H' d = some (.dT (cols at_)) ∧ ∃ ws, H' D = some (.lst ws) ∧ Paired (Lk at_ H') ws ((at_.take i).filter isRole))
        ⟨?_, ?_, ?_, [], upd_same, .nil⟩ (fun i H' _ ⟨e, _⟩ => SqL.of (hlin e)) ?_ ?_⟩
      · exact sb.trans (SameBut.of (same_new nD))
      · exact same_new nD _ _ ia
      · exact same_new nD _ _ idd
      · rintro i v H2 hi ⟨sb2, ia2, id2, ws, hD, hw⟩
        obtain ⟨c, hc, ct⟩ := pr_get hus hi
        have hm := List.mem_of_getElem? hc
        obtain ⟨wc, b, rfl, hb⟩ := ct.but sb2 ha (by intro _ z; cases z)
        obtain ⟨r, er⟩ := enc_head c
        have hf : (enc c)[0]? = some (form c) := by rw [er]; rfl
        refine ⟨rfl, ?_⟩
        refine ⟨_, rfl, ixT_of (SqT.of hb) (atI_nz (i := 0) hf) ?_⟩
        refine ⟨by show 2 ≤ sizeLine; decide, fun t nt => ⟨t, _, rfl, Or.inr (SqT.of upd_same), rfl, rfl, _, rfl, ?_⟩⟩
        have smt := same_new (o := .tup [.int 6, .int 7]) nt
        have form_in' : (if false = true then !inV (V.int ((form c : Nat) : Int)) [V.int 6, V.int 7] else inV (V.int ((form c : Nat) : Int)) [V.int 6, V.int 7]) = isRole c := role_in
        cases hrole : isRole c with
        | true =>
          refine if_t (form_in'.trans hrole) ?_
          refine ⟨_, rfl, a, dx, fs3 at_ d, rfl, smt _ _ ia2, (kf3 at_ d).m_link, _, rfl, a, at_, .ref b, c, rfl, ⟨ok, dx, fs3 at_ d, d, smt _ _ ia2, kf3 at_ d, smt _ _ id2⟩, ⟨wc, b, rfl, smt _ _ hb⟩, hm, hrole, fun v' H3 sm3 lk => ?_⟩
          have sm4 := smt.trans sm3
          have nDa : D ≠ a := ne_of_none ia nD |>.symm
          have nDd : D ≠ d := ne_of_none idd nD |>.symm
          have hD3 := sm4 _ _ hD
          have sbD : SameBut D H3 (L2.upd H3 D (.lst (ws ++ [v']))) := SameBut.upd fun b o e _ => e
          have hlw : ws.length < sizeLine := by
            have h1 := pr_len hw
            have h2 := List.length_filter_le isRole (at_.take i)
            rw [List.length_take] at h2
            have := ok.n
            exact sz10 (by omega)
          refine ⟨ws, hD3, hlw, ?_, sbD _ _ (sm4 _ _ ia2) nDa.symm, sbD _ _ (sm4 _ _ id2) nDd.symm, _, upd_same, ?_⟩
          · intro b' o' e' n'
            have hb1 := sb _ _ e' n'
            exact sbD _ _ (sm4 _ _ (sb2 _ _ e' n')) (ne_of_none hb1 nD)
          · rw [filt_yes hc hrole]
            exact Paired.snoc (pr_mono hw fun _ _ h => (h.same sm4).but sbD hD3 (by intro _ z; cases z)) (lk.but sbD hD3 (by intro _ z; cases z))
        | false =>
          refine if_f (form_in'.trans hrole) ?_
          refine ⟨sb2.trans (SameBut.of smt), smt _ _ ia2, smt _ _ id2, ws, smt _ _ hD, ?_⟩
          rw [filt_no hc hrole]
          exact pr_mono hw fun _ _ => Lk.same smt
      · rintro H2 ⟨sb2, ia2, id2, ws, hD, hw⟩
        rw [el, List.take_length] at hw
        have nDa : D ≠ a := ne_of_none ia nD |>.symm
        refine ⟨_, rfl, a, CK, dx, fs3 at_ d, rfl, ia2, TK.cl, TK.n_links, by show 3 < 1000; decide, ?_⟩
        have sbA : SameBut a H2 (L2.upd H2 a (.ins CK dx (fs4 at_ d D))) := SameBut.upd fun b o e _ => e
        exact q _ (sb2.trans sbA) ⟨ok, dx, fs4 at_ d D, d, D, ws, upd_same, kf4 at_ d D, sbA _ _ id2 nda, rfl, sbA _ _ hD nDa, pr_mono hw fun _ _ h => h.but sbA ia2 (by intro _ z; cases z)⟩
end
end Py

namespace Py
open PySem PySem.Spec PyProof.Rows L2 Ex
/-! ## pairs as data -/
def cd (c : Oc.C) : PyData := .tuple ((enc c).map fun (n : Nat) => .int (n : Int))
def pd (p : Oc.C × Oc.C) : PyData := .tuple [cd p.1, cd p.2]
theorem ints_lay : ∀ l : List Nat, PyData.canLayAll0 (l.map fun (n : Nat) => PyData.int (n : Int)) = true
  | [] => rfl
  | x :: r => by
    simp only [List.map_cons, PyData.canLayAll0, PyData.canLay0, ints_lay r]
    rfl
theorem ints_depth : ∀ l : List Nat, PyData.depthAll (l.map fun (n : Nat) => PyData.int (n : Int)) = 0
  | [] => rfl
  | x :: r => by
    simp only [List.map_cons, PyData.depthAll, PyData.depth, ints_depth r]
    rfl
theorem cd_lay (c : Oc.C) : (cd c).canLay0 = true := by
  unfold cd
  simp only [PyData.canLay0]
  exact ints_lay _
theorem cd_depth (c : Oc.C) : (cd c).depth = 1 := by
  unfold cd
  simp only [PyData.depth, ints_depth]
theorem pd_lay (p : Oc.C × Oc.C) : (pd p).canLay0 = true := by
  unfold pd
  simp only [PyData.canLay0, PyData.canLayAll0, cd_lay]
  rfl
theorem pd_depth (p : Oc.C × Oc.C) : (pd p).depth = 2 := by
  unfold pd
  simp only [PyData.depth, PyData.depthAll, cd_depth]
  rfl
theorem pd_shaped (p : Oc.C × Oc.C) : SeqAt.shaped (pd p) = true := by
  unfold SeqAt.shaped
  rw [pd_lay, pd_depth]
  rfl
theorem pds_lay : ∀ l : List (Oc.C × Oc.C), PyData.canLayAll0 (l.map pd) = true
  | [] => rfl
  | x :: r => by
    simp only [List.map_cons, PyData.canLayAll0, pd_lay, pds_lay r]
    rfl
theorem pds_depth : ∀ l : List (Oc.C × Oc.C), PyData.depthAll (l.map pd) ≤ 2
  | [] => by decide
  | x :: r => by
    have := pds_depth r
    simp only [List.map_cons, PyData.depthAll, pd_depth]
    omega
theorem pds_shaped (l : List (Oc.C × Oc.C)) : SeqAt.shaped (.list (l.map pd)) = true := by
  unfold SeqAt.shaped
  have := pds_depth l
  rw [Bool.and_eq_true]
  exact ⟨pds_lay l, decide_eq_true (by simp only [PyData.depth]; omega)⟩
theorem ints_eqv : ∀ l m : List Nat, PyData.eqvAll (l.map fun (n : Nat) => PyData.int (n : Int)) (m.map fun (n : Nat) => PyData.int (n : Int)) = decide (l = m)
  | [], [] => rfl
  | [], y :: r => by simp [PyData.eqvAll]
  | x :: r, [] => by simp [PyData.eqvAll]
  | x :: r, y :: s => by
    have ih := ints_eqv r s
    simp only [List.map_cons, PyData.eqvAll, PyData.eqv, ih]
    rw [Bool.eq_iff_iff]
    have e : ((x : Int) = (y : Int)) ↔ x = y := by omega
    simp only [Bool.and_eq_true, decide_eq_true_eq, beq_iff_eq, List.cons.injEq, e]
theorem cd_eqv {c d : Oc.C} (wc : wf c) (wd : wf d) : PyData.eqv (cd c) (cd d) = decide (c = d) := by
  unfold cd
  simp only [PyData.eqv, ints_eqv]
  rw [Bool.eq_iff_iff]
  simp only [decide_eq_true_eq]
  exact ⟨enc_inj wc wd, fun e => by rw [e]⟩
def wf2 (p : Oc.C × Oc.C) : Prop := wf p.1 ∧ wf p.2
theorem pd_eqv {p q : Oc.C × Oc.C} (wp : wf2 p) (wq : wf2 q) : PyData.eqv (pd p) (pd q) = decide (p = q) := by
  unfold pd
  simp only [PyData.eqv, PyData.eqvAll, cd_eqv wp.1 wq.1, cd_eqv wp.2 wq.2, Bool.and_true]
  rw [Bool.eq_iff_iff]
  simp only [Bool.and_eq_true, decide_eq_true_eq]
  exact ⟨fun h => Prod.ext h.1 h.2, fun e => by rw [e]; exact ⟨rfl, rfl⟩⟩
theorem pd_any {l : List (Oc.C × Oc.C)} {p : Oc.C × Oc.C} (wl : ∀ q ∈ l, wf2 q) (wp : wf2 p) : ((l.map pd).any fun z => PyData.eqv z (pd p)) = l.contains p := by
  rw [Bool.eq_iff_iff, List.any_eq_true, List.contains_iff_mem]
  constructor
  · rintro ⟨z, hz, e⟩
    obtain ⟨q, hq, rfl⟩ := List.mem_map.mp hz
    rw [pd_eqv (wl q hq) wp, decide_eq_true_eq] at e
    rw [← e]
    exact hq
  · intro h
    exact ⟨_, List.mem_map.mpr ⟨p, h, rfl⟩, by rw [pd_eqv wp wp]; exact decide_eq_true rfl⟩
theorem Pr.wf2 {H : Hp} {v : V} {p : Oc.C × Oc.C} (h : Pr H v p) : wf2 p := by
  obtain ⟨a, v1, v2, _, _, h1, h2⟩ := h
  exact ⟨h1.1, h2.1⟩
theorem prs_wf2 {H : Hp} : ∀ {ws : List V} {l : List (Oc.C × Oc.C)}, Paired (Pr H) ws l → ∀ p ∈ l, wf2 p
  | _, _, .nil, p, h => by cases h
  | _, _, .cons h1 h2, p, h => by
    rcases List.mem_cons.mp h with rfl | h
    · exact h1.wf2
    · exact prs_wf2 h2 p h
section
variable {K : PySem.W.Frag} {H : Hp}
theorem ints_Dp : ∀ l : List Nat, DpAll K H (nz l) (l.map fun (n : Nat) => PyData.int (n : Int))
  | [] => .nil
  | x :: r => .cons (.int _) (ints_Dp r)
theorem Ct.Dp {v : V} {c : Oc.C} (h : Ct H v c) : L2.Dp K H v (cd c) := by
  obtain ⟨_, a, rfl, h⟩ := h
  exact .tup (SqT.of h) (ints_Dp _)
theorem Pr.Dp {v : V} {p : Oc.C × Oc.C} (h : Pr H v p) : L2.Dp K H v (pd p) := by
  obtain ⟨a, v1, v2, rfl, h, h1, h2⟩ := h
  exact .tup (SqT.of h) (.cons h1.Dp (.cons h2.Dp .nil))
theorem prs_Dp : ∀ {ws : List V} {l : List (Oc.C × Oc.C)}, Paired (Pr H) ws l → DpAll K H ws (l.map pd)
  | _, _, .nil => .nil
  | _, _, .cons h1 h2 => .cons h1.Dp (prs_Dp h2)
end
/-! ## ranks -/
/-- a list of rules -/
def Lv (H : Hp) (v : V) (m : List (Oc.C × Oc.C)) : Prop := ∃ b ws, v = .ref b ∧ H b = some (.lst ws) ∧ Paired (Pr H) ws m
theorem Lv.same {H H' : Hp} {v : V} {m : List (Oc.C × Oc.C)} (e : Same H H') (h : Lv H v m) : Lv H' v m := by
  obtain ⟨b, ws, rfl, h1, h2⟩ := h
  exact ⟨b, ws, rfl, e _ _ h1, pr_mono h2 fun _ _ => Pr.same e⟩
theorem Pr.but {l : Addr} {H H' : Hp} {v : V} {c : Oc.C × Oc.C} {o : HO} (e : SameBut l H H') (hl : H l = some o) (ho : ∀ xs, o ≠ .tup xs) (h : Pr H v c) : Pr H' v c := by
  obtain ⟨a, v1, v2, rfl, h, h1, h2⟩ := h
  refine ⟨a, v1, v2, rfl, e _ _ h fun z => ?_, h1.but e hl ho, h2.but e hl ho⟩
  rw [z, hl] at h
  exact ho _ (Option.some.inj h)
/-- .. that is another object than p -/
def LvB (p : Addr) (H : Hp) (v : V) (m : List (Oc.C × Oc.C)) : Prop := ∃ b ws, v = .ref b ∧ b ≠ p ∧ H b = some (.lst ws) ∧ Paired (Pr H) ws m
theorem LvB.lv {p : Addr} {H : Hp} {v : V} {m : List (Oc.C × Oc.C)} (h : LvB p H v m) : Lv H v m := by
  obtain ⟨b, ws, rfl, _, h1, h2⟩ := h
  exact ⟨b, ws, rfl, h1, h2⟩
theorem LvB.same {p : Addr} {H H' : Hp} {v : V} {m : List (Oc.C × Oc.C)} (e : Same H H') (h : LvB p H v m) : LvB p H' v m := by
  obtain ⟨b, ws, rfl, n, h1, h2⟩ := h
  exact ⟨b, ws, rfl, n, e _ _ h1, pr_mono h2 fun _ _ => Pr.same e⟩
theorem LvB.but {p : Addr} {H H' : Hp} {v : V} {m : List (Oc.C × Oc.C)} {o : HO} (e : SameBut p H H') (hl : H p = some o) (ho : ∀ xs, o ≠ .tup xs) (h : LvB p H v m) : LvB p H' v m := by
  obtain ⟨b, ws, rfl, n, h1, h2⟩ := h
  exact ⟨b, ws, rfl, n, e _ _ h1 n, pr_mono h2 fun _ _ => Pr.but e hl ho⟩
theorem PsOk.sub {at_ : List Oc.C} {l m : List (Oc.C × Oc.C)} (h : PsOk at_ l) (s : ∀ x ∈ m, x ∈ l) : PsOk at_ m := ⟨fun a ha => h.i a (s a ha), fun a ha => h.n a (s a ha)⟩
theorem fil_yes {α : Type} {p : α → Bool} {l : List α} {i : Nat} {c : α} (h : l[i]? = some c) (r : p c = true) : (l.take (i + 1)).filter p = (l.take i).filter p ++ [c] := by
  rw [take_more h, List.filter_append, List.filter_cons, if_pos r]
  rfl
theorem fil_no {α : Type} {p : α → Bool} {l : List α} {i : Nat} {c : α} (h : l[i]? = some c) (r : p c = false) : (l.take (i + 1)).filter p = (l.take i).filter p := by
  rw [take_more h, List.filter_append, List.filter_cons, if_neg (by rw [r]; decide)]
  simp
section
variable {P : Program} {w : World} {K : PySem.W.Frag} {mg : Str → Option Value} {base : Heap} {aP aH CK : Addr}
/-! ### exceptional_rules -/
abbrev s_exceptional_rules : Stmt := topS 23
theorem sc_exceptional_rules : FnScope ["kinds", "possible", "rules", "normal", "rule"] ["kinds", "possible", "rules"] (defScope s_exceptional_rules) := ⟨rfl, rfl, rfl, by decide +kernel, rfl, by decide +kernel, by decide +kernel⟩
def sp_exceptional (K : PySem.W.Frag) (CK : Addr) : Sp := fun vs H Q _ => ∃ (a b : Addr) (at_ : List Oc.C) (ws : List V) (ax l : List (Oc.C × Oc.C)), vs = [.ref a, .int (bits (tn at_) (tm at_ ax) : Nat), .ref b] ∧ K0 CK H a at_ ∧ H b = some (.lst ws) ∧ Paired (Pr H) ws l ∧ PsOk at_ l ∧ InL at_ ax ∧ l.length ≤ 1000 ∧
  ∀ p H' us, Same H H' → H p = none → H' p = some (.lst us) → Paired (Pr H) us (Oc07.left ax l) → Q (.ref p) H'
theorem ok_exceptional {f : Addr} {fd : FuncData} (F : Fun K "exceptional_rules" "exceptional_rules" s_exceptional_rules f fd) (T : Txt K mg aP aH) (TK : KTx K CK)
    (C_Kinds_satisfying : Met P w K mg base 6 CK "satisfying" (sp_satisfying K CK)) (C_Kinds_having : Met P w K mg base 5 CK "having" (sp_having CK)) : FnOk P w K mg base CX0 7 f fd ["kinds", "possible", "rules"] (sp_exceptional K CK) := by
  refine F.ok sc_exceptional_rules (fun vs H Q E h => ?_) (fun cdv A outer s H vs Q E hr h => ?_)
  · obtain ⟨a, b, at_, ws, ax, l, rfl, _⟩ := h
    rfl
  · refine ⟨_, (pss_cons (ps_set (i := 3) sc_exceptional_rules.nd rfl (Or.inr rfl) (pe_op op_and (pv 1) (pe_mt C_Kinds_satisfying hr (by decide) (pv 0) (pa_cons (pv 2) pa_nil))))
      (pss_one (ps_ret (pe_lc (own := [("rule", 4)]) (g := gName 4)  rfl sc_exceptional_rules.nd (pi_list (pv 2)) (blkOk_by (N := ["kinds", "possible", "rules", "normal", "rule"]) (sc := defScope s_exceptional_rules) (by decide +kernel)) (fun _ _ _ _ _ => pg_name (i := 4) sc_exceptional_rules.nd rfl (Or.inl rfl)) (fun _ _ _ _ _ => pts_one (pt_cmpR op_eq (pe_op op_and (pv 3) (pe_mt C_Kinds_having hr (by decide) (pv 0) (pa_cons (pe_ix (ix_seqK (K := K) rfl) (pv 4) pe_int (fun _ _ => rfl)) pa_nil))) pe_int (nomark _))) (fun _ _ _ _ _ => (pv 4)))))), ?_⟩
    obtain ⟨a, b, at_, ws, ax, l, rfl, k0, hb, hps, ho, hax, hln, q⟩ := h
    obtain ⟨dx, fs, d, h1, h2, h3⟩ := k0.ex
    refine p_seq (p_asg (p_op ⟨_, rfl, _, rfl, a, dx, fs, rfl, h1, h2.m_satisfying, _, rfl, a, b, at_, ws, l, rfl, k0, SqL.of hb, hps, ho, fun H1 sm => r_and ?_⟩))
    rw [bits_and]
    generalize hN : bits (tn at_) (fun t => tm at_ ax t && Oc.keeps at_ l t) = N
    refine ⟨_, rfl, b, rfl, ⟨_, SqL.of (sm _ _ hb)⟩, fun D nD => lc_list (K := K) (a := b) (xs := ws) (fun i H' => Same H H' ∧ ∃ us, H' D = some (.lst us) ∧ Paired (Pr H) us ((l.take i).filter fun x => Oc07.strange ax l x.1))
      ⟨sm.trans (same_new nD), [], upd_same, .nil⟩ (fun i H' _ ⟨e, _⟩ => SqL.of (e _ _ hb)) ?_ ?_⟩
    · rintro i v H2 hi ⟨sm2, us, hD, hu⟩
      obtain ⟨c, hc, hpr⟩ := pr_get hps hi
      have hpr' := hpr
      obtain ⟨p, v1, v2, rfl, hp, c1, c2⟩ := hpr
      have hm := List.mem_of_getElem? hc
      refine ⟨rfl, ?_⟩
      refine ⟨_, rfl, _, rfl, a, dx, fs, rfl, sm2 _ _ h1, h2.m_having, _, rfl, ixT_of (v := v1) (SqT.of (sm2 _ _ hp)) (atI_nat (j := 0) rfl) ?_⟩
      refine ⟨a, at_, v1, c.1, rfl, k0.same sm2, c1.same sm2, (ho.i c hm).1, (ho.n c hm).1, fun H3 sm3 => r_and ⟨rfl, _, rfl, ?_⟩⟩
      have e : decide (N &&& vl at_ c.1 = 0) = Oc07.strange ax l c.1 := by
        rw [strange_bits k0.ok.g hax ho.i (ho.i c hm).1, ← hN]
        rw [show vl at_ c.1 = bits (tn at_) fun t => Oc.holds at_ t c.1 from rfl, bits_and]
        congr 1
        congr 1
        refine bits_congr fun t _ => ?_
        cases tm at_ ax t <;> cases Oc.keeps at_ l t <;> cases Oc.holds at_ t c.1 <;> rfl
      have sm4 := sm2.trans sm3
      cases hs : Oc07.strange ax l c.1 with
      | true =>
        rw [hs] at e
        refine if_t (dec_eq0.trans e) ?_
        have hlw : us.length < sizeLine := by
          have h1 := pr_len hu
          have h2 := List.length_filter_le (fun x : Oc.C × Oc.C => Oc07.strange ax l x.1) (l.take i)
          rw [List.length_take] at h2
          exact sz10 (by omega)
        refine ⟨_, rfl, us, sm3 _ _ hD, hlw, same_mut sm4 (sm.free nD), _, upd_same, ?_⟩
        rw [fil_yes (p := fun x : Oc.C × Oc.C => Oc07.strange ax l x.1) hc hs]
        exact Paired.snoc hu hpr'
      | false =>
        rw [hs] at e
        refine if_f (dec_eq0.trans e) ?_
        refine ⟨sm4, us, sm3 _ _ hD, ?_⟩
        rw [fil_no (p := fun x : Oc.C × Oc.C => Oc07.strange ax l x.1) hc hs]
        exact hu
    · rintro H2 ⟨sm2, us, hD, hu⟩
      rw [pr_len hps, List.take_length] at hu
      exact q D H2 us sm2 (sm.free nD) hD hu
/-! ### narrowed -/
abbrev s_narrowed : Stmt := topS 24
theorem sc_narrowed : FnScope ["kinds", "possible", "rules", "levels", "exceptional"] ["kinds", "possible", "rules"] (defScope s_narrowed) := ⟨rfl, rfl, rfl, by decide +kernel, rfl, by decide +kernel, by decide +kernel⟩
def sp_narrowed (K : PySem.W.Frag) (CK : Addr) : Sp := fun vs H Q _ => ∃ (a b : Addr) (at_ : List Oc.C) (ws : List V) (ax l : List (Oc.C × Oc.C)), vs = [.ref a, .int (bits (tn at_) (tm at_ ax) : Nat), .ref b] ∧ K0 CK H a at_ ∧ H b = some (.lst ws) ∧ Paired (Pr H) ws l ∧ PsOk at_ l ∧ InL at_ ax ∧ l.length ≤ 1000 ∧
  ∀ p H' us, Same H H' → H p = none → H' p = some (.lst us) → Paired (Lv H') us (rk ax l) → Q (.ref p) H'
theorem ok_narrowed {f : Addr} {fd : FuncData} (F : Fun K "narrowed" "narrowed" s_narrowed f fd) (T : Txt K mg aP aH)
    (C_exceptional_rules : Cal P w K mg base 7 "exceptional_rules" (sp_exceptional K CK)) : FnOk P w K mg base CX0 8 f fd ["kinds", "possible", "rules"] (sp_narrowed K CK) := by
  refine F.ok sc_narrowed (fun vs H Q E h => ?_) (fun cdv A outer s H vs Q E hr h => ?_)
  · obtain ⟨a, b, at_, ws, ax, l, rfl, _⟩ := h
    rfl
  · refine ⟨_, (pss_cons (ps_set (i := 3) sc_narrowed.nd rfl (Or.inl rfl) (pe_lst (pa_cons (pv 2) pa_nil)))
      (pss_cons (ps_set (i := 4) sc_narrowed.nd rfl (Or.inl rfl) (pe_c C_exceptional_rules hr (by decide) rfl (pa_cons (pv 0) (pa_cons (pv 1) (pa_cons (pv 2) pa_nil)))))
      (pss_cons (ps_while PassesOwn.never (pt_cmpR op_lt (pe_callB call_len_seq (by rfl) T.b_len PySem.boot_len (pa_cons (pv 4) pa_nil)) (pe_callB call_len_seq (by rfl) T.b_len PySem.boot_len (pa_cons (pe_ix ix_seq (pv 3) (pe_un un_neg pe_int) (fun _ _ => rfl)) pa_nil)) (nomark _))
        (pss_cons (ps_expr (pe_bm PySem.F.plainAttrs_list PySem.F.slot_list_append PySem.F.type_list_append mt_append (pv 3) (pa_cons (pv 4) pa_nil)))
        (pss_one (ps_set (i := 4) sc_narrowed.nd rfl (Or.inl rfl) (pe_c C_exceptional_rules hr (by decide) rfl (pa_cons (pv 0) (pa_cons (pv 1) (pa_cons (pv 4) pa_nil))))))))
      (pss_one (ps_ret (pv 3)))))), ?_⟩
    obtain ⟨a, b, at_, ws, ax, l, rfl, k0, hb, hps, ho, hax, hln, q⟩ := h
    refine ⟨_, rfl, by show 1 ≤ sizeLine; decide, fun p np => ?_⟩
    have sm1 := same_new (o := .lst [.ref b]) np
    refine ⟨_, rfl, _, rfl, _, rfl, a, b, at_, ws, ax, l, rfl, k0.same sm1, sm1 _ _ hb, pr_mono hps (fun _ _ => Pr.same sm1), ho, hax, hln, fun e H2 us sm2 ne he hu => ?_⟩
    have nbp : b ≠ p := ne_of_none hb np
    have nep0 : e ≠ p := by
      intro z
      rw [z, upd_same] at ne
      cases ne
    refine ⟨fun m σ H' => ∃ (e : Addr) (us lv : List V) (cur : List (Oc.C × Oc.C)) (done : List (List (Oc.C × Oc.C))) (z : V), σ = [some (.ref a), some (.int (bits (tn at_) (tm at_ ax) : Nat)), some (.ref b), some (.ref p), some (.ref e)] ∧ m = cur.length ∧ Same H H' ∧
      H' p = some (.lst (lv ++ [z])) ∧ Paired (LvB p H') lv done ∧ LvB p H' z cur ∧ H' e = some (.lst us) ∧ e ≠ p ∧ Paired (Pr H') us (Oc07.left ax cur) ∧ done ++ rk ax cur = rk ax l ∧ (∀ x ∈ cur, x ∈ l) ∧ done.length + cur.length ≤ l.length,
      ⟨_, e, us, [], l, [], .ref b, rfl, rfl, sm1.trans sm2, sm2 _ _ upd_same, .nil, ⟨b, ws, rfl, nbp, sm2 _ _ (sm1 _ _ hb), pr_mono hps fun _ _ => Pr.same (sm1.trans sm2)⟩, he, nep0, pr_mono hu fun _ _ => Pr.same sm2, rfl, fun _ h => h, by simp⟩, ?_⟩
    rintro m σ H' ⟨e, us, lv, cur, done, z, rfl, rfl, sm, hp, hdone, hz, he, nep, hu, hrk, hsub, hlen⟩
    have hz' := hz
    obtain ⟨cb, cws, rfl, ncb, hcb, hcp⟩ := hz
    refine ⟨_, rfl, e, us, rfl, .inl (SqL.of he), _, rfl, 1, rfl, ixL_of (v := .ref cb) (SqL.of hp) (atI_last _ _) ⟨cb, cws, rfl, .inl (SqL.of hcb), _, _, rfl, rfl, _, rfl, ?_⟩⟩
    rw [pr_len hu, pr_len hcp]
    have hokc := ho.sub hsub
    by_cases c : (Oc07.left ax cur).length < cur.length
    · refine if_t (dec_t (by omega)) ?_
      refine ⟨fun σ' H'' => ∃ m', m' < cur.length ∧ ∃ (e : Addr) (us lv : List V) (cur : List (Oc.C × Oc.C)) (done : List (List (Oc.C × Oc.C))) (z : V), σ' = [some (.ref a), some (.int (bits (tn at_) (tm at_ ax) : Nat)), some (.ref b), some (.ref p), some (.ref e)] ∧ m' = cur.length ∧ Same H H'' ∧
        H'' p = some (.lst (lv ++ [z])) ∧ Paired (LvB p H'') lv done ∧ LvB p H'' z cur ∧ H'' e = some (.lst us) ∧ e ≠ p ∧ Paired (Pr H'') us (Oc07.left ax cur) ∧ done ++ rk ax cur = rk ax l ∧ (∀ x ∈ cur, x ∈ l) ∧ done.length + cur.length ≤ l.length, fun _ _ z => z, ?_⟩
      have hlv : (lv ++ [V.ref cb]).length < sizeLine := by
        have := pr_len hdone
        rw [List.length_append, List.length_singleton]
        exact sz10 (by omega)
      refine ⟨_, rfl, .inl ⟨rfl, _, SqL.of hp⟩, _, rfl, p, _, _, rfl, rfl, hp, hlv, ?_⟩
      have sbA : SameBut p H' (L2.upd H' p (.lst ((lv ++ [V.ref cb]) ++ [.ref e]))) := SameBut.upd fun b o e _ => e
      have smA : Same H (L2.upd H' p (.lst ((lv ++ [V.ref cb]) ++ [.ref e]))) := same_mut sm np
      have nt : ∀ xs, HO.lst (lv ++ [V.ref cb]) ≠ .tup xs := by
        intro _ z
        cases z
      have hsub2 : ∀ x ∈ Oc07.left ax cur, x ∈ l := fun x hx => hsub x (left_sub x hx)
      have huA := pr_mono hu fun _ _ => Pr.but sbA hp nt
      refine ⟨_, rfl, _, rfl, _, rfl, a, e, at_, us, ax, Oc07.left ax cur, rfl, k0.same smA, sbA _ _ he nep, huA, ho.sub hsub2, hax, by omega, fun e2 H3 us2 sm3 ne2 he2 hu2 => ?_⟩
      have nep2 : e2 ≠ p := by
        intro z
        rw [z, upd_same] at ne2
        cases ne2
      refine ⟨(Oc07.left ax cur).length, c, e2, us2, lv ++ [.ref cb], Oc07.left ax cur, done ++ [cur], .ref e, rfl, rfl, smA.trans sm3, sm3 _ _ upd_same, ?_, ?_, he2, nep2, pr_mono hu2 fun _ _ => Pr.same sm3, ?_, hsub2, ?_⟩
      · exact pr_mono (Paired.snoc hdone hz') fun _ _ h => (h.but sbA hp nt).same sm3
      · exact LvB.same sm3 ⟨e, us, rfl, nep, sbA _ _ he nep, huA⟩
      · rw [rk_go c] at hrk
        rw [List.append_assoc]
        exact hrk
      · rw [List.length_append, List.length_singleton]
        omega
    · refine if_f (dec_f (by omega)) ?_
      rw [rk_stop c] at hrk
      refine ⟨_, rfl, q p H' _ sm np hp ?_⟩
      rw [← hrk]
      exact pr_mono (Paired.snoc hdone hz') fun _ _ => LvB.lv
end
end Py

namespace Py
open PySem PySem.Spec PyProof.Rows L2 Ex
structure RTx (K : PySem.W.Frag) (CR : Addr) : Prop where
  cl : Cls K CR
  n_kinds : NoAttr K CR "kinds"
  n_possible : NoAttr K CR "possible"
  n_levels : NoAttr K CR "levels"
abbrev fr1 (a : Addr) : List (Str × V) := [("kinds", .ref a)]
abbrev fr2 (a : Addr) (N : Nat) : List (Str × V) := [("kinds", .ref a), ("possible", .int (N : Nat))]
abbrev fr3 (a : Addr) (N : Nat) (l : Addr) : List (Str × V) := [("kinds", .ref a), ("possible", .int (N : Nat)), ("levels", .ref l)]
/-- a ranking -/
structure R1 (CK CR : Addr) (H : Hp) (r : Addr) (at_ : List Oc.C) (ax l : List (Oc.C × Oc.C)) : Prop where
  ex : ∃ a dx p lv, K1 CK H a at_ ∧ H r = some (.ins CR dx (fr3 a (bits (tn at_) (tm at_ (Oc07.book ax l).1)) p)) ∧ H p = some (.lst lv) ∧ Paired (Lv H) lv (Oc07.book ax l).2
  xa : InL at_ (Oc07.book ax l).1
  lv : ∀ m ∈ (Oc07.book ax l).2, PsOk at_ m
theorem R1.same {CK CR : Addr} {H H' : Hp} {r : Addr} {at_ : List Oc.C} {ax l : List (Oc.C × Oc.C)} (e : Same H H') (h : R1 CK CR H r at_ ax l) : R1 CK CR H' r at_ ax l := by
  obtain ⟨a, dx, p, lv, h1, h2, h3, h4⟩ := h.ex
  exact ⟨⟨a, dx, p, lv, h1.same e, e _ _ h2, e _ _ h3, pr_mono h4 fun _ _ => Lv.same e⟩, h.xa, h.lv⟩
theorem Lv.but {l : Addr} {H H' : Hp} {v : V} {m : List (Oc.C × Oc.C)} {o : HO} (e : SameBut l H H') (hl : H l = some o) (ho : ∀ xs, o ≠ .tup xs) (ho2 : ∀ xs, o ≠ .lst xs) (h : Lv H v m) : Lv H' v m := by
  obtain ⟨b, ws, rfl, h1, h2⟩ := h
  refine ⟨b, ws, rfl, e _ _ h1 fun z => ?_, pr_mono h2 fun _ _ => Pr.but e hl ho⟩
  rw [z, hl] at h1
  exact ho2 _ (Option.some.inj h1)
theorem K1.but {CK r C' dx' : Addr} {fs' : List (Str × V)} {H H' : Hp} {a : Addr} {at_ : List Oc.C} (e : SameBut r H H') (hr : H r = some (.ins C' dx' fs')) (n : a ≠ r) (h : K1 CK H a at_) : K1 CK H' a at_ := by
  obtain ⟨dx, fs, d, l, ws, h1, h2, h3, h4, h5, h6⟩ := h.ex
  have nd : d ≠ r := by
    intro z
    rw [z, hr] at h3
    cases h3
  have nl : l ≠ r := by
    intro z
    rw [z, hr] at h5
    cases h5
  exact ⟨h.ok, dx, fs, d, l, ws, e _ _ h1 n, h2, e _ _ h3 nd, h4, e _ _ h5 nl, pr_mono h6 fun _ _ h => h.but e hr (by intro _ z; cases z)⟩
theorem p_ifeG {σ : L2.St} {H : Hp} {Q : VK} {ta tb : TE} {tt : TT} (G : V → Hp → Prop) (go : ∀ x H', G x H' → Q x H') (h : (∀ x H', G x H' → Q x H') → tt σ H fun c H1 => if c = true then ta σ H1 Q else tb σ H1 Q) : tIf tt ta tb σ H Q := h go
theorem psok_nil (at_ : List Oc.C) : PsOk at_ [] where
  i := fun a h => by cases h
  n := fun a h => by cases h
theorem find_yes {n : Nat} {p : Nat → Bool} {i : Nat} (hi : i < n) (h : ∀ j, j < i → p j = false) (hp : p i = true) : (List.range n).find? p = some i := by
  rw [List.find?_eq_some_iff_append]
  refine ⟨hp, List.range i, (List.range (n - i - 1)).map (fun x => i + 1 + x), ?_, fun a ha => by rw [h a (List.mem_range.mp ha)]; rfl⟩
  have e : n = i + (1 + (n - i - 1)) := by omega
  conv => lhs; rw [e, List.range_add, List.range_add]
  simp [List.map_map]
  intro a _
  omega
theorem find_no {n : Nat} {p : Nat → Bool} (h : ∀ j, j < n → p j = false) : (List.range n).find? p = none := by
  rw [List.find?_eq_none]
  intro x hx
  rw [h x (List.mem_range.mp hx)]
  exact Bool.false_ne_true
section
variable {P : Program} {w : World} {K : PySem.W.Frag} {mg : Str → Option Value} {base : Heap} {aP aH CK CR : Addr}
/-! ### rank_of -/
abbrev s_Ranking_rank_of : Stmt := inClass (topS 25) 2
theorem sc_Ranking_rank_of : FnScope ["self", "concept", "found", "place", "rules"] ["self", "concept"] (defScope s_Ranking_rank_of) := ⟨rfl, rfl, rfl, by decide +kernel, rfl, by decide +kernel, by decide +kernel⟩
def sp_rank_of (CK CR : Addr) : Sp := fun vs H Q _ => ∃ (r : Addr) (at_ : List Oc.C) (ax l : List (Oc.C × Oc.C)) (vc : V) (c : Oc.C), vs = [.ref r, vc] ∧ R1 CK CR H r at_ ax l ∧ Ct H vc c ∧ InA at_ c ∧ (enc c).length ≤ 10000 ∧
  ∀ H', Same H H' → Q (.int (Oc07.rankOf (Oc07.book ax l) c : Nat)) H'
theorem ok_rank_of {f : Addr} {fd : FuncData} (F : Fun K "rank_of" "Ranking.rank_of" s_Ranking_rank_of f fd) (T : Txt K mg aP aH) (TK : KTx K CK) (TR : RTx K CR)
    (C_Kinds_having : Met P w K mg base 5 CK "having" (sp_having CK)) (C_Kinds_satisfying : Met P w K mg base 6 CK "satisfying" (sp_satisfying K CK)) : FnOk P w K mg base CX0 7 f fd ["self", "concept"] (sp_rank_of CK CR) := by
  refine F.ok sc_Ranking_rank_of (fun vs H Q E h => ?_) (fun cdv A outer s H vs Q E hr h => ?_)
  · obtain ⟨r, at_, ax, l, vc, c, rfl, _⟩ := h
    rfl
  · refine ⟨_, (pss_cons (ps_set (i := 2) sc_Ranking_rank_of.nd rfl (Or.inl rfl) (pe_op op_and (pe_fld (pv 0) rfl) (pe_mt C_Kinds_having hr (by decide) (pe_fld (pv 0) rfl) (pa_cons (pv 1) pa_nil))))
      (pss_cons (ps_for PassesOwn.never rfl (pi_enum (by rfl) T.b_enumerate (pa_cons (pe_fld (pv 0) rfl) pa_nil)) (pg_tup rfl (pgs_cons (pg_name (i := 3) sc_Ranking_rank_of.nd rfl (Or.inl rfl)) (pgs_cons (pg_name (i := 4) sc_Ranking_rank_of.nd rfl (Or.inl rfl)) pgs_nil)))
        (pss_one (ps_if (pt_cmpR op_ne (pe_op op_and (pv 2) (pe_mt C_Kinds_satisfying hr (by decide) (pe_fld (pv 0) rfl) (pa_cons (pv 4) pa_nil))) pe_int (nomark _))
          (pss_one (ps_ret (pv 3)))
          pss_nil)))
      (pss_one (ps_ret (pe_callB call_len_seq (by rfl) T.b_len PySem.boot_len (pa_cons (pe_fld (pv 0) rfl) pa_nil)))))), ?_⟩
    obtain ⟨r, at_, ax, l, vc, c, rfl, r1, hc, hin, hlen, q⟩ := h
    obtain ⟨a, dx, p, lv, k1, h2, h3, h4⟩ := r1.ex
    obtain ⟨dk, fk, d, g1, g2, g3⟩ := k1.k0.ex
    unfold Oc07.rankOf at q
    generalize hbk : Oc07.book ax l = bk at *
    have el := pr_len h4
    refine ⟨_, rfl, r, CR, dx, _, _, rfl, h2, TR.cl, TR.n_possible, rfl, _, rfl, r, CR, dx, _, _, rfl, h2, TR.cl, TR.n_kinds, rfl, a, dk, fk, rfl, g1, g2.m_having, _, rfl, a, at_, vc, c, rfl, k1.k0, hc, hin, hlen, fun H1 sm => r_and ?_⟩
    rw [show vl at_ c = bits (tn at_) fun t => Oc.holds at_ t c from rfl, bits_and]
    refine ⟨_, rfl, r, CR, dx, _, _, rfl, sm _ _ h2, TR.cl, TR.n_levels, rfl, p, lv, rfl, SqL.of (sm _ _ h3), for_enum (K := K) (a := p) (xs := lv) (fun i σ H' => Same H H' ∧ (∀ j, j < i → (!Oc07.strange bk.1 (bk.2.getD j []) c) = false) ∧ ∃ x y : Option V, σ = [some (.ref r), some vc, some (.int (bits (tn at_) (fun t => tm at_ bk.1 t && Oc.holds at_ t c) : Nat)), x, y])
      ⟨sm, fun _ h => absurd h (Nat.not_lt_zero _), none, none, rfl⟩ (fun i σ H' _ ⟨e, _⟩ => SqL.of (e _ _ h3)) ?_ ?_⟩
    · rintro i v T σ H' hi ⟨sm2, ih, x, y, rfl⟩ nT
      obtain ⟨m, hm, b, ws, rfl, hb, hps⟩ := pr_get h4 hi
      have hmem := List.mem_of_getElem? hm
      have hil : i < bk.2.length := (List.getElem?_eq_some_iff.mp hm).1
      have hgd : bk.2.getD i [] = m := by rw [List.getD_eq_getElem?_getD, hm]; rfl
      have smT := same_new (o := .tup [.int (i : Nat), .ref b]) nT
      have sm3 := sm2.trans smT
      refine ⟨T, _, rfl, SqT.of upd_same, rfl, _, _, rfl, _, _, rfl, rfl, ?_⟩
      refine ⟨_, rfl, _, rfl, r, CR, dx, _, _, rfl, sm3 _ _ h2, TR.cl, TR.n_kinds, rfl, a, dk, fk, rfl, sm3 _ _ g1, g2.m_satisfying, _, rfl, a, b, at_, ws, m, rfl, k1.k0.same sm3, SqL.of (sm3 _ _ hb), pr_mono hps (fun _ _ => Pr.same sm3), r1.lv m (hbk ▸ hmem), fun H4 sm4 => r_and ⟨rfl, _, rfl, ?_⟩⟩
      rw [bits_and]
      have e : decide (bits (tn at_) (fun t => (tm at_ bk.1 t && Oc.holds at_ t c) && Oc.keeps at_ m t) = 0) = Oc07.strange bk.1 m c := by
        rw [strange_bits k1.ok.g (hbk ▸ r1.xa) (r1.lv m (hbk ▸ hmem)).i hin]
        simp only [Bool.and_assoc]
      cases hs : Oc07.strange bk.1 m c with
      | true =>
        rw [hs] at e
        refine if_f (dec_ne0.trans (by rw [e]; rfl)) ?_
        refine ⟨sm3.trans sm4, fun j hj => ?_, _, _, rfl⟩
        by_cases z : j < i
        · exact ih j z
        · have : j = i := by omega
          rw [this, hgd, hs]
          rfl
      | false =>
        rw [hs] at e
        refine if_t (dec_ne0.trans (by rw [e]; rfl)) ?_
        refine ⟨_, rfl, ?_⟩
        have := q H4 (sm3.trans sm4)
        rw [find_yes hil ih (by rw [hgd, hs]; rfl)] at this
        exact this
    · rintro σ H' ⟨sm2, ih, x, y, rfl⟩
      rw [el] at ih
      rw [find_no ih] at q
      refine ⟨_, rfl, r, CR, dx, _, _, rfl, sm2 _ _ h2, TR.cl, TR.n_levels, rfl, p, lv, rfl, .inl (SqL.of (sm2 _ _ h3)), ?_⟩
      rw [el]
      exact q H' sm2
/-! ### all_have -/
abbrev s_Ranking_all_have : Stmt := inClass (topS 25) 5
theorem sc_Ranking_all_have : FnScope ["self", "found", "concept"] ["self", "found", "concept"] (defScope s_Ranking_all_have) := ⟨rfl, rfl, rfl, by decide +kernel, rfl, by decide +kernel, by decide +kernel⟩
def sp_all_have (CK CR : Addr) : Sp := fun vs H Q _ => ∃ (r : Addr) (at_ : List Oc.C) (ax l : List (Oc.C × Oc.C)) (p : Nat → Bool) (vd : V) (d : Oc.C), vs = [.ref r, .int (bits (tn at_) p : Nat), vd] ∧ R1 CK CR H r at_ ax l ∧ Ct H vd d ∧ InA at_ d ∧ (enc d).length ≤ 10000 ∧
  ∀ H', Same H H' → Q (.bl (decide (bits (tn at_) (fun t => p t && !Oc.holds at_ t d) = 0))) H'
theorem ok_all_have {f : Addr} {fd : FuncData} (F : Fun K "all_have" "Ranking.all_have" s_Ranking_all_have f fd) (T : Txt K mg aP aH) (TK : KTx K CK) (TR : RTx K CR)
    (C_Kinds_having : Met P w K mg base 5 CK "having" (sp_having CK)) : FnOk P w K mg base CX0 6 f fd ["self", "found", "concept"] (sp_all_have CK CR) := by
  refine F.ok sc_Ranking_all_have (fun vs H Q E h => ?_) (fun cdv A outer s H vs Q E hr h => ?_)
  · obtain ⟨r, at_, ax, l, p, vd, d, rfl, _⟩ := h
    rfl
  · refine ⟨_, (pss_one (ps_ret (pe_cmpR op_eq (pe_op op_and (pv 1) (pe_op op_xor (pe_fld (pe_fld (pv 0) rfl) rfl) (pe_mt C_Kinds_having hr (by decide) (pe_fld (pv 0) rfl) (pa_cons (pv 2) pa_nil)))) pe_int (nomark _)))), ?_⟩
    obtain ⟨r, at_, ax, l, p, vd, d, rfl, r1, hd, hind, hlend, q⟩ := h
    obtain ⟨a, dx, pl, lv, k1, h2, h3, h4⟩ := r1.ex
    obtain ⟨dk, fk, dd, g1, g2, g3⟩ := k1.k0.ex
    refine ⟨_, rfl, _, rfl, r, CR, dx, _, _, rfl, h2, TR.cl, TR.n_kinds, rfl, a, CK, dk, fk, _, rfl, g1, TK.cl, TK.n_every, g2.every, ?_⟩
    refine ⟨_, rfl, r, CR, dx, _, _, rfl, h2, TR.cl, TR.n_kinds, rfl, a, dk, fk, rfl, g1, g2.m_having, _, rfl, a, at_, vd, d, rfl, k1.k0, hd, hind, hlend, fun H7 sm7 => r_xor (r_and ⟨rfl, ?_⟩)⟩
    rw [show vl at_ d = bits (tn at_) fun t => Oc.holds at_ t d from rfl, xor_top, bits_and]
    have := q H7 sm7
    rw [← dec_eq0] at this
    exact this
/-! ### always_holds -/
abbrev s_Ranking_always_holds : Stmt := inClass (topS 25) 4
theorem sc_Ranking_always_holds : FnScope ["self", "first", "second"] ["self", "first", "second"] (defScope s_Ranking_always_holds) := ⟨rfl, rfl, rfl, by decide +kernel, rfl, by decide +kernel, by decide +kernel⟩
def sp_always_holds (CK CR : Addr) : Sp := fun vs H Q _ => ∃ (r : Addr) (at_ : List Oc.C) (ax l : List (Oc.C × Oc.C)) (vc vd : V) (c d : Oc.C), vs = [.ref r, vc, vd] ∧ R1 CK CR H r at_ ax l ∧ Ct H vc c ∧ InA at_ c ∧ (enc c).length ≤ 10000 ∧ Ct H vd d ∧ InA at_ d ∧ (enc d).length ≤ 10000 ∧
  ∀ H', Same H H' → Q (.bl (Oc.under (Oc07.book ax l).1 c d)) H'
theorem ok_always_holds {f : Addr} {fd : FuncData} (F : Fun K "always_holds" "Ranking.always_holds" s_Ranking_always_holds f fd) (T : Txt K mg aP aH) (TK : KTx K CK) (TR : RTx K CR)
    (C_Kinds_having : Met P w K mg base 5 CK "having" (sp_having CK)) (C_Ranking_all_have : Met P w K mg base 6 CR "all_have" (sp_all_have CK CR)) : FnOk P w K mg base CX0 7 f fd ["self", "first", "second"] (sp_always_holds CK CR) := by
  refine F.ok sc_Ranking_always_holds (fun vs H Q E h => ?_) (fun cdv A outer s H vs Q E hr h => ?_)
  · obtain ⟨r, at_, ax, l, vc, vd, c, d, rfl, _⟩ := h
    rfl
  · refine ⟨_, (pss_one (ps_ret (pe_mt C_Ranking_all_have hr (by decide) (pv 0) (pa_cons (pe_op op_and (pe_fld (pv 0) rfl) (pe_mt C_Kinds_having hr (by decide) (pe_fld (pv 0) rfl) (pa_cons (pv 1) pa_nil))) (pa_cons (pv 2) pa_nil))))), ?_⟩
    obtain ⟨r, at_, ax, l, vc, vd, c, d, rfl, r1, hc, hin, hlen, hd, hind, hlend, q⟩ := h
    obtain ⟨a, dx, pl, lv, k1, h2, h3, h4⟩ := r1.ex
    obtain ⟨dk, fk, dd, g1, g2, g3⟩ := k1.k0.ex
    refine ⟨_, rfl, r, dx, _, rfl, h2, rfl, _, rfl, r, CR, dx, _, _, rfl, h2, TR.cl, TR.n_possible, rfl, _, rfl, r, CR, dx, _, _, rfl, h2, TR.cl, TR.n_kinds, rfl, a, dk, fk, rfl, g1, g2.m_having, _, rfl, a, at_, vc, c, rfl, k1.k0, hc, hin, hlen, fun H1 sm => r_and ?_⟩
    rw [show vl at_ c = bits (tn at_) fun t => Oc.holds at_ t c from rfl, bits_and]
    refine ⟨_, rfl, r, at_, ax, l, _, vd, d, rfl, r1.same sm, hd.same sm, hind, hlend, fun H2 sm2 => ?_⟩
    have := q H2 (sm.trans sm2)
    rw [under_bits k1.ok.g r1.xa hin hind] at this
    simp only [← Bool.and_assoc] at this
    exact this
/-! ### normally_holds -/
abbrev s_Ranking_normally_holds : Stmt := inClass (topS 25) 3
theorem sc_Ranking_normally_holds : FnScope ["self", "first", "second", "place", "rules", "normal"] ["self", "first", "second"] (defScope s_Ranking_normally_holds) := ⟨rfl, rfl, rfl, by decide +kernel, rfl, by decide +kernel, by decide +kernel⟩
def sp_normally_holds (CK CR : Addr) : Sp := fun vs H Q _ => ∃ (r : Addr) (at_ : List Oc.C) (ax l : List (Oc.C × Oc.C)) (vc vd : V) (c d : Oc.C), vs = [.ref r, vc, vd] ∧ R1 CK CR H r at_ ax l ∧ Ct H vc c ∧ InA at_ c ∧ (enc c).length ≤ 10000 ∧ Ct H vd d ∧ InA at_ d ∧ (enc d).length ≤ 10000 ∧
  ∀ H', Same H H' → Q (.bl (Oc07.normally ax l c d)) H'
theorem ok_normally_holds {f : Addr} {fd : FuncData} (F : Fun K "normally_holds" "Ranking.normally_holds" s_Ranking_normally_holds f fd) (T : Txt K mg aP aH) (TK : KTx K CK) (TR : RTx K CR)
    (C_Kinds_having : Met P w K mg base 5 CK "having" (sp_having CK)) (C_Kinds_satisfying : Met P w K mg base 6 CK "satisfying" (sp_satisfying K CK)) (C_Ranking_rank_of : Met P w K mg base 7 CR "rank_of" (sp_rank_of CK CR)) (C_Ranking_all_have : Met P w K mg base 6 CR "all_have" (sp_all_have CK CR)) : FnOk P w K mg base CX0 8 f fd ["self", "first", "second"] (sp_normally_holds CK CR) := by
  refine F.ok sc_Ranking_normally_holds (fun vs H Q E h => ?_) (fun cdv A outer s H vs Q E hr h => ?_)
  · obtain ⟨r, at_, ax, l, vc, vd, c, d, rfl, _⟩ := h
    rfl
  · refine ⟨_, (pss_cons (ps_set (i := 3) sc_Ranking_normally_holds.nd rfl (Or.inl rfl) (pe_mt C_Ranking_rank_of hr (by decide) (pv 0) (pa_cons (pv 1) pa_nil)))
      (pss_cons (ps_set (i := 4) sc_Ranking_normally_holds.nd rfl (Or.inl rfl) (pe_ifExp (pt_cmpR op_lt (pv 3) (pe_callB call_len_seq (by rfl) T.b_len PySem.boot_len (pa_cons (pe_fld (pv 0) rfl) pa_nil)) (nomark _)) (pe_ix ix_seq (pe_fld (pv 0) rfl) (pv 3) (fun _ _ => rfl)) (pe_lst pa_nil)))
      (pss_cons (ps_set (i := 5) sc_Ranking_normally_holds.nd rfl (Or.inl rfl) (pe_op op_and (pe_op op_and (pe_fld (pv 0) rfl) (pe_mt C_Kinds_having hr (by decide) (pe_fld (pv 0) rfl) (pa_cons (pv 1) pa_nil))) (pe_mt C_Kinds_satisfying hr (by decide) (pe_fld (pv 0) rfl) (pa_cons (pv 4) pa_nil))))
      (pss_one (ps_ret (pe_mt C_Ranking_all_have hr (by decide) (pv 0) (pa_cons (pv 5) (pa_cons (pv 2) pa_nil)))))))), ?_⟩
    obtain ⟨r, at_, ax, l, vc, vd, c, d, rfl, r1, hc, hin, hlen, hd, hind, hlend, q⟩ := h
    obtain ⟨a, dx, p, lv, k1, h2, h3, h4⟩ := r1.ex
    obtain ⟨dk, fk, dd, g1, g2, g3⟩ := k1.k0.ex
    refine p_seq (p_asg ⟨_, rfl, r, dx, _, rfl, h2, rfl, _, rfl, r, at_, ax, l, vc, c, rfl, r1, hc, hin, hlen, fun H1 sm1 => ?_⟩)
    have hno := fun (m : List (Oc.C × Oc.C)) (hm : PsOk at_ m) => normal_bits (c := c) (d := d) k1.ok.g r1.xa hm.i hin hind
    have e0 : Oc07.normally ax l c d = Oc.under (Oc07.book ax l).1 (.and c (Oc07.all_ ((Oc07.book ax l).2.getD (Oc07.rankOf (Oc07.book ax l) c) []))) d := rfl
    rw [e0] at q
    generalize hrk : Oc07.rankOf (Oc07.book ax l) c = k at *
    have hlv := r1.lv
    generalize hbk : Oc07.book ax l = bk at *
    have el := pr_len h4
    dsimp only
    refine p_seq (p_asg (p_ifeG (fun x H' => Same H H' ∧ ∃ b ws m, x = .ref b ∧ bk.2.getD k [] = m ∧ PsOk at_ m ∧ H' b = some (.lst ws) ∧ Paired (Pr H') ws m) ?_ (fun go => ?_)))
    · rintro x H2 ⟨sm, b, ws, m, rfl, hm, hok, hb, hps⟩
      rw [hm] at q
      refine ⟨_, rfl, r, CR, dx, _, _, rfl, sm _ _ h2, TR.cl, TR.n_possible, rfl, _, rfl, r, CR, dx, _, _, rfl, sm _ _ h2, TR.cl, TR.n_kinds, rfl, a, dk, fk, rfl, sm _ _ g1, g2.m_having, _, rfl, a, at_, vc, c, rfl, k1.k0.same sm, hc.same sm, hin, hlen, fun H3 sm3 => r_and ?_⟩
      have sm4 := sm.trans sm3
      refine ⟨_, rfl, r, CR, dx, _, _, rfl, sm4 _ _ h2, TR.cl, TR.n_kinds, rfl, a, dk, fk, rfl, sm4 _ _ g1, g2.m_satisfying, _, rfl, a, b, at_, ws, m, rfl, k1.k0.same sm4, SqL.of (sm3 _ _ hb), pr_mono hps (fun _ _ => Pr.same sm3), hok, fun H5 sm5 => r_and ?_⟩
      have sm6 := sm4.trans sm5
      rw [show vl at_ c = bits (tn at_) fun t => Oc.holds at_ t c from rfl, bits_and, bits_and]
      refine ⟨_, rfl, r, dx, _, rfl, sm6 _ _ h2, rfl, _, rfl, _, rfl, r, at_, ax, l, _, vd, d, rfl, r1.same sm6, hd.same sm6, hind, hlend, fun H7 sm7 => ?_⟩
      have e := hno m hok
      rw [e] at q
      exact q H7 (sm6.trans sm7)
    · refine ⟨_, rfl, _, rfl, r, CR, dx, _, _, rfl, sm1 _ _ h2, TR.cl, TR.n_levels, rfl, p, lv, rfl, .inl (SqL.of (sm1 _ _ h3)), _, _, rfl, rfl, _, rfl, ?_⟩
      rw [el]
      by_cases hk : k < bk.2.length
      · refine if_t (dec_t (by omega)) ?_
        obtain ⟨m, hm⟩ : ∃ m, bk.2[k]? = some m := ⟨_, List.getElem?_eq_getElem hk⟩
        obtain ⟨v, hv⟩ : ∃ v, lv[k]? = some v := ⟨_, List.getElem?_eq_getElem (by rw [el]; exact hk)⟩
        obtain ⟨m', hm', b, ws, rfl, hb, hps⟩ := pr_get h4 hv
        rw [hm] at hm'
        have := Option.some.inj hm'
        subst this
        refine ⟨_, rfl, r, CR, dx, _, _, rfl, sm1 _ _ h2, TR.cl, TR.n_levels, rfl, _, rfl, ixL_of (v := .ref b) (SqL.of (sm1 _ _ h3)) (atI_nat hv) ?_⟩
        refine go _ _ ⟨sm1, b, ws, m, rfl, ?_, hlv m (List.mem_of_getElem? hm), sm1 _ _ hb, pr_mono hps fun _ _ => Pr.same sm1⟩
        rw [List.getD_eq_getElem?_getD, hm]
        rfl
      · refine if_f (dec_f (by omega)) ?_
        refine ⟨by show 0 ≤ sizeLine; decide, fun b nb => ?_⟩
        refine go _ _ ⟨sm1.trans (same_new nb), b, [], [], rfl, ?_, psok_nil at_, upd_same, .nil⟩
        rw [List.getD_eq_getElem?_getD, List.getElem?_eq_none (by omega)]
        rfl
end
end Py

namespace Py
open PySem PySem.Spec PyProof.Rows L2 Ex
theorem u65 {k : Nat} {A : Around} (hr : Room k A) : A.units + 65 < cLine := by
  have := hr.un
  omega
theorem pr_snoc {α β : Type} {F : α → β → Prop} : ∀ {m : List β} {y : β} {l : List α}, Paired F l (m ++ [y]) → ∃ l' x, l = l' ++ [x] ∧ Paired F l' m ∧ F x y
  | [], y, _, .cons h .nil => ⟨[], _, rfl, .nil, h⟩
  | z :: m, y, _, .cons (a := a) h1 h2 => by
    obtain ⟨l', x, rfl, p, h⟩ := pr_snoc h2
    exact ⟨a :: l', x, rfl, .cons h1 p, h⟩
theorem rk_split (ax : List Oc.Axiom) (l : List Oc07.Rule) : rk ax l = (rk ax l).dropLast ++ [lastOf ax l] := by
  unfold lastOf
  have hne := rk_ne ax l
  rw [List.getLast?_eq_some_getLast hne]
  exact (List.dropLast_concat_getLast hne).symm
theorem cut_last {xs : List V} {v : V} : cutV (xs ++ [v]) none (some (-1)) = xs := by
  unfold cutV
  have e : HT.sIx (xs ++ [v]).length (xs ++ [v]).length (some (-1)) = xs.length := by
    unfold HT.sIx
    simp only [List.length_append, List.length_singleton]
    rw [if_pos (by decide)]
    omega
  rw [HT.sIx_none, e, List.drop_zero, Nat.sub_zero, List.take_left]
theorem bot_next {m : List Oc07.Rule} {i : Nat} {c : Oc07.Rule} (h : m[i]? = some c) : botAx (m.take (i + 1)) = botAx (m.take i) ++ [(c.1, Oc.C.bot)] := by
  unfold botAx
  rw [take_more h, List.map_append]
  rfl
theorem pr_app {α β : Type} {F : α → β → Prop} : ∀ {l : List α} {m : List β} {l' : List α} {m' : List β}, Paired F l m → Paired F l' m' → Paired F (l ++ l') (m ++ m')
  | _, _, _, _, .nil, h => h
  | _, _, _, _, .cons h1 h2, h => .cons h1 (pr_app h2 h)
theorem PsOk.app {at_ : List Oc.C} {l m : List (Oc.C × Oc.C)} (h : PsOk at_ l) (k : PsOk at_ m) : PsOk at_ (l ++ m) where
  i := fun a ha => (List.mem_append.mp ha).elim (h.i a) (k.i a)
  n := fun a ha => (List.mem_append.mp ha).elim (h.n a) (k.n a)
theorem PsOk.bot {at_ : List Oc.C} {l : List (Oc.C × Oc.C)} (h : PsOk at_ l) : PsOk at_ (botAx l) where
  i := fun a ha => by
    obtain ⟨x, hx, rfl⟩ := List.mem_map.mp ha
    exact ⟨(h.i x hx).1, in_bot⟩
  n := fun a ha => by
    obtain ⟨x, hx, rfl⟩ := List.mem_map.mp ha
    exact ⟨(h.n x hx).1, by show 1 ≤ 10000; decide⟩
section
variable {P : Program} {w : World} {K : PySem.W.Frag} {mg : Str → Option Value} {base : Heap} {aP aH CK CR : Addr}
/-! ### Ranking -/
abbrev s_Ranking___init__ : Stmt := inClass (topS 25) 0
theorem sc_Ranking___init__ : FnScope ["self", "kinds", "axioms", "rules", "levels", "endless", "rule"] ["self", "kinds", "axioms", "rules"] (defScope s_Ranking___init__) := ⟨rfl, rfl, rfl, by decide +kernel, rfl, by decide +kernel, by decide +kernel⟩
def sp_Ranking (CK CR : Addr) : Sp := fun vs H Q _ => ∃ (r a x b dx : Addr) (at_ : List Oc.C) (axs ws : List V) (ax l : List (Oc.C × Oc.C)), vs = [.ref r, .ref a, .ref x, .ref b] ∧ H r = some (.ins CR dx []) ∧ K1 CK H a at_ ∧ H x = some (.lst axs) ∧ Paired (Pr H) axs ax ∧ H b = some (.lst ws) ∧ Paired (Pr H) ws l ∧
  PsOk at_ ax ∧ PsOk at_ l ∧ ax.length ≤ 100 ∧ l.length ≤ 100 ∧ ∀ H', SameBut r H H' → R1 CK CR H' r at_ ax l → Q .non H'
/-- the state of the repetition -/
def RInv (CK CR : Addr) (H : Hp) (r a dx : Addr) (at_ : List Oc.C) (ax0 l0 : List (Oc.C × Oc.C)) (x b p : Addr) (ax l : List (Oc.C × Oc.C)) (H' : Hp) : Prop :=
  SameBut r H H' ∧ K1 CK H' a at_ ∧ H' r = some (.ins CR dx (fr2 a (bits (tn at_) (tm at_ ax)))) ∧ (∃ axs, H' x = some (.lst axs) ∧ Paired (Pr H') axs ax) ∧ (∃ ws, H' b = some (.lst ws) ∧ Paired (Pr H') ws l) ∧
  (∃ lv, H' p = some (.lst lv) ∧ Paired (Lv H') lv (rk ax l)) ∧ Toward (Oc07.ranked (l0.length + 1) ax0 l0) ax l ∧ PsOk at_ ax ∧ PsOk at_ l ∧ ax.length + 100 * l.length ≤ 10100 ∧ l.length ≤ 100
theorem ok_Ranking {f : Addr} {fd : FuncData} (F : Fun K "__init__" "Ranking.__init__" s_Ranking___init__ f fd) (T : Txt K mg aP aH) (TK : KTx K CK) (TR : RTx K CR)
    (C_Kinds_occurring : Met P w K mg base 7 CK "occurring" (sp_occurring K CK)) (C_narrowed : Cal P w K mg base 8 "narrowed" (sp_narrowed K CK)) : FnOk P w K mg base CX0 9 f fd ["self", "kinds", "axioms", "rules"] (sp_Ranking CK CR) := by
  refine F.ok sc_Ranking___init__ (fun vs H Q E h => ?_) (fun cdv A outer s H vs Q E hr h => ?_)
  · obtain ⟨r, a, x, b, dx, at_, axs, ws, ax, l, rfl, _⟩ := h
    rfl
  · refine ⟨_, (pss_cons (ps_fld (pv 0) (pv 1) rfl)
      (pss_cons (ps_fld (pv 0) (pe_mt C_Kinds_occurring hr (by decide) (pv 1) (pa_cons (pv 2) pa_nil)) rfl)
      (pss_cons (ps_set (i := 4) sc_Ranking___init__.nd rfl (Or.inl rfl) (pe_c C_narrowed hr (by decide) rfl (pa_cons (pv 1) (pa_cons (pe_fld (pv 0) rfl) (pa_cons (pv 3) pa_nil)))))
      (pss_cons (ps_while PassesOwn.never (pt_cmpR op_gt (pe_callB call_len_seq (by rfl) T.b_len PySem.boot_len (pa_cons (pe_ix ix_seq (pv 4) (pe_un un_neg pe_int) (fun _ _ => rfl)) pa_nil)) pe_int (nomark _))
        (pss_cons (ps_set (i := 5) sc_Ranking___init__.nd rfl (Or.inr rfl) (pe_ix ix_seq (pv 4) (pe_un un_neg pe_int) (fun _ _ => rfl)))
        (pss_cons (ps_set (i := 2) sc_Ranking___init__.nd rfl (Or.inl rfl) (pe_op op_cat (pv 2) (pe_lc (own := [("rule", 6)]) (g := gName 6) (tt := tYes) rfl sc_Ranking___init__.nd (pi_list (pv 5)) (blkOk_by (N := ["self", "kinds", "axioms", "rules", "levels", "endless", "rule"]) (sc := defScope s_Ranking___init__) (by decide +kernel)) (fun _ _ _ _ _ => pg_name (i := 6) sc_Ranking___init__.nd rfl (Or.inl rfl)) (fun _ _ _ _ _ => pts_nil) (fun _ _ _ _ _ => (pe_tup (pa_cons (pe_ix (ix_seqK (K := K) rfl) (pv 6) pe_int (fun _ _ => rfl)) (pa_cons (pe_tup (pa_cons (pe_gc rfl T.c_NOTHING) pa_nil)) pa_nil)))))))
        (pss_cons (ps_setLc (i := 3) (own := [("rule", 6)]) (g := gName 6)  rfl sc_Ranking___init__.nd rfl rfl (sw_true rfl rfl rfl (by decide +kernel)) (pi_list (pv 3)) (blkOk_by (N := ["self", "kinds", "axioms", "rules", "levels", "endless", "rule"]) (sc := defScope s_Ranking___init__) (by decide +kernel)) (fun _ _ _ _ _ => pg_name (i := 6) sc_Ranking___init__.nd rfl (Or.inl rfl)) (fun _ _ _ _ _ => pts_one (pt_cmpR (op_notInDK (K := K) rfl (u65 hr)) (pv 6) (pv 5) (by rfl))) (fun _ _ _ _ _ => (pv 6)))
        (pss_cons (ps_fld (pv 0) (pe_mt C_Kinds_occurring hr (by decide) (pv 1) (pa_cons (pv 2) pa_nil)) rfl)
        (pss_one (ps_set (i := 4) sc_Ranking___init__.nd rfl (Or.inl rfl) (pe_c C_narrowed hr (by decide) rfl (pa_cons (pv 1) (pa_cons (pe_fld (pv 0) rfl) (pa_cons (pv 3) pa_nil)))))))))))
      (pss_one (ps_fld (pv 0) (pe_slice sl_list (pv 4) po_none (po_some (pe_un un_neg pe_int))) rfl)))))), ?_⟩
    obtain ⟨r, a, x, b, dx, at_, axs, ws, ax, l, rfl, hr0, k1, hx, hax, hb, hps, oax, ol, nax, nl, q⟩ := h
    obtain ⟨dk, fk, d, g1, g2, g3⟩ := k1.k0.ex
    have nar : a ≠ r := by
      intro z
      rw [z, hr0] at g1
      have e := HO.ins.inj (Option.some.inj g1)
      have := g2.amount
      rw [← e.2.2] at this
      cases this
    have nins : ∀ {fs : List (Str × V)}, ∀ xs, HO.ins CR dx fs ≠ .tup xs := by
      intro _ _ z
      cases z
    have ninl : ∀ {fs : List (Str × V)}, ∀ xs, HO.ins CR dx fs ≠ .lst xs := by
      intro _ _ z
      cases z
    -- a field store
    have st : ∀ {H1 : Hp} {fs fs' : List (Str × V)}, H1 r = some (.ins CR dx fs) → SameBut r H1 (upd H1 r (.ins CR dx fs')) := fun _ => SameBut.upd fun _ _ e _ => e
    -- self.kinds
    refine ⟨_, rfl, _, rfl, r, CR, dx, [], rfl, hr0, TR.cl, TR.n_kinds, by show 0 < 1000; decide, ?_⟩
    have sb1 := st (fs' := fr1 a) hr0
    have nxr : x ≠ r := by
      intro z
      rw [z, hr0] at hx
      cases hx
    have nbr : b ≠ r := by
      intro z
      rw [z, hr0] at hb
      cases hb
    -- self.possible
    refine ⟨_, rfl, a, dk, fk, rfl, sb1 _ _ g1 nar, g2.m_occurring, _, rfl, a, x, at_, axs, ax, rfl, k1.but sb1 hr0 nar, SqL.of (sb1 _ _ hx nxr), pr_mono hax (fun _ _ h => h.but sb1 hr0 nins), oax, fun H2 sm2 => ?_⟩
    have hr2 : H2 r = some (.ins CR dx (fr1 a)) := sm2 _ _ upd_same
    refine ⟨_, rfl, r, CR, dx, fr1 a, rfl, hr2, TR.cl, TR.n_possible, by show 1 < 1000; decide, ?_⟩
    have sb2 := st (fs' := fr2 a (bits (tn at_) (tm at_ ax))) hr2
    have sb3 : SameBut r H _ := (sb1.trans (SameBut.of sm2)).trans sb2
    have k3 := k1.but sb3 hr0 nar
    have hps3 := pr_mono hps fun _ _ h => Pr.but sb3 hr0 nins h
    -- levels
    refine ⟨_, rfl, _, rfl, r, CR, dx, fr2 a (bits (tn at_) (tm at_ ax)), _, rfl, upd_same, TR.cl, TR.n_possible, rfl, _, rfl, a, b, at_, ws, ax, l, rfl, k3.k0, sb3 _ _ hb nbr, hps3, ol, oax.i, by omega, fun p H4 lv sm4 np hp hlv => ?_⟩
    refine ⟨fun m σ H' => ∃ (x b p : Addr) (ax' l' : List (Oc.C × Oc.C)) (y z : Option V), σ = [some (.ref r), some (.ref a), some (.ref x), some (.ref b), some (.ref p), y, z] ∧ m = l'.length ∧ RInv CK CR H r a dx at_ ax l x b p ax' l' H',
      ⟨_, x, b, p, ax, l, none, none, rfl, rfl, sb3.trans (SameBut.of sm4), k3.same sm4, sm4 _ _ upd_same, ⟨axs, sm4 _ _ (sb3 _ _ hx nxr), pr_mono hax fun _ _ h => (Pr.but sb3 hr0 nins h).same sm4⟩, ⟨ws, sm4 _ _ (sb3 _ _ hb nbr), pr_mono hps3 fun _ _ => Pr.same sm4⟩, ⟨lv, hp, hlv⟩, toward_start ax l, oax, ol, by omega, nl⟩, ?_⟩
    clear sm2 hr2 sb2 sb3 k3 hps3 sm4 np hp hlv lv p H4 sb1
    rintro m σ H' ⟨x', b', p, ax', l', y, z, rfl, rfl, sb, k', hr', ⟨axs', hx', hax'⟩, ⟨ws', hb', hps'⟩, ⟨lv, hp, hlv⟩, tw, oax', ol', hsz, hl100⟩
    rw [rk_split] at hlv
    obtain ⟨lv', zz, rfl, hlv', cb, cws, rfl, hcb, hcp⟩ := pr_snoc hlv
    refine ⟨_, rfl, 1, rfl, ixL_of (v := .ref cb) (SqL.of hp) (atI_last _ _) ⟨cb, cws, rfl, .inl (SqL.of hcb), _, _, rfl, rfl, _, rfl, ?_⟩⟩
    rw [pr_len hcp]
    by_cases c : lastOf ax' l' = []
    · refine if_f (dec_f (by rw [c]; simp)) ?_
      have hbk : Oc07.book ax l = (ax', (rk ax' l').dropLast) := book_of tw c
      refine ⟨_, rfl, 1, rfl, _, rfl, p, _, rfl, SqL.of hp, fun b2 nb2 => ?_⟩
      rw [cut_last]
      have sm := same_new (o := .lst lv') nb2
      refine ⟨_, rfl, r, CR, dx, fr2 a (bits (tn at_) (tm at_ ax')), rfl, sm _ _ hr', TR.cl, TR.n_levels, by show 2 < 1000; decide, ?_⟩
      have sbF := st (fs' := fr3 a (bits (tn at_) (tm at_ ax')) b2) (sm _ _ hr')
      have nb2r : b2 ≠ r := (ne_of_none hr' nb2).symm
      refine q _ ((sb.trans (SameBut.of sm)).trans sbF) ⟨⟨a, dx, b2, lv', (k'.same sm).but sbF (sm _ _ hr') nar, ?_, sbF _ _ upd_same nb2r, ?_⟩, ?_, ?_⟩
      · rw [hbk]
        exact upd_same
      · rw [hbk]
        exact pr_mono hlv' fun _ _ h => (h.same sm).but sbF (sm _ _ hr') nins ninl
      · rw [hbk]
        exact oax'.i
      · rw [hbk]
        intro m hm
        exact ol'.sub fun x hx => (rk_sub l'.length l' (Nat.le_refl _) m (List.dropLast_subset _ hm)).subset hx
    · have c1 : 0 < (lastOf ax' l').length := List.length_pos_iff.mpr c
      refine if_t (dec_t (by omega)) ?_
      refine ⟨fun σ' H'' => ∃ m', m' < l'.length ∧ ∃ (x b p : Addr) (ax' l' : List (Oc.C × Oc.C)) (y z : Option V), σ' = [some (.ref r), some (.ref a), some (.ref x), some (.ref b), some (.ref p), y, z] ∧ m' = l'.length ∧ RInv CK CR H r a dx at_ ax l x b p ax' l' H'', fun _ _ z => z, ?_⟩
      refine ⟨_, rfl, 1, rfl, ixL_of (v := .ref cb) (SqL.of hp) (atI_last _ _) ?_⟩
      have hsub : ∀ x ∈ lastOf ax' l', x ∈ l' := fun x hx => (lastOf_sub ax' l').subset hx
      have nle : (lastOf ax' l').length ≤ l'.length := (lastOf_sub ax' l').length_le
      have hgo := tw.go c
      have nax' := pr_len hax'
      have ncw := pr_len hcp
      refine ⟨_, rfl, _, rfl, cb, rfl, ⟨_, SqL.of hcb⟩, fun D nD => lc_list (K := K) (a := cb) (xs := cws) (fun i H2 => Same H' H2 ∧ ∃ us, H2 D = some (.lst us) ∧ Paired (Pr H2) us (botAx ((lastOf ax' l').take i)))
        ⟨same_new nD, [], upd_same, .nil⟩ (fun i H2 _ ⟨e, _⟩ => SqL.of (e _ _ hcb)) ?_ ?_⟩
      · rintro i v H2 hi ⟨sm2, us, hD, hu⟩
        obtain ⟨cc, hc, pp, v1, v2, rfl, hpp, c1, c2⟩ := pr_get hcp hi
        refine ⟨rfl, ?_⟩
        refine ⟨_, rfl, ixT_of (v := v1) (SqT.of (sm2 _ _ hpp)) (atI_nat (j := 0) rfl) ?_⟩
        refine ⟨by show 1 ≤ sizeLine; decide, fun t1 n1 => ?_⟩
        refine ⟨by show 2 ≤ sizeLine; decide, fun t2 n2 => ?_⟩
        have sm3 := (same_new (o := .tup [.int 1]) n1).trans (same_new (o := .tup [v1, .ref t1]) n2)
        have hD3 := sm3 _ _ hD
        have sbD : SameBut D _ (upd (upd (upd H2 t1 (.tup [.int 1])) t2 (.tup [v1, .ref t1])) D (.lst (us ++ [.ref t2]))) := SameBut.upd fun _ _ e _ => e
        have nlt : ∀ xs, HO.lst us ≠ .tup xs := by
          intro _ z
          cases z
        have hul := pr_len hu
        unfold botAx at hul
        rw [List.length_map, List.length_take] at hul
        refine ⟨us, hD3, sz10 (by omega), same_mut (sm2.trans sm3) nD, _, upd_same, ?_⟩
        rw [bot_next hc]
        exact Paired.snoc (pr_mono hu fun _ _ h => (h.same sm3).but sbD hD3 nlt) (Pr.but sbD hD3 nlt ⟨t2, v1, .ref t1, rfl, upd_same, (c1.same sm2).same sm3, ⟨trivial, t1, rfl, same_new n2 _ _ upd_same⟩⟩)
      · rintro H2 ⟨sm2, us, hD, hu⟩
        rw [pr_len hcp, List.take_length] at hu
        have hul := pr_len hu
        unfold botAx at hul
        rw [List.length_map] at hul
        refine ⟨x', D, axs', us, rfl, rfl, sm2 _ _ hx', hD, Nat.le_of_lt (sz10 (by omega)), fun x2 nx2 => ?_⟩
        have hx3 : L2.upd H2 x2 (.lst (axs' ++ us)) x2 = some (.lst (axs' ++ us)) := upd_same
        have sm3 := sm2.trans (same_new (o := .lst (axs' ++ us)) nx2)
        have hax3 := pr_app (pr_mono hax' fun _ _ => Pr.same sm3) (pr_mono hu fun _ _ => Pr.same (same_new (o := .lst (axs' ++ us)) nx2))
        generalize hH3 : L2.upd H2 x2 (.lst (axs' ++ us)) = H3 at *
        clear hH3 nx2 hul hu hD
        refine ⟨_, rfl, b', rfl, ⟨_, SqL.of (sm3 _ _ hb')⟩, fun D2 nD2 => lc_list (K := K) (a := b') (xs := ws') (fun i H4 => Same H3 H4 ∧ ∃ us2, H4 D2 = some (.lst us2) ∧ Paired (Pr H3) us2 ((l'.take i).filter fun x => !(lastOf ax' l').contains x))
          ⟨same_new nD2, [], upd_same, .nil⟩ (fun i H4 _ ⟨e, _⟩ => SqL.of (e _ _ (sm3 _ _ hb'))) ?_ ?_⟩
        · rintro i v H4 hi ⟨sm4, us2, hD2, hu2⟩
          obtain ⟨cc, hc, hpr⟩ := pr_get hps' hi
          have sm5 := sm3.trans sm4
          refine ⟨rfl, ?_⟩
          refine ⟨_, rfl, _, rfl, pd cc, (lastOf ax' l').map pd, (hpr.same sm5).Dp, .lst (SqL.of (sm5 _ _ hcb)) (prs_Dp (pr_mono hcp fun _ _ => Pr.same sm5)), pd_shaped cc, pds_shaped _, _, rfl, ?_⟩
          rw [pd_any (prs_wf2 hcp) hpr.wf2]
          have hu2l := pr_len hu2
          have hfl := List.length_filter_le (fun x : Oc.C × Oc.C => !(lastOf ax' l').contains x) (l'.take i)
          rw [List.length_take] at hfl
          cases hs : (!(lastOf ax' l').contains cc) with
          | true =>
            refine if_t rfl ?_
            refine ⟨_, rfl, us2, hD2, sz10 (by omega), same_mut sm4 nD2, _, upd_same, ?_⟩
            rw [fil_yes (p := fun x : Oc.C × Oc.C => !(lastOf ax' l').contains x) hc hs]
            exact Paired.snoc hu2 (hpr.same sm3)
          | false =>
            refine if_f rfl ?_
            refine ⟨sm4, us2, hD2, ?_⟩
            rw [fil_no (p := fun x : Oc.C × Oc.C => !(lastOf ax' l').contains x) hc hs]
            exact hu2
        · rintro H4 ⟨sm4, us2, hD2, hu2⟩
          rw [pr_len hps', List.take_length] at hu2
          have hu2 : Paired (Pr H3) us2 (outOf (lastOf ax' l') l') := hu2
          have sm5 := sm3.trans sm4
          have k5 := k'.same sm5
          have oax2 : PsOk at_ (ax' ++ botAx (lastOf ax' l')) := oax'.app (ol'.sub hsub).bot
          have ol2 : PsOk at_ (outOf (lastOf ax' l') l') := ol'.sub fun x hx => (List.mem_filter.mp hx).1
          obtain ⟨dk', fk', d', g1', g2', g3'⟩ := k5.k0.ex
          refine ⟨_, rfl, a, dk', fk', rfl, g1', g2'.m_occurring, _, rfl, a, x2, at_, _, ax' ++ botAx (lastOf ax' l'), rfl, k5, SqL.of (sm4 _ _ hx3), pr_mono hax3 (fun _ _ => Pr.same sm4), oax2, fun H5 sm6 => ?_⟩
          have hr5 := sm6 _ _ (sm5 _ _ hr')
          refine ⟨_, rfl, r, CR, dx, fr2 a (bits (tn at_) (tm at_ ax')), rfl, hr5, TR.cl, TR.n_possible, by show 2 < 1000; decide, ?_⟩
          have sb6 := st (fs' := fr2 a (bits (tn at_) (tm at_ (ax' ++ botAx (lastOf ax' l'))))) hr5
          have k6 := (k5.same sm6).but sb6 hr5 nar
          have nD2r : D2 ≠ r := (ne_of_none (sm3 _ _ hr') nD2).symm
          have nx2r : x2 ≠ r := by
            intro z
            rw [z, sm3 _ _ hr'] at hx3
            cases hx3
          have hD6 := sb6 _ _ (sm6 _ _ hD2) nD2r
          have hu6 := pr_mono hu2 fun _ _ h => Pr.but sb6 hr5 nins ((h.same sm4).same sm6)
          have hx6 := sb6 _ _ (sm6 _ _ (sm4 _ _ hx3)) nx2r
          have hax6 := pr_mono hax3 fun _ _ h => Pr.but sb6 hr5 nins ((h.same sm4).same sm6)
          refine ⟨_, rfl, _, rfl, r, CR, dx, fr2 a (bits (tn at_) (tm at_ (ax' ++ botAx (lastOf ax' l')))), _, rfl, upd_same, TR.cl, TR.n_possible, rfl, _, rfl, a, D2, at_, us2, ax' ++ botAx (lastOf ax' l'), outOf (lastOf ax' l') l', rfl, k6.k0, hD6, hu6, ol2, oax2.i, by have := hgo.2; omega, fun p2 H7 lv2 sm7 np2 hp2 hlv2 => ?_⟩
          refine ⟨(outOf (lastOf ax' l') l').length, hgo.2, x2, D2, p2, ax' ++ botAx (lastOf ax' l'), outOf (lastOf ax' l') l', _, _, rfl, rfl, ((sb.trans (SameBut.of (sm5.trans sm6))).trans sb6).trans (SameBut.of sm7), k6.same sm7, sm7 _ _ upd_same, ⟨_, sm7 _ _ hx6, pr_mono hax6 fun _ _ => Pr.same sm7⟩, ⟨_, sm7 _ _ hD6, pr_mono hu6 fun _ _ => Pr.same sm7⟩, ⟨lv2, hp2, hlv2⟩, hgo.1, oax2, ol2, ?_, ?_⟩
          · have := hgo.2
            unfold botAx
            rw [List.length_append, List.length_map]
            omega
          · have := hgo.2
            omega
/-! ### ranks_with -/
abbrev s_Ranking_ranks_with : Stmt := inClass (topS 25) 1
theorem sc_Ranking_ranks_with : FnScope ["self", "rule", "rules"] ["self", "rule"] (defScope s_Ranking_ranks_with) := ⟨rfl, rfl, rfl, by decide +kernel, rfl, by decide +kernel, by decide +kernel⟩
def sp_ranks_with (CK CR : Addr) : Sp := fun vs H Q _ => ∃ (r : Addr) (at_ : List Oc.C) (ax l : List (Oc.C × Oc.C)) (v : V) (x : Oc.C × Oc.C), vs = [.ref r, v] ∧ R1 CK CR H r at_ ax l ∧ Pr H v x ∧ l.length ≤ 100 ∧
  ∀ H', Same H H' → Q (.int (inRanks (Oc07.book ax l).2 x : Nat)) H'
theorem ok_ranks_with {f : Addr} {fd : FuncData} (F : Fun K "ranks_with" "Ranking.ranks_with" s_Ranking_ranks_with f fd) (T : Txt K mg aP aH) (TR : RTx K CR) : FnOk P w K mg base CX0 1 f fd ["self", "rule"] (sp_ranks_with CK CR) := by
  refine F.ok sc_Ranking_ranks_with (fun vs H Q E h => ?_) (fun cdv A outer s H vs Q E hr h => ?_)
  · obtain ⟨r, at_, ax, l, v, x, rfl, _⟩ := h
    rfl
  · refine ⟨_, (pss_one (ps_ret (pe_callB call_len_seq (by rfl) T.b_len PySem.boot_len (pa_cons (pe_lc (own := [("rules", 2)]) (g := gName 2)  rfl sc_Ranking_ranks_with.nd (pi_list (pe_fld (pv 0) rfl)) (blkOk_by (N := ["self", "rule", "rules"]) (sc := defScope s_Ranking_ranks_with) (by decide +kernel)) (fun _ _ _ _ _ => pg_name (i := 2) sc_Ranking_ranks_with.nd rfl (Or.inl rfl)) (fun _ _ _ _ _ => pts_one (pt_cmpR (op_inDK (K := K) rfl (u65 hr)) (pv 1) (pv 2) (by rfl))) (fun _ _ _ _ _ => (pv 2))) pa_nil)))), ?_⟩
    obtain ⟨r, at_, ax, l, v, x, rfl, r1, hx, hl, q⟩ := h
    obtain ⟨a, dx, p, lv, k1, h2, h3, h4⟩ := r1.ex
    have hbl := book_len ax l
    unfold inRanks at q
    generalize hbk : (Oc07.book ax l).2 = bk at *
    have el := pr_len h4
    refine ⟨_, rfl, r, CR, dx, _, _, rfl, h2, TR.cl, TR.n_levels, rfl, p, rfl, ⟨_, SqL.of h3⟩, fun D nD => lc_list (K := K) (a := p) (xs := lv) (fun i H2 => Same H H2 ∧ ∃ us, H2 D = some (.lst us) ∧ us.length = ((bk.take i).filter fun m => m.contains x).length)
      ⟨same_new nD, [], upd_same, rfl⟩ (fun i H2 _ ⟨e, _⟩ => SqL.of (e _ _ h3)) ?_ ?_⟩
    · rintro i v2 H2 hi ⟨sm2, us, hD, hu⟩
      obtain ⟨m, hm, b, ws, rfl, hb, hps⟩ := pr_get h4 hi
      refine ⟨rfl, ?_⟩
      refine ⟨_, rfl, _, rfl, pd x, m.map pd, (hx.same sm2).Dp, .lst (SqL.of (sm2 _ _ hb)) (prs_Dp (pr_mono hps fun _ _ => Pr.same sm2)), pd_shaped x, pds_shaped _, _, rfl, ?_⟩
      rw [pd_any (prs_wf2 hps) hx.wf2]
      have hfl : us.length ≤ bk.length := by
        rw [hu]
        exact Nat.le_trans (List.length_filter_le _ _) (by rw [List.length_take]; omega)
      cases hs : m.contains x with
      | true =>
        refine if_t rfl ?_
        refine ⟨_, rfl, us, hD, sz10 (by omega), same_mut sm2 nD, _, upd_same, ?_⟩
        rw [fil_yes (p := fun m : List (Oc.C × Oc.C) => m.contains x) hm hs, List.length_append, List.length_append, hu]
        rfl
      | false =>
        refine if_f rfl ?_
        refine ⟨sm2, us, hD, ?_⟩
        rw [fil_no (p := fun m : List (Oc.C × Oc.C) => m.contains x) hm hs]
        exact hu
    · rintro H2 ⟨sm2, us, hD, hu⟩
      rw [el, List.take_length] at hu
      refine ⟨D, us, rfl, .inl (SqL.of hD), ?_⟩
      rw [hu]
      exact q H2 sm2
end
end Py

namespace Py
open PySem PySem.Spec PyProof.Rows L2 Ex
/-! ## the service -/
structure STx (K : PySem.W.Frag) (CS : Addr) : Prop where
  cl : Cls K CS
  n_axioms : NoAttr K CS "axioms"
  n_rules : NoAttr K CS "rules"
abbrev fsS (pa pr : Addr) : List (Str × V) := [("axioms", .ref pa), ("rules", .ref pr)]
structure SI (CS : Addr) (H : Hp) (s pa pr : Addr) (h : Oc07.House) : Prop where
  ex : ∃ dx wa wr, H s = some (.ins CS dx (fsS pa pr)) ∧ H pa = some (.lst wa) ∧ Paired (Pr H) wa h.axioms ∧ H pr = some (.lst wr) ∧ Paired (Pr H) wr h.rules
  ne : pa ≠ pr
theorem SI.same {CS : Addr} {H H' : Hp} {s pa pr : Addr} {h : Oc07.House} (e : Same H H') (k : SI CS H s pa pr h) : SI CS H' s pa pr h := by
  obtain ⟨dx, wa, wr, h1, h2, h3, h4, h5⟩ := k.ex
  exact ⟨⟨dx, wa, wr, e _ _ h1, e _ _ h2, pr_mono h3 fun _ _ => Pr.same e, e _ _ h4, pr_mono h5 fun _ _ => Pr.same e⟩, k.ne⟩
theorem pr_map {α β γ : Type} {F : α → β → Prop} {G : α → γ → Prop} {f : β → γ} (k : ∀ a b, F a b → G a (f b)) : ∀ {l : List α} {m : List β}, Paired F l m → Paired G l (m.map f)
  | _, _, .nil => .nil
  | _, _, .cons h1 h2 => .cons (k _ _ h1) (pr_map k h2)
theorem atoms_at {c x : Oc.C} (h : x ∈ c.atoms) : ∃ p, (p, x) ∈ subsAt 0 c := by
  rw [← atoms_subs c 0] at h
  obtain ⟨y, hy, rfl⟩ := List.mem_map.mp h
  exact ⟨y.1, (List.mem_filter.mp hy).1⟩
theorem atoms_len (c : Oc.C) : c.atoms.length ≤ (enc c).length := by
  have h1 := places_len 0 0 (enc c)
  rw [show hgo 0 0 (enc c) = (subsAt 0 c).map (·.1) from places_enc c, List.length_map] at h1
  have h2 := List.length_filter_le (fun x : Nat × Oc.C => isAtom x.2) (subsAt 0 c)
  rw [← atoms_subs c 0, List.length_map]
  omega
theorem flat_len : ∀ {l : List Oc.C}, (∀ c ∈ l, (enc c).length ≤ 30) → (l.flatMap Oc.C.atoms).length ≤ 30 * l.length
  | [], _ => by simp
  | c :: r, h => by
    have ih := flat_len (l := r) fun x hx => h x (by simp [hx])
    have h1 := atoms_len c
    have h2 := h c (by simp)
    rw [List.flatMap_cons, List.length_append, List.length_cons]
    omega
theorem atOk {l : List Oc.C} (w : ∀ c ∈ l, wf c) (n : ∀ c ∈ l, (enc c).length ≤ 30) (h4 : (Oc.atomsOf l).length ≤ 4) : AtOk (Oc.atomsOf l) where
  g := atomsOf_good l
  w := fun x hx => by
    obtain ⟨c, hc, hx⟩ := atomsOf_mem.mp hx
    exact atoms_wf c (w c hc) x hx
  a := fun x hx => by
    obtain ⟨c, hc, hx⟩ := atomsOf_mem.mp hx
    exact atoms_isAtom c x hx
  n := h4
  l := fun x hx => by
    obtain ⟨c, hc, hx⟩ := atomsOf_mem.mp hx
    obtain ⟨p, hp⟩ := atoms_at hx
    have := sub_len (w c hc) hp
    have := n c hc
    omega
/-- the concepts that are spoken of -/
abbrev spk (h : Oc07.House) (g : List Oc.C) : List Oc.C := Oc07.both h ++ g
theorem both_mem {h : Oc07.House} {c : Oc.C} (hc : c ∈ Oc07.both h) : ∃ a, (a ∈ h.axioms ∨ a ∈ h.rules) ∧ (c = a.1 ∨ c = a.2) := by
  obtain ⟨a, ha, hc⟩ := List.mem_flatMap.mp hc
  refine ⟨a, List.mem_append.mp ha, ?_⟩
  simpa using hc
theorem mem_both {h : Oc07.House} {a : Oc.C × Oc.C} (ha : a ∈ h.axioms ∨ a ∈ h.rules) : a.1 ∈ Oc07.both h ∧ a.2 ∈ Oc07.both h :=
  ⟨List.mem_flatMap.mpr ⟨a, List.mem_append.mpr ha, by simp⟩, List.mem_flatMap.mpr ⟨a, List.mem_append.mpr ha, by simp⟩⟩
theorem both_wf {CS : Addr} {H : Hp} {s pa pr : Addr} {h : Oc07.House} (k : SI CS H s pa pr h) : ∀ c ∈ Oc07.both h, wf c := by
  intro c hc
  obtain ⟨dx, wa, wr, h1, h2, h3, h4, h5⟩ := k.ex
  obtain ⟨a, ha, hc⟩ := both_mem hc
  have : wf2 a := ha.elim (prs_wf2 h3 a) (prs_wf2 h5 a)
  rcases hc with rfl | rfl
  · exact this.1
  · exact this.2
theorem hok_lb {h : Oc07.House} (k : HOk h) : ∀ c ∈ Oc07.both h, (enc c).length ≤ 30 := by
  intro c hc
  obtain ⟨a, ha, hc⟩ := both_mem hc
  have := ha.elim (k.la a) (k.lr a)
  rcases hc with rfl | rfl
  · exact this.1
  · exact this.2
theorem both_len (h : Oc07.House) : (Oc07.both h).length = 2 * (h.axioms.length + h.rules.length) := by
  unfold Oc07.both
  rw [← List.length_append]
  generalize h.axioms ++ h.rules = l
  induction l with
  | nil => rfl
  | cons a r ih =>
    rw [List.flatMap_cons, List.length_append, ih, List.length_cons, List.length_cons, List.length_cons, List.length_nil]
    omega
theorem groups_flat (l : List (Oc.C × Oc.C)) (g : List Oc.C) : (l.map (fun a => [a.1, a.2]) ++ [g]).flatten = l.flatMap (fun a => [a.1, a.2]) ++ g := by
  rw [List.flatten_append, List.flatMap_def]
  simp
theorem psok {h : Oc07.House} {g : List Oc.C} {m : List (Oc.C × Oc.C)} (k : HOk h) (hm : ∀ a ∈ m, a ∈ h.axioms ∨ a ∈ h.rules) : PsOk (Oc.atomsOf (spk h g)) m where
  i := fun a ha => by
    have := mem_both (hm a ha)
    exact ⟨atomsOf_in (List.mem_append.mpr (.inl this.1)), atomsOf_in (List.mem_append.mpr (.inl this.2))⟩
  n := fun a ha => by
    have := (hm a ha).elim (k.la a) (k.lr a)
    omega
section
variable {P : Program} {w : World} {K : PySem.W.Frag} {mg : Str → Option Value} {base : Heap} {aP aH CK CR CS : Addr}
/-! ### atoms_with -/
abbrev s_Service_atoms_with : Stmt := inClass (topS 30) 9
theorem sc_Service_atoms_with : FnScope ["self", "concepts"] ["self", "concepts"] (defScope s_Service_atoms_with) := ⟨rfl, rfl, rfl, by decide +kernel, rfl, by decide +kernel, by decide +kernel⟩
def sp_atoms_with (CS : Addr) : Sp := fun vs H Q _ => ∃ (s pa pr : Addr) (h : Oc07.House) (v : V) (g : List Oc.C), vs = [.ref s, v] ∧ SI CS H s pa pr h ∧ HOk h ∧ Gr H v g ∧ (∀ c ∈ g, (enc c).length ≤ 30) ∧ g.length ≤ 2 ∧
  ∀ p H' us, Same H H' → H p = none → H' p = some (.lst us) → Paired (Ct H') us (Oc.atomsOf (spk h g)) → Q (.ref p) H'
theorem ok_atoms_with {f : Addr} {fd : FuncData} (F : Fun K "atoms_with" "Service.atoms_with" s_Service_atoms_with f fd) (T : Txt K mg aP aH) (TS : STx K CS)
    (C_atoms_in : Cal P w K mg base 4 "atoms_in" (sp_atoms_in K)) : FnOk P w K mg base CX0 5 f fd ["self", "concepts"] (sp_atoms_with CS) := by
  refine F.ok sc_Service_atoms_with (fun vs H Q E h => ?_) (fun cdv A outer st H vs Q E hr h => ?_)
  · obtain ⟨s, pa, pr, h, v, g, rfl, _⟩ := h
    rfl
  · refine ⟨_, (pss_one (ps_ret (pe_c C_atoms_in hr (by decide) rfl (pa_cons (pe_op op_cat (pe_op op_cat (pe_fld (pv 0) rfl) (pe_fld (pv 0) rfl)) (pe_lst (pa_cons (pv 1) pa_nil))) pa_nil)))), ?_⟩
    obtain ⟨s, pa, pr, h, v, g, rfl, si, ho, hg, hgl, hgn, q⟩ := h
    obtain ⟨dx, wa, wr, h1, h2, h3, h4, h5⟩ := si.ex
    have ea := pr_len h3
    have er := pr_len h5
    have na := ho.na
    have nr := ho.nr
    refine ⟨_, rfl, s, CS, dx, _, _, rfl, h1, TS.cl, TS.n_axioms, rfl, _, rfl, s, CS, dx, _, _, rfl, h1, TS.cl, TS.n_rules, rfl, pa, pr, wa, wr, rfl, rfl, h2, h4, Nat.le_of_lt (sz10 (by omega)), fun q1 n1 => ?_⟩
    refine ⟨_, rfl, by show 1 ≤ sizeLine; decide, fun q2 n2 => ?_⟩
    refine ⟨q1, q2, wa ++ wr, [v], rfl, rfl, same_new n2 _ _ upd_same, upd_same, Nat.le_of_lt (sz10 (by rw [List.length_append, List.length_singleton]; omega)), fun q3 n3 => ?_⟩
    have sm := ((same_new (o := .lst (wa ++ wr)) n1).trans (same_new (o := .lst [v]) n2)).trans (same_new (o := .lst ((wa ++ wr) ++ [v])) n3)
    have hgs : Paired (Gr H) ((wa ++ wr) ++ [v]) ((h.axioms ++ h.rules).map (fun a => [a.1, a.2]) ++ [g]) := Paired.snoc (pr_map (fun _ _ h => Pr.gr h) (pr_app h3 h5)) hg
    have hfl : ((h.axioms ++ h.rules).map (fun a => [a.1, a.2]) ++ [g]).flatten = spk h g := groups_flat _ _
    have hall : ∀ c ∈ spk h g, (enc c).length ≤ 30 := fun c hc => (List.mem_append.mp hc).elim (hok_lb ho c) (hgl c)
    refine ⟨q3, _, _, rfl, SqL.of upd_same, pr_mono hgs (fun _ _ => Gr.same sm), ?_, ?_, fun p H' us sm2 np hp hu => ?_⟩
    · intro g' hg' c hc
      have : c ∈ spk h g := by
        rw [← hfl]
        exact List.mem_flatten.mpr ⟨g', hg', hc⟩
      have := hall c this
      omega
    · rw [hfl]
      have h1 := flat_len hall
      have h2 := both_len h
      have h3 : (spk h g).length = (Oc07.both h).length + g.length := List.length_append
      omega
    · rw [hfl] at hu
      exact q p H' us (sm.trans sm2) (sm.free np) hp hu
/-! ### has_too_many_atoms -/
abbrev s_Service_has_too_many_atoms : Stmt := inClass (topS 30) 10
theorem sc_Service_has_too_many_atoms : FnScope ["self", "concepts"] ["self", "concepts"] (defScope s_Service_has_too_many_atoms) := ⟨rfl, rfl, rfl, by decide +kernel, rfl, by decide +kernel, by decide +kernel⟩
def sp_has_too_many_atoms (CS : Addr) : Sp := fun vs H Q _ => ∃ (s pa pr : Addr) (h : Oc07.House) (v : V) (g : List Oc.C), vs = [.ref s, v] ∧ SI CS H s pa pr h ∧ HOk h ∧ Gr H v g ∧ (∀ c ∈ g, (enc c).length ≤ 30) ∧ g.length ≤ 2 ∧
  ∀ H', Same H H' → Q (.bl (Oc07.much h g)) H'
theorem ok_has_too_many_atoms {f : Addr} {fd : FuncData} (F : Fun K "has_too_many_atoms" "Service.has_too_many_atoms" s_Service_has_too_many_atoms f fd) (T : Txt K mg aP aH) (TS : STx K CS)
    (C_Service_atoms_with : Met P w K mg base 5 CS "atoms_with" (sp_atoms_with CS)) : FnOk P w K mg base CX0 6 f fd ["self", "concepts"] (sp_has_too_many_atoms CS) := by
  refine F.ok sc_Service_has_too_many_atoms (fun vs H Q E h => ?_) (fun cdv A outer st H vs Q E hr h => ?_)
  · obtain ⟨s, pa, pr, h, v, g, rfl, _⟩ := h
    rfl
  · refine ⟨_, (pss_one (ps_ret (pe_cmpR op_gt (pe_callB call_len_seq (by rfl) T.b_len PySem.boot_len (pa_cons (pe_mt C_Service_atoms_with hr (by decide) (pv 0) (pa_cons (pv 1) pa_nil)) pa_nil)) (pe_gc rfl T.c_MOST_ATOMS) (nomark _)))), ?_⟩
    obtain ⟨s, pa, pr, h, v, g, rfl, si, ho, hg, hgl, hgn, q⟩ := h
    obtain ⟨dx, wa, wr, h1, h2, h3, h4, h5⟩ := si.ex
    refine ⟨_, rfl, s, dx, _, rfl, h1, rfl, _, rfl, s, pa, pr, h, v, g, rfl, si, ho, hg, hgl, hgn, fun p H' us sm np hp hu => ?_⟩
    refine ⟨p, us, rfl, .inl (SqL.of hp), _, _, rfl, rfl, ?_⟩
    have e : decide ((4 : Int) < (us.length : Int)) = Oc07.much h g := by
      have el : us.length = (Oc.atomsOf (Oc07.both h ++ g)).length := pr_len hu
      unfold Oc07.much Oc07.ATOMS
      rw [el, Bool.eq_iff_iff, decide_eq_true_eq, decide_eq_true_eq]
      omega
    have := q H' sm
    rw [← e] at this
    exact this
/-! ### ranking_with -/
abbrev s_Service_ranking_with : Stmt := inClass (topS 30) 11
theorem sc_Service_ranking_with : FnScope ["self", "concepts"] ["self", "concepts"] (defScope s_Service_ranking_with) := ⟨rfl, rfl, rfl, by decide +kernel, rfl, by decide +kernel, by decide +kernel⟩
def sp_ranking_with (CK CR CS : Addr) : Sp := fun vs H Q _ => ∃ (s pa pr : Addr) (h : Oc07.House) (v : V) (g : List Oc.C), vs = [.ref s, v] ∧ SI CS H s pa pr h ∧ HOk h ∧ Gr H v g ∧ (∀ c ∈ g, (enc c).length ≤ 30) ∧ (∀ c ∈ g, wf c) ∧ g.length ≤ 2 ∧ Oc07.much h g = false ∧
  ∀ r H', Same H H' → R1 CK CR H' r (Oc.atomsOf (spk h g)) h.axioms h.rules → Q (.ref r) H'
theorem ok_ranking_with {f : Addr} {fd : FuncData} (F : Fun K "ranking_with" "Service.ranking_with" s_Service_ranking_with f fd) (T : Txt K mg aP aH) (TS : STx K CS)
    (C_Service_atoms_with : Met P w K mg base 5 CS "atoms_with" (sp_atoms_with CS)) (C_Kinds : Mak P w K mg base 7 "Kinds" CK (sp_Kinds CK)) (C_Ranking : Mak P w K mg base 9 "Ranking" CR (sp_Ranking CK CR)) : FnOk P w K mg base CX0 11 f fd ["self", "concepts"] (sp_ranking_with CK CR CS) := by
  refine F.ok sc_Service_ranking_with (fun vs H Q E h => ?_) (fun cdv A outer st H vs Q E hr h => ?_)
  · obtain ⟨s, pa, pr, h, v, g, rfl, _⟩ := h
    rfl
  · refine ⟨_, (pss_one (ps_ret (pe_mk C_Ranking hr (by decide) rfl (pa_cons (pe_mk C_Kinds hr (by decide) rfl (pa_cons (pe_mt C_Service_atoms_with hr (by decide) (pv 0) (pa_cons (pv 1) pa_nil)) pa_nil)) (pa_cons (pe_fld (pv 0) rfl) (pa_cons (pe_fld (pv 0) rfl) pa_nil)))))), ?_⟩
    obtain ⟨s, pa, pr, h, v, g, rfl, si, ho, hg, hgl, hgw, hgn, hmu, q⟩ := h
    obtain ⟨dx, wa, wr, h1, h2, h3, h4, h5⟩ := si.ex
    have h44 : (Oc.atomsOf (spk h g)).length ≤ 4 := by
      have hmu : decide (4 < (Oc.atomsOf (spk h g)).length) = false := hmu
      exact Nat.le_of_not_lt (of_decide_eq_false hmu)
    have hall : ∀ c ∈ spk h g, (enc c).length ≤ 30 := fun c hc => (List.mem_append.mp hc).elim (hok_lb ho c) (hgl c)
    have hwf : ∀ c ∈ spk h g, wf c := fun c hc => (List.mem_append.mp hc).elim (both_wf si c) (hgw c)
    have aok := atOk hwf hall h44
    refine ⟨_, rfl, s, dx, _, rfl, h1, rfl, _, rfl, s, pa, pr, h, v, g, rfl, si, ho, hg, hgl, hgn, fun p H1 us sm1 np hp hu => ?_⟩
    intro a da na nda nad
    have sm2 : Same H1 (L2.upd (L2.upd H1 da (.own a)) a (.ins CK da [])) := fun b o e => by
      rw [upd_ne (ne_of_none e na), upd_ne (ne_of_none e nda)]
      exact e
    refine ⟨a, p, da, _, us, rfl, upd_same, sm2 _ _ hp, pr_mono hu (fun _ _ => Ct.same sm2), aok, fun H3 sb k1 => ⟨rfl, ?_⟩⟩
    have sm3 : Same H H3 := fun b o e => by
      have e1 := sm1 _ _ e
      exact sb _ _ (sm2 _ _ e1) (ne_of_none e1 na)
    have si3 := si.same sm3
    refine ⟨_, rfl, s, CS, dx, _, _, rfl, sm3 _ _ h1, TS.cl, TS.n_axioms, rfl, _, rfl, s, CS, dx, _, _, rfl, sm3 _ _ h1, TS.cl, TS.n_rules, rfl, ?_⟩
    intro r dr nr ndr nrd
    have sm4 : Same H3 (L2.upd (L2.upd H3 dr (.own r)) r (.ins CR dr [])) := fun b o e => by
      rw [upd_ne (ne_of_none e nr), upd_ne (ne_of_none e ndr)]
      exact e
    have sm5 := sm3.trans sm4
    have hna := ho.na
    have hnr := ho.nr
    refine ⟨r, a, pa, pr, dr, _, wa, wr, h.axioms, h.rules, rfl, upd_same, k1.same sm4, sm5 _ _ h2, pr_mono h3 (fun _ _ => Pr.same sm5), sm5 _ _ h4, pr_mono h5 (fun _ _ => Pr.same sm5), psok ho (fun a ha => .inl ha), psok ho (fun a ha => .inr ha), by omega, by omega, fun H6 sb6 r1 => ⟨rfl, ?_⟩⟩
    refine q r H6 (fun b o e => ?_) r1
    have e3 := sm3 _ _ e
    exact sb6 _ _ (sm4 _ _ e3) (ne_of_none e3 nr)
end
end Py

namespace Py
open PySem PySem.Spec PyProof.Rows L2 Ex
/-! ## the operations -/
def ansV (a : Oc07.Ans) : List V := .int a.v :: a.l.map fun (n : Nat) => V.int (n : Int)
structure After (CS : Addr) (H H' : Hp) (s pa pr p : Addr) (r : Oc07.House × Oc07.Ans) : Prop where
  st : ∃ pa' pr', SI CS H' s pa' pr' r.1 ∧ (pa' = pa ∨ H pa' = none) ∧ (pr' = pr ∨ H pr' = none)
  ok : HOk r.1
  keep : ∀ b o, H b = some o → b ≠ s → b ≠ pa → b ≠ pr → H' b = some o
  new : H p = none
  ans : H' p = some (.lst (ansV r.2))
theorem after_same {CS : Addr} {H H' : Hp} {s pa pr p : Addr} {h : Oc07.House} {a : Oc07.Ans} (sm : Same H H') (si : SI CS H s pa pr h) (ho : HOk h) (np : H p = none) (hp : H' p = some (.lst (ansV a))) : After CS H H' s pa pr p (h, a) :=
  ⟨⟨pa, pr, si.same sm, .inl rfl, .inl rfl⟩, ho, fun b o e _ _ _ => sm _ _ e, np, hp⟩
def sp_op (K : PySem.W.Frag) (CS : Addr) (op : List Nat → Oc07.Call) : Sp := fun vs H Q _ => ∃ (s pa pr b : Addr) (h : Oc07.House) (l : List Nat), vs = [.ref s, .ref b] ∧ SI CS H s pa pr h ∧ HOk h ∧ SqL K H b (nz l) ∧ l.length ≤ 30 ∧
  ∀ p H', After CS H H' s pa pr p (Oc07.step h (op l)) → Q (.ref p) H'
theorem two_lens {l : List Nat} {a : Oc.C × Oc.C} (e : Oc.two l = some a) (h : l.length ≤ 30) : (enc a.1).length ≤ 30 ∧ (enc a.2).length ≤ 30 ∧ wf a.1 ∧ wf a.2 := by
  obtain ⟨w1, w2, e⟩ := two_some e
  have := congrArg List.length e
  rw [List.length_append] at this
  exact ⟨by omega, by omega, w1, w2⟩
section
variable {P : Program} {w : World} {K : PySem.W.Frag} {mg : Str → Option Value} {base : Heap} {aP aH CK CR CS : Addr}
/-! ### line -/
abbrev s_Service_line : Stmt := inClass (topS 30) 2
theorem sc_Service_line : FnScope ["self", "numbers", "pair"] ["self", "numbers"] (defScope s_Service_line) := ⟨rfl, rfl, rfl, by decide +kernel, rfl, by decide +kernel, by decide +kernel⟩
theorem ok_Service_line {f : Addr} {fd : FuncData} (F : Fun K "line" "Service.line" s_Service_line f fd) (T : Txt K mg aP aH) (TS : STx K CS)
    (C_two_concepts : Cal P w K mg base 3 "two_concepts" (sp_two_concepts K)) (C_Service_has_too_many_atoms : Met P w K mg base 6 CS "has_too_many_atoms" (sp_has_too_many_atoms CS)) : FnOk P w K mg base CX0 7 f fd ["self", "numbers"] (sp_op K CS .line) := by
  refine F.ok sc_Service_line (fun vs H Q E h => ?_) (fun cdv A outer st H vs Q E hr h => ?_)
  · obtain ⟨s, pa, pr, b, h, l, rfl, _⟩ := h
    rfl
  · refine ⟨_, (pss_cons (ps_set (i := 2) sc_Service_line.nd rfl (Or.inl rfl) (pe_c C_two_concepts hr (by decide) rfl (pa_cons (pv 1) pa_nil)))
      (pss_cons (ps_if (pt_cmpR op_isN (pv 2) pe_non (nomark _))
        (pss_one (ps_ret (pe_lst (pa_cons (pe_un un_neg pe_int) pa_nil))))
        pss_nil)
      (pss_cons (ps_if (PW.pt (pw_or (pt_cmpR op_eq (pe_callB call_len_seq (by rfl) T.b_len PySem.boot_len (pa_cons (pe_fld (pv 0) rfl) pa_nil)) (pe_gc rfl T.c_MOST_AXIOMS) (nomark _)) (pw_or1 (pt_val (pe_mt C_Service_has_too_many_atoms hr (by decide) (pv 0) (pa_cons (pv 2) pa_nil))))))
        (pss_one (ps_ret (pe_lst (pa_cons (pe_un un_neg pe_int) pa_nil))))
        pss_nil)
      (pss_cons (ps_expr (pe_bm PySem.F.plainAttrs_list PySem.F.slot_list_append PySem.F.type_list_append mt_append (pe_fld (pv 0) rfl) (pa_cons (pv 2) pa_nil)))
      (pss_one (ps_ret (pe_lst (pa_cons (pe_op op_sub (pe_callB call_len_seq (by rfl) T.b_len PySem.boot_len (pa_cons (pe_fld (pv 0) rfl) pa_nil)) pe_int) pa_nil)))))))), ?_⟩
    obtain ⟨s, pa, pr, b, h, l, rfl, si, ho, hb, hl30, q⟩ := h
    refine ⟨_, rfl, b, l, rfl, hb, ?_, ?_⟩
    · intro e
      rw [line_none e] at q
      refine ⟨_, rfl, rfl, _, rfl, if_t (dec_t rfl) ?_⟩
      refine ⟨1, rfl, by show 1 ≤ sizeLine; decide, fun p np => ?_⟩
      exact q p _ (after_same (same_new np) si ho np upd_same)
    · intro c e v H1 sm1 hpr
      obtain ⟨l1, l2, w1, w2⟩ := two_lens e hl30
      have hg := hpr.gr
      obtain ⟨t, rfl⟩ : ∃ t, v = .ref t := by
        obtain ⟨t, v1, v2, rfl, _⟩ := hpr
        exact ⟨t, rfl⟩
      have si1 := si.same sm1
      obtain ⟨dx, wa, wr, h1, h2, h3, h4, h5⟩ := si1.ex
      have ea := pr_len h3
      have nsa : s ≠ pa := by
        intro z
        rw [z, h2] at h1
        cases h1
      have nlt : ∀ xs, HO.lst wa ≠ .tup xs := by
        intro _ z
        cases z
      refine ⟨_, rfl, rfl, _, rfl, if_f (dec_f (by intro z; cases z)) ?_⟩
      refine ⟨_, rfl, s, CS, dx, _, _, rfl, h1, TS.cl, TS.n_axioms, rfl, pa, wa, rfl, .inl (SqL.of h2), rfl, _, rfl, ?_⟩
      by_cases c1 : h.axioms.length = 3
      · rw [line_full e (.inl c1)] at q
        refine if_t ((dec_eqN (y := 3)).trans (dec_t (by omega))) (if_t rfl ?_)
        refine ⟨7, rfl, by show 1 ≤ sizeLine; decide, fun p np => ?_⟩
        exact q p _ (after_same (sm1.trans (same_new np)) si ho (sm1.free np) upd_same)
      · refine if_f ((dec_eqN (y := 3)).trans (dec_f (by omega))) ?_
        refine ⟨_, rfl, s, dx, _, rfl, h1, rfl, _, rfl, s, pa, pr, h, .ref t, [c.1, c.2], rfl, si1, ho, hg, ?_, by show 2 ≤ 2; decide, fun H2 sm2 => ⟨_, rfl, ?_⟩⟩
        · intro x hx
          have : x = c.1 ∨ x = c.2 := by simpa using hx
          rcases this with rfl | rfl
          · exact l1
          · exact l2
        cases c2 : Oc07.much h [c.1, c.2] with
        | true =>
          rw [line_full e (.inr c2)] at q
          refine if_t rfl ?_
          refine ⟨7, rfl, by show 1 ≤ sizeLine; decide, fun p np => ?_⟩
          exact q p _ (after_same ((sm1.trans sm2).trans (same_new np)) si ho ((sm1.trans sm2).free np) upd_same)
        | false =>
          rw [line_ok e c1 c2] at q
          refine if_f rfl ?_
          have g2 := sm2 _ _ h2
          have na := ho.na
          refine ⟨_, rfl, s, CS, dx, _, _, rfl, sm2 _ _ h1, TS.cl, TS.n_axioms, rfl, .inl ⟨rfl, _, SqL.of g2⟩, _, rfl, pa, _, _, rfl, rfl, g2, sz10 (by omega), ?_⟩
          have sb : SameBut pa H2 (L2.upd H2 pa (.lst (wa ++ [.ref t]))) := SameBut.upd fun _ _ e _ => e
          refine ⟨_, rfl, s, CS, dx, _, _, rfl, sb _ _ (sm2 _ _ h1) nsa, TS.cl, TS.n_axioms, rfl, pa, _, rfl, .inl (SqL.of upd_same), _, _, rfl, rfl, by show 1 ≤ sizeLine; decide, fun p np => ?_⟩
          have smp := same_new (o := .lst [.int (((wa ++ [V.ref t]).length : Int) - 1)]) np
          have en : ((wa ++ [V.ref t]).length : Int) - 1 = ((h.axioms.length : Nat) : Int) := by
            rw [List.length_append, List.length_singleton, ea]
            omega
          have np2 : H2 p = none := by
            have npa : p ≠ pa := by
              intro z
              rw [z, upd_same] at np
              cases np
            rw [upd_ne npa] at np
            exact np
          refine q p _ ⟨⟨pa, pr, ⟨⟨dx, wa ++ [.ref t], wr, smp _ _ (sb _ _ (sm2 _ _ h1) nsa), smp _ _ upd_same, ?_, smp _ _ (sb _ _ (sm2 _ _ h4) si.ne.symm), ?_⟩, si.ne⟩, .inl rfl, .inl rfl⟩, ok_line ho l1 l2 c1 c2, fun b o eb n1 n2 n3 => smp _ _ (sb _ _ (sm2 _ _ (sm1 _ _ eb)) n2), (sm1.trans sm2).free np2, ?_⟩
          · exact Paired.snoc (pr_mono h3 fun _ _ h => ((h.same sm2).but sb g2 nlt).same smp) (((hpr.same sm2).but sb g2 nlt).same smp)
          · exact pr_mono h5 fun _ _ h => ((h.same sm2).but sb g2 nlt).same smp
          · rw [upd_same]
            show some (HO.lst [V.int (((wa ++ [V.ref t]).length : Int) - 1)]) = some (HO.lst [V.int ((h.axioms.length : Nat) : Int)])
            rw [en]
/-! ### rule -/
abbrev s_Service_rule : Stmt := inClass (topS 30) 3
theorem sc_Service_rule : FnScope ["self", "numbers", "pair"] ["self", "numbers"] (defScope s_Service_rule) := ⟨rfl, rfl, rfl, by decide +kernel, rfl, by decide +kernel, by decide +kernel⟩
theorem ok_Service_rule {f : Addr} {fd : FuncData} (F : Fun K "rule" "Service.rule" s_Service_rule f fd) (T : Txt K mg aP aH) (TS : STx K CS)
    (C_two_concepts : Cal P w K mg base 3 "two_concepts" (sp_two_concepts K)) (C_Service_has_too_many_atoms : Met P w K mg base 6 CS "has_too_many_atoms" (sp_has_too_many_atoms CS)) : FnOk P w K mg base CX0 7 f fd ["self", "numbers"] (sp_op K CS .rule) := by
  refine F.ok sc_Service_rule (fun vs H Q E h => ?_) (fun cdv A outer st H vs Q E hr h => ?_)
  · obtain ⟨s, pa, pr, b, h, l, rfl, _⟩ := h
    rfl
  · refine ⟨_, (pss_cons (ps_set (i := 2) sc_Service_rule.nd rfl (Or.inl rfl) (pe_c C_two_concepts hr (by decide) rfl (pa_cons (pv 1) pa_nil)))
      (pss_cons (ps_if (pt_cmpR op_isN (pv 2) pe_non (nomark _))
        (pss_one (ps_ret (pe_lst (pa_cons (pe_un un_neg pe_int) pa_nil))))
        pss_nil)
      (pss_cons (ps_if (PW.pt (pw_or (pt_cmpR op_eq (pe_callB call_len_seq (by rfl) T.b_len PySem.boot_len (pa_cons (pe_fld (pv 0) rfl) pa_nil)) (pe_gc rfl T.c_MOST_RULES) (nomark _)) (pw_or1 (pt_val (pe_mt C_Service_has_too_many_atoms hr (by decide) (pv 0) (pa_cons (pv 2) pa_nil))))))
        (pss_one (ps_ret (pe_lst (pa_cons (pe_un un_neg pe_int) pa_nil))))
        pss_nil)
      (pss_cons (ps_if (pt_cmpR (op_inD (u65 hr)) (pv 2) (pe_fld (pv 0) rfl) (by rfl))
        (pss_one (ps_ret (pe_lst (pa_cons (pe_un un_neg pe_int) pa_nil))))
        pss_nil)
      (pss_cons (ps_expr (pe_bm PySem.F.plainAttrs_list PySem.F.slot_list_append PySem.F.type_list_append mt_append (pe_fld (pv 0) rfl) (pa_cons (pv 2) pa_nil)))
      (pss_one (ps_ret (pe_lst (pa_cons (pe_op op_sub (pe_callB call_len_seq (by rfl) T.b_len PySem.boot_len (pa_cons (pe_fld (pv 0) rfl) pa_nil)) pe_int) pa_nil))))))))), ?_⟩
    obtain ⟨s, pa, pr, b, h, l, rfl, si, ho, hb, hl30, q⟩ := h
    refine ⟨_, rfl, b, l, rfl, hb, ?_, ?_⟩
    · intro e
      rw [rule_none e] at q
      refine ⟨_, rfl, rfl, _, rfl, if_t (dec_t rfl) ?_⟩
      refine ⟨1, rfl, by show 1 ≤ sizeLine; decide, fun p np => ?_⟩
      exact q p _ (after_same (same_new np) si ho np upd_same)
    · intro c e v H1 sm1 hpr
      obtain ⟨l1, l2, w1, w2⟩ := two_lens e hl30
      have hg := hpr.gr
      obtain ⟨t, rfl⟩ : ∃ t, v = .ref t := by
        obtain ⟨t, v1, v2, rfl, _⟩ := hpr
        exact ⟨t, rfl⟩
      have si1 := si.same sm1
      obtain ⟨dx, wa, wr, h1, h2, h3, h4, h5⟩ := si1.ex
      have ea := pr_len h5
      have nsa : s ≠ pr := by
        intro z
        rw [z, h4] at h1
        cases h1
      have nlt : ∀ xs, HO.lst wr ≠ .tup xs := by
        intro _ z
        cases z
      refine ⟨_, rfl, rfl, _, rfl, if_f (dec_f (by intro z; cases z)) ?_⟩
      refine ⟨_, rfl, s, CS, dx, _, _, rfl, h1, TS.cl, TS.n_rules, rfl, pr, wr, rfl, .inl (SqL.of h4), rfl, _, rfl, ?_⟩
      by_cases c1 : h.rules.length = 4
      · rw [rule_full e (.inl c1)] at q
        refine if_t ((dec_eqN (y := 4)).trans (dec_t (by omega))) (if_t rfl ?_)
        refine ⟨7, rfl, by show 1 ≤ sizeLine; decide, fun p np => ?_⟩
        exact q p _ (after_same (sm1.trans (same_new np)) si ho (sm1.free np) upd_same)
      · refine if_f ((dec_eqN (y := 4)).trans (dec_f (by omega))) ?_
        refine ⟨_, rfl, s, dx, _, rfl, h1, rfl, _, rfl, s, pa, pr, h, .ref t, [c.1, c.2], rfl, si1, ho, hg, ?_, by show 2 ≤ 2; decide, fun H2 sm2 => ⟨_, rfl, ?_⟩⟩
        · intro x hx
          have : x = c.1 ∨ x = c.2 := by simpa using hx
          rcases this with rfl | rfl
          · exact l1
          · exact l2
        cases c2 : Oc07.much h [c.1, c.2] with
        | true =>
          rw [rule_full e (.inr c2)] at q
          refine if_t rfl ?_
          refine ⟨7, rfl, by show 1 ≤ sizeLine; decide, fun p np => ?_⟩
          exact q p _ (after_same ((sm1.trans sm2).trans (same_new np)) si ho ((sm1.trans sm2).free np) upd_same)
        | false =>
          have g2 := sm2 _ _ h4
          have nr := ho.nr
          have hpr2 := hpr.same sm2
          have h52 := pr_mono h5 fun _ _ h => Pr.same sm2 h
          refine if_f rfl ?_
          refine ⟨_, rfl, _, rfl, s, CS, dx, _, _, rfl, sm2 _ _ h1, TS.cl, TS.n_rules, rfl, pd c, h.rules.map pd, hpr2.Dp, .lst (SqL.of g2) (prs_Dp h52), pd_shaped c, pds_shaped _, _, rfl, ?_⟩
          rw [pd_any (prs_wf2 h52) hpr2.wf2]
          cases c3 : h.rules.contains c with
          | true =>
            rw [rule_eq e c1 c2 c3] at q
            refine if_t rfl ?_
            refine ⟨4, rfl, by show 1 ≤ sizeLine; decide, fun p np => ?_⟩
            exact q p _ (after_same ((sm1.trans sm2).trans (same_new np)) si ho ((sm1.trans sm2).free np) upd_same)
          | false =>
            rw [rule_ok e c1 c2 c3] at q
            refine if_f rfl ?_
            refine ⟨_, rfl, s, CS, dx, _, _, rfl, sm2 _ _ h1, TS.cl, TS.n_rules, rfl, .inl ⟨rfl, _, SqL.of g2⟩, _, rfl, pr, _, _, rfl, rfl, g2, sz10 (by omega), ?_⟩
            have sb : SameBut pr H2 (L2.upd H2 pr (.lst (wr ++ [.ref t]))) := SameBut.upd fun _ _ e _ => e
            refine ⟨_, rfl, s, CS, dx, _, _, rfl, sb _ _ (sm2 _ _ h1) nsa, TS.cl, TS.n_rules, rfl, pr, _, rfl, .inl (SqL.of upd_same), _, _, rfl, rfl, by show 1 ≤ sizeLine; decide, fun p np => ?_⟩
            have smp := same_new (o := .lst [.int (((wr ++ [V.ref t]).length : Int) - 1)]) np
            have en : ((wr ++ [V.ref t]).length : Int) - 1 = ((h.rules.length : Nat) : Int) := by
              rw [List.length_append, List.length_singleton, ea]
              omega
            have np2 : H2 p = none := by
              have npa : p ≠ pr := by
                intro z
                rw [z, upd_same] at np
                cases np
              rw [upd_ne npa] at np
              exact np
            refine q p _ ⟨⟨pa, pr, ⟨⟨dx, wa, wr ++ [.ref t], smp _ _ (sb _ _ (sm2 _ _ h1) nsa), smp _ _ (sb _ _ (sm2 _ _ h2) si.ne), ?_, smp _ _ upd_same, ?_⟩, si.ne⟩, .inl rfl, .inl rfl⟩, ok_rule ho l1 l2 c1 c2, fun b o eb n1 n2 n3 => smp _ _ (sb _ _ (sm2 _ _ (sm1 _ _ eb)) n3), (sm1.trans sm2).free np2, ?_⟩
            · exact pr_mono h3 fun _ _ h => ((h.same sm2).but sb g2 nlt).same smp
            · exact Paired.snoc (pr_mono h5 fun _ _ h => ((h.same sm2).but sb g2 nlt).same smp) (((hpr.same sm2).but sb g2 nlt).same smp)
            · rw [upd_same]
              show some (HO.lst [V.int (((wr ++ [V.ref t]).length : Int) - 1)]) = some (HO.lst [V.int ((h.rules.length : Nat) : Int)])
              rw [en]
/-! ### normally -/
abbrev s_Service_normally : Stmt := inClass (topS 30) 4
theorem sc_Service_normally : FnScope ["self", "numbers", "pair"] ["self", "numbers"] (defScope s_Service_normally) := ⟨rfl, rfl, rfl, by decide +kernel, rfl, by decide +kernel, by decide +kernel⟩
theorem ok_Service_normally {f : Addr} {fd : FuncData} (F : Fun K "normally" "Service.normally" s_Service_normally f fd) (T : Txt K mg aP aH) (TS : STx K CS)
    (C_two_concepts : Cal P w K mg base 3 "two_concepts" (sp_two_concepts K)) (C_Service_has_too_many_atoms : Met P w K mg base 6 CS "has_too_many_atoms" (sp_has_too_many_atoms CS))
    (C_Service_ranking_with : Met P w K mg base 11 CS "ranking_with" (sp_ranking_with CK CR CS)) (C_Ranking_normally_holds : Met P w K mg base 8 CR "normally_holds" (sp_normally_holds CK CR)) : FnOk P w K mg base CX0 12 f fd ["self", "numbers"] (sp_op K CS .normally) := by
  refine F.ok sc_Service_normally (fun vs H Q E h => ?_) (fun cdv A outer st H vs Q E hr h => ?_)
  · obtain ⟨s, pa, pr, b, h, l, rfl, _⟩ := h
    rfl
  · refine ⟨_, (pss_cons (ps_set (i := 2) sc_Service_normally.nd rfl (Or.inl rfl) (pe_c C_two_concepts hr (by decide) rfl (pa_cons (pv 1) pa_nil)))
      (pss_cons (ps_if (pt_cmpR op_isN (pv 2) pe_non (nomark _))
        (pss_one (ps_ret (pe_lst (pa_cons (pe_un un_neg pe_int) pa_nil))))
        pss_nil)
      (pss_cons (ps_if (pt_val (pe_mt C_Service_has_too_many_atoms hr (by decide) (pv 0) (pa_cons (pv 2) pa_nil)))
        (pss_one (ps_ret (pe_lst (pa_cons (pe_un un_neg pe_int) pa_nil))))
        pss_nil)
      (pss_one (ps_ret (pe_lst (pa_cons (pe_ifExp (pt_val (pe_mt C_Ranking_normally_holds hr (by decide) (pe_mt C_Service_ranking_with hr (by decide) (pv 0) (pa_cons (pv 2) pa_nil)) (pa_cons (pe_ix ix_seq (pv 2) pe_int (fun _ _ => rfl)) (pa_cons (pe_ix ix_seq (pv 2) pe_int (fun _ _ => rfl)) pa_nil)))) pe_int pe_int) pa_nil))))))), ?_⟩
    obtain ⟨s, pa, pr, b, h, l, rfl, si, ho, hb, hl30, q⟩ := h
    refine ⟨_, rfl, b, l, rfl, hb, ?_, ?_⟩
    · intro e
      rw [normally_none e] at q
      refine ⟨_, rfl, rfl, _, rfl, if_t (dec_t rfl) ?_⟩
      refine ⟨1, rfl, by show 1 ≤ sizeLine; decide, fun p np => ?_⟩
      exact q p _ (after_same (same_new np) si ho np upd_same)
    · intro c e v H1 sm1 hpr
      obtain ⟨l1, l2, w1, w2⟩ := two_lens e hl30
      have hg := hpr.gr
      have hpr' := hpr
      obtain ⟨t, v1, v2, rfl, ht, ct1, ct2⟩ := hpr
      have si1 := si.same sm1
      obtain ⟨dx, wa, wr, h1, h2, h3, h4, h5⟩ := si1.ex
      have hgl : ∀ x ∈ [c.1, c.2], (enc x).length ≤ 30 := by
        intro x hx
        have : x = c.1 ∨ x = c.2 := by simpa using hx
        rcases this with rfl | rfl
        · exact l1
        · exact l2
      have hgw : ∀ x ∈ [c.1, c.2], wf x := by
        intro x hx
        have : x = c.1 ∨ x = c.2 := by simpa using hx
        rcases this with rfl | rfl
        · exact w1
        · exact w2
      refine ⟨_, rfl, rfl, _, rfl, if_f (dec_f (by intro z; cases z)) ?_⟩
      refine ⟨_, rfl, s, dx, _, rfl, h1, rfl, _, rfl, s, pa, pr, h, .ref t, [c.1, c.2], rfl, si1, ho, hg, hgl, by show 2 ≤ 2; decide, fun H2 sm2 => ⟨_, rfl, ?_⟩⟩
      cases c2 : Oc07.much h [c.1, c.2] with
      | true =>
        rw [normally_full e c2] at q
        refine if_t rfl ?_
        refine ⟨7, rfl, by show 1 ≤ sizeLine; decide, fun p np => ?_⟩
        exact q p _ (after_same ((sm1.trans sm2).trans (same_new np)) si ho ((sm1.trans sm2).free np) upd_same)
      | false =>
        rw [normally_ok e c2] at q
        refine if_f rfl ?_
        have sm12 := sm1.trans sm2
        refine ⟨_, rfl, s, dx, _, rfl, sm2 _ _ h1, rfl, _, rfl, s, pa, pr, h, .ref t, [c.1, c.2], rfl, si.same sm12, ho, hg.same sm2, hgl, hgw, by show 2 ≤ 2; decide, c2, fun r H3 sm3 r1 => ?_⟩
        have sm23 := sm2.trans sm3
        obtain ⟨a', dr, pl, lv, k1, hr1, _⟩ := r1.ex
        refine ⟨r, dr, _, rfl, hr1, rfl, _, rfl, ixT_of (v := v1) (SqT.of (sm23 _ _ ht)) (atI_nat (j := 0) rfl) ?_⟩
        refine ⟨_, rfl, ixT_of (v := v2) (SqT.of (sm23 _ _ ht)) (atI_nat (j := 1) rfl) ?_⟩
        refine ⟨r, Oc.atomsOf (spk h [c.1, c.2]), h.axioms, h.rules, v1, v2, c.1, c.2, rfl, r1, ct1.same sm23, atomsOf_in (List.mem_append.mpr (.inr (by simp))), by omega, ct2.same sm23, atomsOf_in (List.mem_append.mpr (.inr (by simp))), by omega, fun H4 sm4 => ⟨_, rfl, ?_⟩⟩
        have sm := sm1.trans (sm23.trans sm4)
        cases hn : Oc07.normally h.axioms h.rules c.1 c.2 with
        | true =>
          rw [hn] at q
          refine if_t rfl ?_
          refine ⟨by show 1 ≤ sizeLine; decide, fun p np => ?_⟩
          exact q p _ (after_same (sm.trans (same_new np)) si ho (sm.free np) upd_same)
        | false =>
          rw [hn] at q
          refine if_f rfl ?_
          refine ⟨by show 1 ≤ sizeLine; decide, fun p np => ?_⟩
          exact q p _ (after_same (sm.trans (same_new np)) si ho (sm.free np) upd_same)
/-! ### always -/
abbrev s_Service_always : Stmt := inClass (topS 30) 5
theorem sc_Service_always : FnScope ["self", "numbers", "pair"] ["self", "numbers"] (defScope s_Service_always) := ⟨rfl, rfl, rfl, by decide +kernel, rfl, by decide +kernel, by decide +kernel⟩
theorem ok_Service_always {f : Addr} {fd : FuncData} (F : Fun K "always" "Service.always" s_Service_always f fd) (T : Txt K mg aP aH) (TS : STx K CS)
    (C_two_concepts : Cal P w K mg base 3 "two_concepts" (sp_two_concepts K)) (C_Service_has_too_many_atoms : Met P w K mg base 6 CS "has_too_many_atoms" (sp_has_too_many_atoms CS))
    (C_Service_ranking_with : Met P w K mg base 11 CS "ranking_with" (sp_ranking_with CK CR CS)) (C_Ranking_always_holds : Met P w K mg base 7 CR "always_holds" (sp_always_holds CK CR)) : FnOk P w K mg base CX0 12 f fd ["self", "numbers"] (sp_op K CS .always) := by
  refine F.ok sc_Service_always (fun vs H Q E h => ?_) (fun cdv A outer st H vs Q E hr h => ?_)
  · obtain ⟨s, pa, pr, b, h, l, rfl, _⟩ := h
    rfl
  · refine ⟨_, (pss_cons (ps_set (i := 2) sc_Service_always.nd rfl (Or.inl rfl) (pe_c C_two_concepts hr (by decide) rfl (pa_cons (pv 1) pa_nil)))
      (pss_cons (ps_if (pt_cmpR op_isN (pv 2) pe_non (nomark _))
        (pss_one (ps_ret (pe_lst (pa_cons (pe_un un_neg pe_int) pa_nil))))
        pss_nil)
      (pss_cons (ps_if (pt_val (pe_mt C_Service_has_too_many_atoms hr (by decide) (pv 0) (pa_cons (pv 2) pa_nil)))
        (pss_one (ps_ret (pe_lst (pa_cons (pe_un un_neg pe_int) pa_nil))))
        pss_nil)
      (pss_one (ps_ret (pe_lst (pa_cons (pe_ifExp (pt_val (pe_mt C_Ranking_always_holds hr (by decide) (pe_mt C_Service_ranking_with hr (by decide) (pv 0) (pa_cons (pv 2) pa_nil)) (pa_cons (pe_ix ix_seq (pv 2) pe_int (fun _ _ => rfl)) (pa_cons (pe_ix ix_seq (pv 2) pe_int (fun _ _ => rfl)) pa_nil)))) pe_int pe_int) pa_nil))))))), ?_⟩
    obtain ⟨s, pa, pr, b, h, l, rfl, si, ho, hb, hl30, q⟩ := h
    refine ⟨_, rfl, b, l, rfl, hb, ?_, ?_⟩
    · intro e
      rw [always_none e] at q
      refine ⟨_, rfl, rfl, _, rfl, if_t (dec_t rfl) ?_⟩
      refine ⟨1, rfl, by show 1 ≤ sizeLine; decide, fun p np => ?_⟩
      exact q p _ (after_same (same_new np) si ho np upd_same)
    · intro c e v H1 sm1 hpr
      obtain ⟨l1, l2, w1, w2⟩ := two_lens e hl30
      have hg := hpr.gr
      have hpr' := hpr
      obtain ⟨t, v1, v2, rfl, ht, ct1, ct2⟩ := hpr
      have si1 := si.same sm1
      obtain ⟨dx, wa, wr, h1, h2, h3, h4, h5⟩ := si1.ex
      have hgl : ∀ x ∈ [c.1, c.2], (enc x).length ≤ 30 := by
        intro x hx
        have : x = c.1 ∨ x = c.2 := by simpa using hx
        rcases this with rfl | rfl
        · exact l1
        · exact l2
      have hgw : ∀ x ∈ [c.1, c.2], wf x := by
        intro x hx
        have : x = c.1 ∨ x = c.2 := by simpa using hx
        rcases this with rfl | rfl
        · exact w1
        · exact w2
      refine ⟨_, rfl, rfl, _, rfl, if_f (dec_f (by intro z; cases z)) ?_⟩
      refine ⟨_, rfl, s, dx, _, rfl, h1, rfl, _, rfl, s, pa, pr, h, .ref t, [c.1, c.2], rfl, si1, ho, hg, hgl, by show 2 ≤ 2; decide, fun H2 sm2 => ⟨_, rfl, ?_⟩⟩
      cases c2 : Oc07.much h [c.1, c.2] with
      | true =>
        rw [always_full e c2] at q
        refine if_t rfl ?_
        refine ⟨7, rfl, by show 1 ≤ sizeLine; decide, fun p np => ?_⟩
        exact q p _ (after_same ((sm1.trans sm2).trans (same_new np)) si ho ((sm1.trans sm2).free np) upd_same)
      | false =>
        rw [always_ok e c2] at q
        refine if_f rfl ?_
        have sm12 := sm1.trans sm2
        refine ⟨_, rfl, s, dx, _, rfl, sm2 _ _ h1, rfl, _, rfl, s, pa, pr, h, .ref t, [c.1, c.2], rfl, si.same sm12, ho, hg.same sm2, hgl, hgw, by show 2 ≤ 2; decide, c2, fun r H3 sm3 r1 => ?_⟩
        have sm23 := sm2.trans sm3
        obtain ⟨a', dr, pl, lv, k1, hr1, _⟩ := r1.ex
        refine ⟨r, dr, _, rfl, hr1, rfl, _, rfl, ixT_of (v := v1) (SqT.of (sm23 _ _ ht)) (atI_nat (j := 0) rfl) ?_⟩
        refine ⟨_, rfl, ixT_of (v := v2) (SqT.of (sm23 _ _ ht)) (atI_nat (j := 1) rfl) ?_⟩
        refine ⟨r, Oc.atomsOf (spk h [c.1, c.2]), h.axioms, h.rules, v1, v2, c.1, c.2, rfl, r1, ct1.same sm23, atomsOf_in (List.mem_append.mpr (.inr (by simp))), by omega, ct2.same sm23, atomsOf_in (List.mem_append.mpr (.inr (by simp))), by omega, fun H4 sm4 => ⟨_, rfl, ?_⟩⟩
        have sm := sm1.trans (sm23.trans sm4)
        cases hn : Oc.under (Oc07.book h.axioms h.rules).1 c.1 c.2 with
        | true =>
          rw [hn] at q
          refine if_t rfl ?_
          refine ⟨by show 1 ≤ sizeLine; decide, fun p np => ?_⟩
          exact q p _ (after_same (sm.trans (same_new np)) si ho (sm.free np) upd_same)
        | false =>
          rw [hn] at q
          refine if_f rfl ?_
          refine ⟨by show 1 ≤ sizeLine; decide, fun p np => ?_⟩
          exact q p _ (after_same (sm.trans (same_new np)) si ho (sm.free np) upd_same)
/-! ### rank -/
abbrev s_Service_rank : Stmt := inClass (topS 30) 6
theorem sc_Service_rank : FnScope ["self", "numbers", "concept", "ranking"] ["self", "numbers"] (defScope s_Service_rank) := ⟨rfl, rfl, rfl, by decide +kernel, rfl, by decide +kernel, by decide +kernel⟩
theorem ok_Service_rank {f : Addr} {fd : FuncData} (F : Fun K "rank" "Service.rank" s_Service_rank f fd) (T : Txt K mg aP aH) (TR : RTx K CR) (TS : STx K CS)
    (C_one_concept : Cal P w K mg base 3 "one_concept" (sp_one_concept K)) (C_Service_has_too_many_atoms : Met P w K mg base 6 CS "has_too_many_atoms" (sp_has_too_many_atoms CS))
    (C_Service_ranking_with : Met P w K mg base 11 CS "ranking_with" (sp_ranking_with CK CR CS)) (C_Ranking_rank_of : Met P w K mg base 7 CR "rank_of" (sp_rank_of CK CR)) : FnOk P w K mg base CX0 12 f fd ["self", "numbers"] (sp_op K CS .rank) := by
  refine F.ok sc_Service_rank (fun vs H Q E h => ?_) (fun cdv A outer st H vs Q E hr h => ?_)
  · obtain ⟨s, pa, pr, b, h, l, rfl, _⟩ := h
    rfl
  · refine ⟨_, (pss_cons (ps_set (i := 2) sc_Service_rank.nd rfl (Or.inl rfl) (pe_c C_one_concept hr (by decide) rfl (pa_cons (pv 1) pa_nil)))
      (pss_cons (ps_if (pt_cmpR op_isN (pv 2) pe_non (nomark _))
        (pss_one (ps_ret (pe_lst (pa_cons (pe_un un_neg pe_int) pa_nil))))
        pss_nil)
      (pss_cons (ps_if (pt_val (pe_mt C_Service_has_too_many_atoms hr (by decide) (pv 0) (pa_cons (pe_tup (pa_cons (pv 2) pa_nil)) pa_nil)))
        (pss_one (ps_ret (pe_lst (pa_cons (pe_un un_neg pe_int) pa_nil))))
        pss_nil)
      (pss_cons (ps_set (i := 3) sc_Service_rank.nd rfl (Or.inl rfl) (pe_mt C_Service_ranking_with hr (by decide) (pv 0) (pa_cons (pe_tup (pa_cons (pv 2) pa_nil)) pa_nil)))
      (pss_one (ps_ret (pe_lst (pa_cons (pe_mt C_Ranking_rank_of hr (by decide) (pv 3) (pa_cons (pv 2) pa_nil)) (pa_cons (pe_callB call_len_seq (by rfl) T.b_len PySem.boot_len (pa_cons (pe_fld (pv 3) rfl) pa_nil)) pa_nil))))))))), ?_⟩
    obtain ⟨s, pa, pr, b, h, l, rfl, si, ho, hb, hl30, q⟩ := h
    refine ⟨_, rfl, b, l, rfl, hb, ?_, ?_⟩
    · intro e
      rw [rank_none e] at q
      refine ⟨_, rfl, rfl, _, rfl, if_t (dec_t rfl) ?_⟩
      refine ⟨1, rfl, by show 1 ≤ sizeLine; decide, fun p np => ?_⟩
      exact q p _ (after_same (same_new np) si ho np upd_same)
    · intro c e v H1 sm1 hct
      have l1 : (enc c).length ≤ 30 := by
        rw [← (concept_some e).2]
        exact hl30
      have w1 := (concept_some e).1
      have hct' := hct
      obtain ⟨_, t, rfl, ht⟩ := hct
      have si1 := si.same sm1
      obtain ⟨dx, wa, wr, h1, h2, h3, h4, h5⟩ := si1.ex
      have hgl : ∀ x ∈ [c], (enc x).length ≤ 30 := by
        intro x hx
        rw [List.mem_singleton.mp hx]
        exact l1
      have hgw : ∀ x ∈ [c], wf x := by
        intro x hx
        rw [List.mem_singleton.mp hx]
        exact w1
      refine ⟨_, rfl, rfl, _, rfl, if_f (dec_f (by intro z; cases z)) ?_⟩
      refine ⟨_, rfl, s, dx, _, rfl, h1, rfl, _, rfl, by show 1 ≤ sizeLine; decide, fun t1 n1 => ?_⟩
      have smt := same_new (o := .tup [.ref t]) n1
      refine ⟨s, pa, pr, h, .ref t1, [c], rfl, si1.same smt, ho, ⟨t1, _, rfl, upd_same, .cons (hct'.same smt) .nil⟩, hgl, by show 1 ≤ 2; decide, fun H2 sm2 => ⟨_, rfl, ?_⟩⟩
      have sm12 := (sm1.trans smt).trans sm2
      have sm02 := smt.trans sm2
      cases c2 : Oc07.much h [c] with
      | true =>
        rw [rank_full e c2] at q
        refine if_t rfl ?_
        refine ⟨7, rfl, by show 1 ≤ sizeLine; decide, fun p np => ?_⟩
        exact q p _ (after_same (sm12.trans (same_new np)) si ho (sm12.free np) upd_same)
      | false =>
        rw [rank_ok e c2] at q
        refine if_f rfl ?_
        refine ⟨_, rfl, s, dx, _, rfl, sm02 _ _ h1, rfl, _, rfl, by show 1 ≤ sizeLine; decide, fun t2 n2 => ?_⟩
        have smt2 := same_new (o := .tup [.ref t]) n2
        have sm3 := sm12.trans smt2
        refine ⟨s, pa, pr, h, .ref t2, [c], rfl, si.same sm3, ho, ⟨t2, _, rfl, upd_same, .cons ((hct'.same sm02).same smt2) .nil⟩, hgl, hgw, by show 1 ≤ 2; decide, c2, fun r H3 sm4 r1 => ?_⟩
        have hct3 := ((hct'.same sm02).same smt2).same sm4
        obtain ⟨a', dr, pl, lv, k1, hr1, hpl, hlv⟩ := r1.ex
        refine ⟨_, rfl, r, dr, _, rfl, hr1, rfl, _, rfl, r, Oc.atomsOf (spk h [c]), h.axioms, h.rules, .ref t, c, rfl, r1, hct3, atomsOf_in (List.mem_append.mpr (.inr (by simp))), by omega, fun H4 sm5 => ?_⟩
        refine ⟨_, rfl, r, CR, dr, _, _, rfl, sm5 _ _ hr1, TR.cl, TR.n_levels, rfl, pl, lv, rfl, .inl (SqL.of (sm5 _ _ hpl)), ?_⟩
        rw [pr_len hlv]
        have sm := (sm3.trans sm4).trans sm5
        refine ⟨by show 2 ≤ sizeLine; decide, fun p np => ?_⟩
        exact q p _ (after_same (sm.trans (same_new np)) si ho (sm.free np) upd_same)
/-! ### ranks -/
abbrev s_Service_ranks : Stmt := inClass (topS 30) 7
theorem sc_Service_ranks : FnScope ["self", "ranking", "rule"] ["self"] (defScope s_Service_ranks) := ⟨rfl, rfl, rfl, by decide +kernel, rfl, by decide +kernel, by decide +kernel⟩
def sp_ranks (CS : Addr) : Sp := fun vs H Q _ => ∃ (s pa pr : Addr) (h : Oc07.House), vs = [.ref s] ∧ SI CS H s pa pr h ∧ HOk h ∧ ∀ p H', After CS H H' s pa pr p (Oc07.step h .ranks) → Q (.ref p) H'
theorem ok_Service_ranks {f : Addr} {fd : FuncData} (F : Fun K "ranks" "Service.ranks" s_Service_ranks f fd) (T : Txt K mg aP aH) (TR : RTx K CR) (TS : STx K CS)
    (C_Service_ranking_with : Met P w K mg base 11 CS "ranking_with" (sp_ranking_with CK CR CS)) (C_Ranking_ranks_with : Met P w K mg base 1 CR "ranks_with" (sp_ranks_with CK CR)) : FnOk P w K mg base CX0 12 f fd ["self"] (sp_ranks CS) := by
  refine F.ok sc_Service_ranks (fun vs H Q E h => ?_) (fun cdv A outer st H vs Q E hr h => ?_)
  · obtain ⟨s, pa, pr, h, rfl, _⟩ := h
    rfl
  · refine ⟨_, (pss_cons (ps_set (i := 1) sc_Service_ranks.nd rfl (Or.inr rfl) (pe_mt C_Service_ranking_with hr (by decide) (pv 0) (pa_cons (pe_tup pa_nil) pa_nil)))
      (pss_one (ps_ret (pe_op op_cat (pe_lst (pa_cons (pe_callB call_len_seq (by rfl) T.b_len PySem.boot_len (pa_cons (pe_fld (pv 1) rfl) pa_nil)) pa_nil)) (pe_lc (own := [("rule", 2)]) (g := gName 2) (tt := tYes) rfl sc_Service_ranks.nd (pi_list (pe_fld (pv 0) rfl)) (blkOk_by (N := ["self", "ranking", "rule"]) (sc := defScope s_Service_ranks) (by decide +kernel)) (fun _ _ _ _ _ => pg_name (i := 2) sc_Service_ranks.nd rfl (Or.inl rfl)) (fun _ _ _ _ _ => pts_nil) (fun _ _ _ _ _ => (pe_mt C_Ranking_ranks_with hr (by decide) (pv 1) (pa_cons (pv 2) pa_nil)))))))), ?_⟩
    obtain ⟨s, pa, pr, h, rfl, si, ho, q⟩ := h
    obtain ⟨dx, wa, wr, h1, h2, h3, h4, h5⟩ := si.ex
    have ea := pr_len h5
    have hnr := ho.nr
    rw [ranks_is h] at q
    refine ⟨_, rfl, s, dx, _, rfl, h1, rfl, by show 0 ≤ sizeLine; decide, fun t1 n1 => ?_⟩
    have sm1 := same_new (o := .tup []) n1
    refine ⟨s, pa, pr, h, .ref t1, [], rfl, si.same sm1, ho, ⟨t1, [], rfl, upd_same, .nil⟩, (fun _ z => by cases z), (fun _ z => by cases z), by show 0 ≤ 2; decide, much_none ho, fun r H3 sm3 r1 => ?_⟩
    have sm13 := sm1.trans sm3
    obtain ⟨a', dr, pl, lv, k1, hr1, hpl, hlv⟩ := r1.ex
    refine ⟨_, rfl, r, CR, dr, _, _, rfl, hr1, TR.cl, TR.n_levels, rfl, pl, lv, rfl, .inl (SqL.of hpl), by show 1 ≤ sizeLine; decide, fun q1 nq1 => ?_⟩
    rw [pr_len hlv]
    generalize hbk : (Oc07.book h.axioms h.rules).2 = bk at *
    have smq := same_new (o := .lst [.int (bk.length : Nat)]) nq1
    have sm4 := sm13.trans smq
    refine ⟨_, rfl, s, CS, dx, _, _, rfl, sm4 _ _ h1, TS.cl, TS.n_rules, rfl, pr, rfl, ⟨_, SqL.of (sm4 _ _ h4)⟩, fun D nD => lc_list (K := K) (a := pr) (xs := wr) (fun i H2 => Same (L2.upd H3 q1 (.lst [.int (bk.length : Nat)])) H2 ∧ H2 D = some (.lst (nz ((h.rules.take i).map fun x => inRanks bk x))))
      ⟨same_new nD, upd_same⟩ (fun i H2 _ ⟨e, _⟩ => SqL.of (e _ _ (sm4 _ _ h4))) ?_ ?_⟩
    · rintro i v H2 hi ⟨sm5, hD⟩
      obtain ⟨x, hx, hp⟩ := pr_get h5 hi
      have smr := smq.trans sm5
      refine ⟨rfl, ?_⟩
      refine ⟨_, rfl, r, dr, _, rfl, smr _ _ hr1, rfl, _, rfl, r, _, h.axioms, h.rules, v, x, rfl, r1.same smr, (hp.same sm4).same sm5, by omega, fun H6 sm6 => ?_⟩
      rw [hbk]
      refine ⟨_, sm6 _ _ hD, sz10 ?_, same_mut (sm5.trans sm6) nD, ?_⟩
      · rw [nz_len, List.length_map, List.length_take]
        omega
      · rw [take_more hx, List.map_append, nz_app]
        exact upd_same
    · rintro H2 ⟨sm5, hD⟩
      rw [ea, List.take_length] at hD
      refine ⟨q1, D, _, _, rfl, rfl, sm5 _ _ upd_same, hD, Nat.le_of_lt (sz10 ?_), fun p np => ?_⟩
      · rw [nz_len, List.length_map, List.length_singleton]
        omega
      · have sm := sm4.trans sm5
        exact q p _ (after_same (sm.trans (same_new np)) si ho (sm.free np) (by rw [upd_same]; unfold ansV nz; rfl))
/-! ### drop -/
theorem pr_erase {α β : Type} {F : α → β → Prop} : ∀ {l : List α} {m : List β}, Paired F l m → ∀ i, Paired F (l.eraseIdx i) (m.eraseIdx i)
  | _, _, .nil, _ => .nil
  | _, _, .cons _ h2, 0 => h2
  | _, _, .cons h1 h2, i + 1 => .cons h1 (pr_erase h2 i)
theorem seq_nat {i n : Nat} (h : i < n) : PySem.seqIndex? (i : Int) n = some i := by
  have e : PySem.seqIndex? (i : Int) n = if (decide (0 ≤ (if (i : Int) < 0 then (i : Int) + n else i)) && decide ((if (i : Int) < 0 then (i : Int) + n else i) < n)) = true then some (if (i : Int) < 0 then (i : Int) + n else i).toNat else none := rfl
  rw [e, if_neg (show ¬ ((i : Int) < 0) by omega), if_pos (by rw [Bool.and_eq_true]; exact ⟨decide_eq_true (by omega), decide_eq_true (by omega)⟩)]
  rfl
abbrev s_Service_drop : Stmt := inClass (topS 30) 8
theorem sc_Service_drop : FnScope ["self", "index"] ["self", "index"] (defScope s_Service_drop) := ⟨rfl, rfl, rfl, by decide +kernel, rfl, by decide +kernel, by decide +kernel⟩
def sp_drop (CS : Addr) : Sp := fun vs H Q _ => ∃ (s pa pr : Addr) (h : Oc07.House) (i : Nat), vs = [.ref s, .int (i : Nat)] ∧ SI CS H s pa pr h ∧ HOk h ∧ ∀ p H', After CS H H' s pa pr p (Oc07.step h (.drop i)) → Q (.ref p) H'
theorem ok_Service_drop {f : Addr} {fd : FuncData} (F : Fun K "drop" "Service.drop" s_Service_drop f fd) (T : Txt K mg aP aH) (TS : STx K CS) : FnOk P w K mg base CX0 1 f fd ["self", "index"] (sp_drop CS) := by
  refine F.ok sc_Service_drop (fun vs H Q E h => ?_) (fun cdv A outer st H vs Q E hr h => ?_)
  · obtain ⟨s, pa, pr, h, i, rfl, _⟩ := h
    rfl
  · refine ⟨_, (pss_cons (ps_if (pt_cmpR op_ge (pv 1) (pe_callB call_len_seq (by rfl) T.b_len PySem.boot_len (pa_cons (pe_fld (pv 0) rfl) pa_nil)) (nomark _))
        (pss_one (ps_ret (pe_lst (pa_cons (pe_un un_neg pe_int) pa_nil))))
        pss_nil)
      (pss_cons (ps_expr (pe_bm PySem.F.plainAttrs_list PySem.F.slot_list_pop PySem.F.type_list_pop mt_popAt (pe_fld (pv 0) rfl) (pa_cons (pv 1) pa_nil)))
      (pss_one (ps_ret (pe_lst (pa_cons (pe_callB call_len_seq (by rfl) T.b_len PySem.boot_len (pa_cons (pe_fld (pv 0) rfl) pa_nil)) pa_nil)))))), ?_⟩
    obtain ⟨s, pa, pr, h, i, rfl, si, ho, q⟩ := h
    obtain ⟨dx, wa, wr, h1, h2, h3, h4, h5⟩ := si.ex
    have ea := pr_len h5
    have hnr := ho.nr
    refine ⟨_, rfl, _, rfl, s, CS, dx, _, _, rfl, h1, TS.cl, TS.n_rules, rfl, pr, wr, rfl, .inl (SqL.of h4), _, _, rfl, rfl, _, rfl, ?_⟩
    by_cases c : h.rules.length ≤ i
    · rw [drop_none c] at q
      refine if_t (dec_t (by omega)) ?_
      refine ⟨2, rfl, by show 1 ≤ sizeLine; decide, fun p np => ?_⟩
      exact q p _ (after_same (same_new np) si ho np upd_same)
    · rw [drop_ok c] at q
      have hok := ok_drop ho i c
      rw [show h.rules.take i ++ h.rules.drop (i + 1) = h.rules.eraseIdx i from (List.eraseIdx_eq_take_drop_succ ..).symm] at q hok
      refine if_f (dec_f (by omega)) ?_
      have hi : i < wr.length := by omega
      have nsr : s ≠ pr := by
        intro z
        rw [z, h4] at h1
        cases h1
      have nlt : ∀ xs, HO.lst wr ≠ .tup xs := by
        intro _ z
        cases z
      refine ⟨_, rfl, s, CS, dx, _, _, rfl, h1, TS.cl, TS.n_rules, rfl, .inl ⟨rfl, _, SqL.of h4⟩, _, rfl, pr, wr, (i : Int), i, wr[i], rfl, rfl, h4, by omega, by omega, seq_nat hi, List.getElem?_eq_getElem hi, ?_⟩
      have sb : SameBut pr H (L2.upd H pr (.lst (wr.eraseIdx i))) := SameBut.upd fun _ _ e _ => e
      refine ⟨_, rfl, s, CS, dx, _, _, rfl, sb _ _ h1 nsr, TS.cl, TS.n_rules, rfl, pr, _, rfl, .inl (SqL.of upd_same), by show 1 ≤ sizeLine; decide, fun p np => ?_⟩
      have en : ((wr.eraseIdx i).length : Int) = ((h.rules.length - 1 : Nat) : Int) := by
        rw [List.length_eraseIdx, if_pos hi, ea]
      have smp := same_new (o := .lst [.int ((wr.eraseIdx i).length : Int)]) np
      have np2 : H p = none := by
        have npa : p ≠ pr := by
          intro z
          rw [z, upd_same] at np
          cases np
        rw [upd_ne npa] at np
        exact np
      refine q p _ ⟨⟨pa, pr, ⟨⟨dx, wa, wr.eraseIdx i, smp _ _ (sb _ _ h1 nsr), smp _ _ (sb _ _ h2 si.ne), ?_, smp _ _ upd_same, ?_⟩, si.ne⟩, .inl rfl, .inl rfl⟩, hok, fun b o eb n1 n2 n3 => smp _ _ (sb _ _ eb n3), np2, ?_⟩
      · exact pr_mono h3 fun _ _ h => (h.but sb h4 nlt).same smp
      · exact pr_erase (pr_mono h5 fun _ _ h => (h.but sb h4 nlt).same smp) i
      · rw [upd_same]
        show some (HO.lst [V.int ((wr.eraseIdx i).length : Int)]) = some (HO.lst [V.int ((h.rules.length - 1 : Nat) : Int)])
        rw [en]
/-! ### begins -/
abbrev s_Service_begins : Stmt := inClass (topS 30) 1
theorem sc_Service_begins : FnScope ["self"] ["self"] (defScope s_Service_begins) := ⟨rfl, rfl, rfl, by decide +kernel, rfl, by decide +kernel, by decide +kernel⟩
def sp_begins (CS : Addr) : Sp := fun vs H Q _ => ∃ (s pa pr : Addr) (h : Oc07.House), vs = [.ref s] ∧ SI CS H s pa pr h ∧ ∀ p H', After CS H H' s pa pr p (Oc07.step h .begins) → Q (.ref p) H'
theorem ok_Service_begins {f : Addr} {fd : FuncData} (F : Fun K "begins" "Service.begins" s_Service_begins f fd) (T : Txt K mg aP aH) (TS : STx K CS) : FnOk P w K mg base CX0 1 f fd ["self"] (sp_begins CS) := by
  refine F.ok sc_Service_begins (fun vs H Q E h => ?_) (fun cdv A outer st H vs Q E hr h => ?_)
  · obtain ⟨s, pa, pr, h, rfl, _⟩ := h
    rfl
  · refine ⟨_, (pss_cons (ps_fld (pv 0) (pe_lst pa_nil) rfl)
      (pss_cons (ps_fld (pv 0) (pe_lst pa_nil) rfl)
      (pss_one (ps_ret (pe_lst (pa_cons pe_int pa_nil)))))), ?_⟩
    obtain ⟨s, pa, pr, h, rfl, si, q⟩ := h
    obtain ⟨dx, wa, wr, h1, h2, h3, h4, h5⟩ := si.ex
    refine ⟨by show 0 ≤ sizeLine; decide, fun a na => ?_⟩
    have sma := same_new (o := .lst []) na
    refine ⟨_, rfl, s, CS, dx, fsS pa pr, rfl, sma _ _ h1, TS.cl, TS.n_axioms, by show 2 < 1000; decide, ?_⟩
    have nas : a ≠ s := (ne_of_none h1 na).symm
    have sb1 : SameBut s H (L2.upd (L2.upd H a (.lst [])) s (.ins CS dx (fsS a pr))) := SameBut.upd (SameBut.of sma)
    refine ⟨by show 0 ≤ sizeLine; decide, fun b nb => ?_⟩
    have nb : L2.upd (L2.upd H a (.lst [])) s (.ins CS dx (fsS a pr)) b = none := nb
    have nbs : b ≠ s := by
      intro z
      rw [z, upd_same] at nb
      cases nb
    rw [upd_ne nbs] at nb
    have nab : a ≠ b := by
      intro z
      rw [← z, upd_same] at nb
      cases nb
    have nb0 := sma.free nb
    refine ⟨_, rfl, s, CS, dx, fsS a pr, rfl, ?_, TS.cl, TS.n_rules, by show 2 < 1000; decide, ?_⟩
    · rw [upd_ne nbs.symm]
      exact upd_same
    refine ⟨by show 1 ≤ sizeLine; decide, fun p np => ?_⟩
    generalize hH5 : L2.upd (L2.upd (L2.upd (L2.upd H a (.lst [])) s (.ins CS dx (putF "axioms" (.ref a) (fsS pa pr)))) b (.lst [])) s (.ins CS dx (putF "rules" (.ref b) (fsS a pr))) = H5 at np
    have e1 : H5 s = some (.ins CS dx (fsS a b)) := by
      rw [← hH5]
      exact upd_same
    have e2 : H5 a = some (.lst []) := by
      rw [← hH5, upd_ne nas, upd_ne nab, upd_ne nas]
      exact upd_same
    have e3 : H5 b = some (.lst []) := by
      rw [← hH5, upd_ne nbs]
      exact upd_same
    have e4 : SameBut s H H5 := by
      rw [← hH5]
      exact SameBut.upd (SameBut.new sb1 nb0)
    clear hH5
    have smp := same_new (o := .lst [.int 0]) np
    have nps : p ≠ s := (ne_of_none e1 np).symm
    refine q p _ ⟨⟨a, b, ⟨⟨dx, [], [], smp _ _ e1, smp _ _ e2, .nil, smp _ _ e3, .nil⟩, nab⟩, .inr na, .inr nb0⟩, ok_init, fun c o ec n1 _ _ => smp _ _ (e4 _ _ ec n1), ?_, upd_same⟩
    cases hp : H p with
    | none => rfl
    | some o =>
      rw [e4 _ _ hp nps] at np
      cases np
/-! ### Service -/
abbrev s_Service___init__ : Stmt := inClass (topS 30) 0
theorem sc_Service___init__ : FnScope ["self"] ["self"] (defScope s_Service___init__) := ⟨rfl, rfl, rfl, by decide +kernel, rfl, by decide +kernel, by decide +kernel⟩
def sp_Service (CS : Addr) : Sp := fun vs H Q _ => ∃ (s dx : Addr), vs = [.ref s] ∧ H s = some (.ins CS dx []) ∧ ∀ H' pa pr, SameBut s H H' → SI CS H' s pa pr Oc07.init → H pa = none → H pr = none → Q .non H'
theorem ok_Service {f : Addr} {fd : FuncData} (F : Fun K "__init__" "Service.__init__" s_Service___init__ f fd) (T : Txt K mg aP aH) (TS : STx K CS) : FnOk P w K mg base CX0 1 f fd ["self"] (sp_Service CS) := by
  refine F.ok sc_Service___init__ (fun vs H Q E h => ?_) (fun cdv A outer st H vs Q E hr h => ?_)
  · obtain ⟨s, dx, rfl, _⟩ := h
    rfl
  · refine ⟨_, (pss_cons (ps_fld (pv 0) (pe_lst pa_nil) rfl)
      (pss_one (ps_fld (pv 0) (pe_lst pa_nil) rfl))), ?_⟩
    obtain ⟨s, dx, rfl, h1, q⟩ := h
    refine ⟨by show 0 ≤ sizeLine; decide, fun a na => ?_⟩
    have sma := same_new (o := .lst []) na
    refine ⟨_, rfl, s, CS, dx, [], rfl, sma _ _ h1, TS.cl, TS.n_axioms, by show 0 < 1000; decide, ?_⟩
    have nas : a ≠ s := (ne_of_none h1 na).symm
    refine ⟨by show 0 ≤ sizeLine; decide, fun b nb => ?_⟩
    have nb : L2.upd (L2.upd H a (.lst [])) s (.ins CS dx [("axioms", .ref a)]) b = none := nb
    have nbs : b ≠ s := by
      intro z
      rw [z, upd_same] at nb
      cases nb
    rw [upd_ne nbs] at nb
    have nab : a ≠ b := by
      intro z
      rw [← z, upd_same] at nb
      cases nb
    have nb0 := sma.free nb
    refine ⟨_, rfl, s, CS, dx, [("axioms", .ref a)], rfl, ?_, TS.cl, TS.n_rules, by show 1 < 1000; decide, ?_⟩
    · rw [upd_ne nbs.symm]
      exact upd_same
    have sb1 : SameBut s H (L2.upd (L2.upd H a (.lst [])) s (.ins CS dx [("axioms", .ref a)])) := SameBut.upd (SameBut.of sma)
    refine q _ a b (SameBut.upd (SameBut.new sb1 nb0)) ⟨⟨dx, [], [], upd_same, ?_, .nil, ?_, .nil⟩, nab⟩ na nb0
    · rw [upd_ne nas, upd_ne nab, upd_ne nas]
      exact upd_same
    · rw [upd_ne nbs]
      exact upd_same
end
end Py

namespace Py
open PySem PySem.Spec PyProof.Rows L2 Ex
/-! ## the calls, one behind another -/
def zs (l : List Int) : List V := l.map V.int
theorem zs_len (l : List Int) : (zs l).length = l.length := List.length_map ..
theorem zs_app (l m : List Int) : zs (l ++ m) = zs l ++ zs m := List.map_append ..
theorem zs_at {l : List Int} {i : Nat} {x : Int} (h : l[i]? = some x) : (zs l)[i]? = some (V.int x) := by simp [zs, h]
theorem cut_zs {l : List Int} {j k : Nat} (h1 : j ≤ k) (h : k ≤ l.length) : cutV (zs l) (some (j : Int)) (some (k : Int)) = zs ((l.drop j).take (k - j)) := by
  unfold cutV
  rw [HT.sIx_nat, HT.sIx_nat, zs_len, Nat.min_eq_left h, Nat.min_eq_left (by omega)]
  unfold zs
  rw [← List.map_drop, ← List.map_take]
theorem zs_nats {r : List Int} (h : ∀ x ∈ r, 0 ≤ x) : zs r = nz (Oc07Neutral.nats r) := by
  have e := nats_ints h
  conv => lhs; rw [← e]
  unfold zs intsOf nz
  rw [List.map_map]
  rfl
theorem out_ans (a : Oc07.Ans) : zs (Oc07Neutral.out a) = ansV a := by
  unfold zs Oc07Neutral.out ansV
  rw [List.map_cons, List.map_map]
  rfl
theorem SI.but {CS l : Addr} {H H' : Hp} {s pa pr : Addr} {h : Oc07.House} {xs : List V} (e : SameBut l H H') (hl : H l = some (.lst xs)) (ns : s ≠ l) (na : pa ≠ l) (nr : pr ≠ l) (k : SI CS H s pa pr h) : SI CS H' s pa pr h := by
  obtain ⟨dx, wa, wr, h1, h2, h3, h4, h5⟩ := k.ex
  have nt : ∀ ys, HO.lst xs ≠ .tup ys := by
    intro _ z
    cases z
  exact ⟨⟨dx, wa, wr, e _ _ h1 ns, e _ _ h2 na, pr_mono h3 fun _ _ h => h.but e hl nt, e _ _ h4 nr, pr_mono h5 fun _ _ h => h.but e hl nt⟩, k.ne⟩
theorem cut_zs_from {l : List Int} {k : Nat} (h : k ≤ l.length) : cutV (zs l) (some (k : Int)) none = zs (l.drop k) := by
  unfold cutV
  rw [HT.sIx_none, HT.sIx_nat, zs_len, Nat.min_eq_left h]
  unfold zs
  rw [← List.map_drop, ← List.map_take, List.take_of_length_le (by rw [List.length_drop]; exact Nat.le_refl _)]
theorem at_drop {l t : List Int} {i : Nat} {x : Int} (h : l.drop i = x :: t) : l[i]? = some x := by
  have := congrArg List.head? h
  rwa [List.head?_drop] at this
theorem tl_drop {l t : List Int} {i : Nat} {x : Int} (h : l.drop i = x :: t) : l.drop (i + 1) = t := by
  have := congrArg List.tail h
  rwa [List.tail_drop] at this
/-- a call by itself -/
theorem ahead_own {l t : List Int} {c : List (List Int)} (h : Ahead l c t) : ∃ cl t', l = cl ++ t ∧ Ahead cl c t' ∧ t' = [] := by
  cases h with
  | begins => exact ⟨[0], [], rfl, .begins [], rfl⟩
  | ranks => exact ⟨[6], [], rfl, .ranks [], rfl⟩
  | drop x => exact ⟨[7, x], [], rfl, .drop x [], rfl⟩
  | row p n r hp hn =>
    refine ⟨p :: (n : Int) :: r.take n, (r.take n).drop n, ?_, ?_, ?_⟩
    · rw [List.cons_append, List.cons_append, List.take_append_drop]
    · have := Ahead.row p n (r.take n) hp (by rw [List.length_take]; omega)
      rwa [List.take_take, Nat.min_self] at this
    · exact List.drop_eq_nil_of_le (by rw [List.length_take]; omega)
/-- the state between two calls -/
structure LInv (CS : Addr) (H0 H : Hp) (s g pa pr : Addr) (h : Oc07.House) (done : List Int) : Prop where
  si : SI CS H s pa pr h
  ok : HOk h
  sm : Same H0 H
  a0 : H0 pa = none
  r0 : H0 pr = none
  s0 : H0 s = none
  g0 : H0 g = none
  gs : g ≠ s
  ga : g ≠ pa
  gr : g ≠ pr
  gl : H g = some (.lst (zs done))
/-- behind an answer at p -/
theorem LInv.next {CS : Addr} {H0 H H' : Hp} {s g pa pr p : Addr} {h : Oc07.House} {done : List Int} {r : Oc07.House × Oc07.Ans} {n : Int} (L : LInv CS H0 H s g pa pr h done) (A : After CS H H' s pa pr p r) (hn : n = ((Oc07Neutral.out r.2).length : Int)) :
    H' g = some (.lst (zs done)) ∧ p ≠ g ∧ ∃ pa' pr', LInv CS H0 (L2.upd (L2.upd H' g (.lst (zs done ++ [.int n]))) g (.lst ((zs done ++ [.int n]) ++ ansV r.2))) s g pa' pr' r.1 (done ++ (n :: Oc07Neutral.out r.2)) := by
  obtain ⟨pa', pr', si', ea, er⟩ := A.st
  have hg := A.keep g _ L.gl L.gs L.ga L.gr
  have npg : p ≠ g := (ne_of_none L.gl A.new).symm
  have a0' : H0 pa' = none := by
    rcases ea with rfl | e
    · exact L.a0
    · exact L.sm.free e
  have r0' : H0 pr' = none := by
    rcases er with rfl | e
    · exact L.r0
    · exact L.sm.free e
  have ga' : g ≠ pa' := by
    rcases ea with rfl | e
    · exact L.ga
    · exact ne_of_none L.gl e
  have gr' : g ≠ pr' := by
    rcases er with rfl | e
    · exact L.gr
    · exact ne_of_none L.gl e
  have sb1 : SameBut g H' (L2.upd H' g (.lst (zs done ++ [.int n]))) := SameBut.upd fun _ _ e _ => e
  have sb2 : SameBut g (L2.upd H' g (.lst (zs done ++ [.int n]))) (L2.upd (L2.upd H' g (.lst (zs done ++ [.int n]))) g (.lst ((zs done ++ [.int n]) ++ ansV r.2))) := SameBut.upd fun _ _ e _ => e
  have sb := sb1.trans sb2
  refine ⟨hg, npg, pa', pr', si'.but sb hg L.gs.symm ga'.symm gr'.symm, A.ok, fun b o e => ?_, a0', r0', L.s0, L.g0, L.gs, ga', gr', ?_⟩
  · have ng := ne_of_none e L.g0
    exact sb _ _ (A.keep b o (L.sm _ _ e) (ne_of_none e L.s0) (ne_of_none e L.a0) (ne_of_none e L.r0)) ng
  · rw [upd_same, zs_app, ← out_ans, List.append_assoc]
    rfl
theorem After.pre {CS : Addr} {H H1 H' : Hp} {s pa pr p : Addr} {r : Oc07.House × Oc07.Ans} (sm : Same H H1) (A : After CS H1 H' s pa pr p r) : After CS H H' s pa pr p r := by
  obtain ⟨pa', pr', si, ea, er⟩ := A.st
  exact ⟨⟨pa', pr', si, ea.imp id sm.free, er.imp id sm.free⟩, A.ok, fun b o e => A.keep b o (sm _ _ e), sm.free A.new, A.ans⟩
/-- the calls by their numbers -/
def opOf (p : Nat) : List Nat → Oc07.Call := match p with
  | 1 => .line
  | 2 => .rule
  | 3 => .normally
  | 4 => .always
  | _ => .rank
theorem step_op {h : Oc07.House} {p : Nat} {r : List Int} (hp : 1 ≤ p ∧ p ≤ 5) : Oc07Neutral.step h [[(p : Int)], r] = ((Oc07.step h (opOf p (Oc07Neutral.nats r))).1, Oc07Neutral.out (Oc07.step h (opOf p (Oc07Neutral.nats r))).2) := by
  have : p = 1 ∨ p = 2 ∨ p = 3 ∨ p = 4 ∨ p = 5 := by omega
  rcases this with rfl | rfl | rfl | rfl | rfl <;> rfl
section
variable {P : Program} {w : World} {K : PySem.W.Frag} {mg : Str → Option Value} {base : Heap} {aP aH CK CR CS : Addr}
/-! ### call_end -/
abbrev s_call_end : Stmt := topS 41
theorem sc_call_end : FnScope ["calls", "at"] ["calls", "at"] (defScope s_call_end) := ⟨rfl, rfl, rfl, by decide +kernel, rfl, by decide +kernel, by decide +kernel⟩
def sp_call_end (K : PySem.W.Frag) : Sp := fun vs H Q _ => ∃ (a : Addr) (ls : List Int) (i : Nat) (c : List (List Int)) (t : List Int) (e : Nat), vs = [.ref a, .int (i : Nat)] ∧ SqL K H a (zs ls) ∧ i ≤ ls.length ∧ Ahead (ls.drop i) c t ∧ e + t.length = ls.length ∧
  ∀ H', Same H H' → Q (.int (e : Nat)) H'
theorem ok_call_end {f : Addr} {fd : FuncData} (F : Fun K "call_end" "call_end" s_call_end f fd) (T : Txt K mg aP aH) : FnOk P w K mg base CX0 1 f fd ["calls", "at"] (sp_call_end K) := by
  refine F.ok sc_call_end (fun vs H Q E h => ?_) (fun cdv A outer st H vs Q E hr h => ?_)
  · obtain ⟨a, ls, i, c, t, e, rfl, _⟩ := h
    rfl
  · refine ⟨_, (pss_cons (ps_if (pt_cmpR op_in_seq (pe_ix ix_seq (pv 0) (pv 1) (fun _ _ => rfl)) (pe_tup (pa_cons (pe_gc rfl T.c_BEGINS) (pa_cons (pe_gc rfl T.c_RANKS) pa_nil))) (by rfl))
        (pss_one (ps_ret (pe_op op_add (pv 1) pe_int)))
        pss_nil)
      (pss_cons (ps_if (pt_cmpR op_eq (pe_ix ix_seq (pv 0) (pv 1) (fun _ _ => rfl)) (pe_gc rfl T.c_DROP) (nomark _))
        (pss_one (ps_ret (pe_op op_add (pv 1) pe_int)))
        pss_nil)
      (pss_cons (ps_if (pt_cmpR op_in_seq (pe_ix ix_seq (pv 0) (pv 1) (fun _ _ => rfl)) (pe_tup (pa_cons (pe_gc rfl T.c_LINE) (pa_cons (pe_gc rfl T.c_RULE) (pa_cons (pe_gc rfl T.c_NORMALLY) (pa_cons (pe_gc rfl T.c_ALWAYS) (pa_cons (pe_gc rfl T.c_RANK) pa_nil)))))) (by rfl))
        (pss_one (ps_ret (pe_op op_add (pe_op op_add (pv 1) pe_int) (pe_ix ix_seq (pv 0) (pe_op op_add (pv 1) pe_int) (fun _ _ => rfl)))))
        pss_nil)
      (pss_one ps_never)))), ?_⟩
    obtain ⟨a, ls, i, c, t, e, rfl, hs, hi, hah, he, q⟩ := h
    generalize hd : ls.drop i = ld at hah
    have hlen := congrArg List.length hd
    rw [List.length_drop] at hlen
    cases hah with
    | begins t =>
      have e0 := at_drop hd
      rw [List.length_cons] at hlen
      refine ⟨_, rfl, _, rfl, ixL_of hs (atI_nat (zs_at e0)) ⟨by show 2 ≤ sizeLine; decide, fun t1 n1 => ⟨t1, _, rfl, Or.inr (SqT.of upd_same), rfl, rfl, _, rfl, if_t (by decide) ?_⟩⟩⟩
      refine ⟨_, rfl, _, _, rfl, rfl, ?_⟩
      have := q _ (same_new (o := .tup [.int 0, .int 6]) n1)
      rw [show ((e : Nat) : Int) = (i : Int) + 1 by omega] at this
      exact this
    | ranks t =>
      have e0 := at_drop hd
      rw [List.length_cons] at hlen
      refine ⟨_, rfl, _, rfl, ixL_of hs (atI_nat (zs_at e0)) ⟨by show 2 ≤ sizeLine; decide, fun t1 n1 => ⟨t1, _, rfl, Or.inr (SqT.of upd_same), rfl, rfl, _, rfl, if_t (by decide) ?_⟩⟩⟩
      refine ⟨_, rfl, _, _, rfl, rfl, ?_⟩
      have := q _ (same_new (o := .tup [.int 0, .int 6]) n1)
      rw [show ((e : Nat) : Int) = (i : Int) + 1 by omega] at this
      exact this
    | drop x t =>
      have e0 := at_drop hd
      rw [List.length_cons, List.length_cons] at hlen
      refine ⟨_, rfl, _, rfl, ixL_of hs (atI_nat (zs_at e0)) ⟨by show 2 ≤ sizeLine; decide, fun t1 n1 => ⟨t1, _, rfl, Or.inr (SqT.of upd_same), rfl, rfl, _, rfl, if_f (by decide) ?_⟩⟩⟩
      have sm1 := same_new (o := .tup [.int 0, .int 6]) n1
      refine ⟨_, rfl, _, rfl, ixL_of (same_l sm1 hs) (atI_nat (zs_at e0)) ⟨rfl, _, rfl, if_t (by decide) ?_⟩⟩
      refine ⟨_, rfl, _, _, rfl, rfl, ?_⟩
      have := q _ sm1
      rw [show ((e : Nat) : Int) = (i : Int) + 2 by omega] at this
      exact this
    | row p n r hp hn =>
      have e0 := at_drop hd
      have e1 := at_drop (tl_drop hd)
      rw [List.length_cons, List.length_cons] at hlen
      rw [List.length_drop] at he
      have a1 : atI (zs ls) ((i : Int) + 1) = some (V.int (n : Int)) := by
        rw [show ((i : Int) + 1) = ((i + 1 : Nat) : Int) by omega]
        exact atI_nat (zs_at e1)
      have : p = 1 ∨ p = 2 ∨ p = 3 ∨ p = 4 ∨ p = 5 := by omega
      have fin : ∀ H', Same H H' → Q (.int ((i : Int) + 2 + (n : Int))) H' := fun H' sm => by
        have := q H' sm
        rw [show ((e : Nat) : Int) = (i : Int) + 2 + (n : Int) by omega] at this
        exact this
      clear q
      rcases this with rfl | rfl | rfl | rfl | rfl
      all_goals
        refine ⟨_, rfl, _, rfl, ixL_of hs (atI_nat (zs_at e0)) ⟨by show 2 ≤ sizeLine; decide, fun t1 n1 => ⟨t1, _, rfl, Or.inr (SqT.of upd_same), rfl, rfl, _, rfl, if_f (by decide) ?_⟩⟩⟩
        have sm1 := same_new (o := .tup [.int 0, .int 6]) n1
        refine ⟨_, rfl, _, rfl, ixL_of (same_l sm1 hs) (atI_nat (zs_at e0)) ⟨rfl, _, rfl, if_f (by decide) ?_⟩⟩
        refine ⟨_, rfl, _, rfl, ixL_of (same_l sm1 hs) (atI_nat (zs_at e0)) ⟨by show 5 ≤ sizeLine; decide, fun t2 n2 => ⟨t2, _, rfl, Or.inr (SqT.of upd_same), rfl, rfl, _, rfl, if_t (by decide) ?_⟩⟩⟩
        have sm2 := sm1.trans (same_new (o := .tup [.int 1, .int 2, .int 3, .int 4, .int 5]) n2)
        refine ⟨_, rfl, _, _, rfl, rfl, _, rfl, _, rfl, _, _, rfl, rfl, ixL_of (same_l sm2 hs) a1 ⟨_, _, rfl, rfl, ?_⟩⟩
        exact fin _ sm2
/-! ### answer_with_concepts -/
abbrev s_answer_with_concepts : Stmt := topS 43
theorem sc_answer_with_concepts : FnScope ["service", "number", "concepts"] ["service", "number", "concepts"] (defScope s_answer_with_concepts) := ⟨rfl, rfl, rfl, by decide +kernel, rfl, by decide +kernel, by decide +kernel⟩
def sp_awc (K : PySem.W.Frag) (CS : Addr) : Sp := fun vs H Q _ => ∃ (s pa pr b : Addr) (h : Oc07.House) (l : List Nat) (p : Nat), vs = [.ref s, .int (p : Nat), .ref b] ∧ 1 ≤ p ∧ p ≤ 5 ∧ SI CS H s pa pr h ∧ HOk h ∧ SqL K H b (nz l) ∧ l.length ≤ 30 ∧
  ∀ p' H', After CS H H' s pa pr p' (Oc07.step h (opOf p l)) → Q (.ref p') H'
theorem ok_awc {f : Addr} {fd : FuncData} (F : Fun K "answer_with_concepts" "answer_with_concepts" s_answer_with_concepts f fd) (T : Txt K mg aP aH)
    (C_Service_line : Met P w K mg base 7 CS "line" (sp_op K CS .line)) (C_Service_rule : Met P w K mg base 7 CS "rule" (sp_op K CS .rule)) (C_Service_normally : Met P w K mg base 12 CS "normally" (sp_op K CS .normally))
    (C_Service_always : Met P w K mg base 12 CS "always" (sp_op K CS .always)) (C_Service_rank : Met P w K mg base 12 CS "rank" (sp_op K CS .rank)) : FnOk P w K mg base CX0 13 f fd ["service", "number", "concepts"] (sp_awc K CS) := by
  refine F.ok sc_answer_with_concepts (fun vs H Q E h => ?_) (fun cdv A outer st H vs Q E hr h => ?_)
  · obtain ⟨s, pa, pr, b, h, l, p, rfl, _⟩ := h
    rfl
  · refine ⟨_, (pss_cons (ps_if (pt_cmpR op_eq (pv 1) (pe_gc rfl T.c_LINE) (nomark _))
        (pss_one (ps_ret (pe_mt C_Service_line hr (by decide) (pv 0) (pa_cons (pv 2) pa_nil))))
        pss_nil)
      (pss_cons (ps_if (pt_cmpR op_eq (pv 1) (pe_gc rfl T.c_RULE) (nomark _))
        (pss_one (ps_ret (pe_mt C_Service_rule hr (by decide) (pv 0) (pa_cons (pv 2) pa_nil))))
        pss_nil)
      (pss_cons (ps_if (pt_cmpR op_eq (pv 1) (pe_gc rfl T.c_NORMALLY) (nomark _))
        (pss_one (ps_ret (pe_mt C_Service_normally hr (by decide) (pv 0) (pa_cons (pv 2) pa_nil))))
        pss_nil)
      (pss_cons (ps_if (pt_cmpR op_eq (pv 1) (pe_gc rfl T.c_ALWAYS) (nomark _))
        (pss_one (ps_ret (pe_mt C_Service_always hr (by decide) (pv 0) (pa_cons (pv 2) pa_nil))))
        pss_nil)
      (pss_one (ps_ret (pe_mt C_Service_rank hr (by decide) (pv 0) (pa_cons (pv 2) pa_nil)))))))), ?_⟩
    obtain ⟨s, pa, pr, b, h, l, p, rfl, p1, p3, si, ho, hb, hl, q⟩ := h
    obtain ⟨dx, wa, wr, h1, h2, h3, h4, h5⟩ := si.ex
    have : p = 1 ∨ p = 2 ∨ p = 3 ∨ p = 4 ∨ p = 5 := by omega
    rcases this with rfl | rfl | rfl | rfl | rfl
    · refine ⟨_, rfl, rfl, _, rfl, if_t (by decide) ?_⟩
      exact ⟨_, rfl, s, dx, _, rfl, h1, rfl, _, rfl, s, pa, pr, b, h, l, rfl, si, ho, hb, hl, q⟩
    · refine ⟨_, rfl, rfl, _, rfl, if_f (by decide) ?_⟩
      refine ⟨_, rfl, rfl, _, rfl, if_t (by decide) ?_⟩
      exact ⟨_, rfl, s, dx, _, rfl, h1, rfl, _, rfl, s, pa, pr, b, h, l, rfl, si, ho, hb, hl, q⟩
    · refine ⟨_, rfl, rfl, _, rfl, if_f (by decide) ?_⟩
      refine ⟨_, rfl, rfl, _, rfl, if_f (by decide) ?_⟩
      refine ⟨_, rfl, rfl, _, rfl, if_t (by decide) ?_⟩
      exact ⟨_, rfl, s, dx, _, rfl, h1, rfl, _, rfl, s, pa, pr, b, h, l, rfl, si, ho, hb, hl, q⟩
    · refine ⟨_, rfl, rfl, _, rfl, if_f (by decide) ?_⟩
      refine ⟨_, rfl, rfl, _, rfl, if_f (by decide) ?_⟩
      refine ⟨_, rfl, rfl, _, rfl, if_f (by decide) ?_⟩
      refine ⟨_, rfl, rfl, _, rfl, if_t (by decide) ?_⟩
      exact ⟨_, rfl, s, dx, _, rfl, h1, rfl, _, rfl, s, pa, pr, b, h, l, rfl, si, ho, hb, hl, q⟩
    · refine ⟨_, rfl, rfl, _, rfl, if_f (by decide) ?_⟩
      refine ⟨_, rfl, rfl, _, rfl, if_f (by decide) ?_⟩
      refine ⟨_, rfl, rfl, _, rfl, if_f (by decide) ?_⟩
      refine ⟨_, rfl, rfl, _, rfl, if_f (by decide) ?_⟩
      exact ⟨_, rfl, s, dx, _, rfl, h1, rfl, _, rfl, s, pa, pr, b, h, l, rfl, si, ho, hb, hl, q⟩
/-! ### answer_to -/
abbrev s_answer_to : Stmt := topS 42
theorem sc_answer_to : FnScope ["service", "call"] ["service", "call"] (defScope s_answer_to) := ⟨rfl, rfl, rfl, by decide +kernel, rfl, by decide +kernel, by decide +kernel⟩
def sp_answer_to (K : PySem.W.Frag) (CS : Addr) : Sp := fun vs H Q _ => ∃ (s pa pr b : Addr) (h : Oc07.House) (cl : List Int) (c : List (List Int)) (t : List Int), vs = [.ref s, .ref b] ∧ SI CS H s pa pr h ∧ HOk h ∧ SqL K H b (zs cl) ∧ Ahead cl c t ∧ t = [] ∧ PyInside.call PyOc07.bound c = true ∧
  ∀ p' H' (r : Oc07.House × Oc07.Ans), After CS H H' s pa pr p' r → Oc07Neutral.step h c = (r.1, Oc07Neutral.out r.2) → Q (.ref p') H'
theorem ok_answer_to {f : Addr} {fd : FuncData} (F : Fun K "answer_to" "answer_to" s_answer_to f fd) (T : Txt K mg aP aH)
    (C_Service_begins : Met P w K mg base 1 CS "begins" (sp_begins CS)) (C_Service_ranks : Met P w K mg base 12 CS "ranks" (sp_ranks CS)) (C_Service_drop : Met P w K mg base 1 CS "drop" (sp_drop CS)) (C_answer_with_concepts : Cal P w K mg base 13 "answer_with_concepts" (sp_awc K CS)) : FnOk P w K mg base CX0 14 f fd ["service", "call"] (sp_answer_to K CS) := by
  refine F.ok sc_answer_to (fun vs H Q E h => ?_) (fun cdv A outer st H vs Q E hr h => ?_)
  · obtain ⟨s, pa, pr, b, h, cl, c, t, rfl, _⟩ := h
    rfl
  · refine ⟨_, (pss_cons (ps_if (pt_cmpR op_eq (pe_ix ix_seq (pv 1) pe_int (fun _ _ => rfl)) (pe_gc rfl T.c_BEGINS) (nomark _))
        (pss_one (ps_ret (pe_mt0 C_Service_begins hr (by decide) (pv 0))))
        pss_nil)
      (pss_cons (ps_if (pt_cmpR op_eq (pe_ix ix_seq (pv 1) pe_int (fun _ _ => rfl)) (pe_gc rfl T.c_RANKS) (nomark _))
        (pss_one (ps_ret (pe_mt0 C_Service_ranks hr (by decide) (pv 0))))
        pss_nil)
      (pss_cons (ps_if (pt_cmpR op_eq (pe_ix ix_seq (pv 1) pe_int (fun _ _ => rfl)) (pe_gc rfl T.c_DROP) (nomark _))
        (pss_one (ps_ret (pe_mt C_Service_drop hr (by decide) (pv 0) (pa_cons (pe_ix ix_seq (pv 1) pe_int (fun _ _ => rfl)) pa_nil))))
        pss_nil)
      (pss_one (ps_ret (pe_c C_answer_with_concepts hr (by decide) rfl (pa_cons (pv 0) (pa_cons (pe_ix ix_seq (pv 1) pe_int (fun _ _ => rfl)) (pa_cons (pe_slice sl_list (pv 1) (po_some pe_int) po_none) pa_nil))))))))), ?_⟩
    obtain ⟨s, pa, pr, b, h, cl, c, t, rfl, si, ho, hb, hah, ht, hbc, q⟩ := h
    obtain ⟨dx, wa, wr, h1, h2, h3, h4, h5⟩ := si.ex
    cases hah with
    | begins t =>
      refine ⟨_, rfl, ixL_of (v := .int 0) hb (atI_nat (j := 0) rfl) ⟨rfl, _, rfl, if_t (by decide) ?_⟩⟩
      exact ⟨_, rfl, s, dx, _, rfl, h1, rfl, s, pa, pr, h, rfl, si, fun p' H2 A => q p' H2 _ A rfl⟩
    | ranks t =>
      refine ⟨_, rfl, ixL_of (v := .int 6) hb (atI_nat (j := 0) rfl) ⟨rfl, _, rfl, if_f (by decide) ?_⟩⟩
      refine ⟨_, rfl, ixL_of (v := .int 6) hb (atI_nat (j := 0) rfl) ⟨rfl, _, rfl, if_t (by decide) ?_⟩⟩
      exact ⟨_, rfl, s, dx, _, rfl, h1, rfl, s, pa, pr, h, rfl, si, ho, fun p' H2 A => q p' H2 _ A rfl⟩
    | drop x t =>
      have hx := drop_in hbc
      obtain ⟨xn, rfl⟩ : ∃ xn : Nat, x = (xn : Int) := ⟨x.toNat, by omega⟩
      refine ⟨_, rfl, ixL_of (v := .int 7) hb (atI_nat (j := 0) rfl) ⟨rfl, _, rfl, if_f (by decide) ?_⟩⟩
      refine ⟨_, rfl, ixL_of (v := .int 7) hb (atI_nat (j := 0) rfl) ⟨rfl, _, rfl, if_f (by decide) ?_⟩⟩
      refine ⟨_, rfl, ixL_of (v := .int 7) hb (atI_nat (j := 0) rfl) ⟨rfl, _, rfl, if_t (by decide) ?_⟩⟩
      exact ⟨_, rfl, s, dx, _, rfl, h1, rfl, _, rfl, ixL_of (v := .int (xn : Int)) hb (atI_nat (j := 1) rfl) ⟨s, pa, pr, h, xn, rfl, si, ho, fun p' H2 A => q p' H2 _ A rfl⟩⟩
    | row p n r hp hn =>
      obtain ⟨pn, rfl⟩ : ∃ pn : Nat, p = (pn : Int) := ⟨p.toNat, by omega⟩
      obtain ⟨h30, hnn⟩ := row_in hp hbc
      have er : r.take n = r := by
        have := congrArg List.length ht
        rw [List.length_drop, List.length_nil] at this
        exact List.take_of_length_le (by omega)
      rw [er] at h30 hnn q
      refine ⟨_, rfl, ixL_of (v := .int (pn : Int)) hb (atI_nat (j := 0) rfl) ⟨rfl, _, rfl, if_f (dec_V.trans (dec_f (by omega))) ?_⟩⟩
      refine ⟨_, rfl, ixL_of (v := .int (pn : Int)) hb (atI_nat (j := 0) rfl) ⟨rfl, _, rfl, if_f (dec_V.trans (dec_f (by omega))) ?_⟩⟩
      refine ⟨_, rfl, ixL_of (v := .int (pn : Int)) hb (atI_nat (j := 0) rfl) ⟨rfl, _, rfl, if_f (dec_V.trans (dec_f (by omega))) ?_⟩⟩
      refine ⟨_, rfl, _, rfl, ixL_of (v := .int (pn : Int)) hb (atI_nat (j := 0) rfl) ?_⟩
      refine ⟨_, rfl, _, rfl, b, _, rfl, hb, fun b2 nb => ?_⟩
      have hcut : cutV (zs ((pn : Int) :: (n : Int) :: r)) (some 2) none = nz (Oc07Neutral.nats r) := by
        rw [show (2 : Int) = ((2 : Nat) : Int) from rfl, cut_zs_from (by simp)]
        exact zs_nats hnn
      rw [hcut]
      have smb := same_new (o := .lst (nz (Oc07Neutral.nats r))) nb
      refine ⟨s, pa, pr, b2, h, Oc07Neutral.nats r, pn, rfl, by omega, by omega, si.same smb, ho, SqL.of upd_same, ?_, fun p' H2 A => q p' H2 _ (A.pre smb) (step_op (by omega))⟩
      unfold Oc07Neutral.nats
      rw [List.length_map]
      exact h30
/-! ### answers -/
abbrev s_answers : Stmt := topS 44
theorem sc_answers : FnScope ["calls", "service", "given", "at", "end", "answer"] ["calls"] (defScope s_answers) := ⟨rfl, rfl, rfl, by decide +kernel, rfl, by decide +kernel, by decide +kernel⟩
def sp_answers (K : PySem.W.Frag) : Sp := fun vs H Q _ => ∃ (a : Addr) (ls : List Int), vs = [.ref a] ∧ SqL K H a (zs ls) ∧ PyOc07.answers_asked ls = true ∧
  ∀ H' p, H' p = some (.lst (zs (PyOc07.answers ls))) → Q (.ref p) H'
theorem ok_answers {f : Addr} {fd : FuncData} (F : Fun K "answers" "answers" s_answers f fd) (T : Txt K mg aP aH) (TS : STx K CS)
    (C_Service : Mak P w K mg base 1 "Service" CS (sp_Service CS)) (C_call_end : Cal P w K mg base 1 "call_end" (sp_call_end K)) (C_answer_to : Cal P w K mg base 14 "answer_to" (sp_answer_to K CS)) : FnOk P w K mg base CX0 15 f fd ["calls"] (sp_answers K) := by
  refine F.ok sc_answers (fun vs H Q E h => ?_) (fun cdv A outer st H vs Q E hr h => ?_)
  · obtain ⟨a, ls, rfl, _⟩ := h
    rfl
  · refine ⟨_, (pss_cons (ps_set (i := 1) sc_answers.nd rfl (Or.inl rfl) (pe_mk0 C_Service hr (by decide) rfl))
      (pss_cons (ps_set (i := 2) sc_answers.nd rfl (Or.inl rfl) (pe_lst pa_nil))
      (pss_cons (ps_set (i := 3) sc_answers.nd rfl (Or.inl rfl) pe_int)
      (pss_cons (ps_while PassesOwn.never (pt_cmpR op_lt (pv 3) (pe_callB call_len_seq (by rfl) T.b_len PySem.boot_len (pa_cons (pv 0) pa_nil)) (nomark _))
        (pss_cons (ps_set (i := 4) sc_answers.nd rfl (Or.inl rfl) (pe_c C_call_end hr (by decide) rfl (pa_cons (pv 0) (pa_cons (pv 3) pa_nil))))
        (pss_cons (ps_set (i := 5) sc_answers.nd rfl (Or.inl rfl) (pe_c C_answer_to hr (by decide) rfl (pa_cons (pv 1) (pa_cons (pe_slice sl_list (pv 0) (po_some (pv 3)) (po_some (pv 4))) pa_nil))))
        (pss_cons (ps_expr (pe_bm PySem.F.plainAttrs_list PySem.F.slot_list_append PySem.F.type_list_append mt_append (pv 2) (pa_cons (pe_callB call_len_seq (by rfl) T.b_len PySem.boot_len (pa_cons (pv 5) pa_nil)) pa_nil)))
        (pss_cons (ps_expr (pe_bm PySem.F.plainAttrs_list PySem.F.slot_list_extend PySem.F.type_list_extend mt_extend (pv 2) (pa_cons (pv 5) pa_nil)))
        (pss_one (ps_set (i := 3) sc_answers.nd rfl (Or.inl rfl) (pv 4))))))))
      (pss_one (ps_ret (pv 2))))))), ?_⟩
    obtain ⟨a, ls, rfl, hs, hask, q⟩ := h
    obtain ⟨raw, hstill, hans, hin, hlen⟩ := asked_is hask
    -- the service
    intro s dx ns ndx nsd
    have sm0 : Same H (L2.upd (L2.upd H dx (.own s)) s (.ins CS dx [])) := fun b o e => by
      rw [upd_ne (ne_of_none e ns), upd_ne (ne_of_none e ndx)]
      exact e
    refine ⟨s, dx, rfl, upd_same, fun H1 pa pr sb si npa npr => ⟨rfl, ?_⟩⟩
    have sm1 : Same H H1 := fun b o e => sb _ _ (sm0 _ _ e) (ne_of_none e ns)
    have npa := sm0.free npa
    have npr := sm0.free npr
    -- the answers
    refine ⟨by show 0 ≤ sizeLine; decide, fun g ng => ?_⟩
    have sm2 := same_new (o := .lst []) ng
    obtain ⟨dx', wa, wr, i1, i2, i3, i4, i5⟩ := si.ex
    have L0 : LInv CS H (L2.upd H1 g (.lst [])) s g pa pr Oc07.init [] := ⟨si.same sm2, ok_init, sm1.trans sm2, npa, npr, ns, sm1.free ng, (ne_of_none i1 ng).symm, (ne_of_none i2 ng).symm, (ne_of_none i4 ng).symm, upd_same⟩
    refine ⟨fun m σ H' => ∃ (i : Nat) (cs : List (List (List Int))) (pa pr : Addr) (h : Oc07.House) (done : List Int) (x y : Option V), σ = [some (.ref a), some (.ref s), some (.ref g), some (.int (i : Nat)), x, y] ∧ m = cs.length ∧ i ≤ ls.length ∧ Still (ls.drop i) cs ∧ LInv CS H H' s g pa pr h done ∧
        PyOc07.answers ls = done ++ due h cs ∧ (∀ c ∈ cs, PyInside.call PyOc07.bound c = true),
      ⟨_, 0, raw, pa, pr, _, [], none, none, rfl, rfl, Nat.zero_le _, hstill, L0, hans, hin⟩, ?_⟩
    rintro m σ H' ⟨i, cs, pa, pr, h, done, x, y, rfl, rfl, hi, hst, L, hdue, hb⟩
    refine ⟨_, rfl, _, rfl, a, _, rfl, .inl (same_l L.sm hs), _, _, rfl, rfl, _, rfl, ?_⟩
    rw [zs_len]
    generalize hd : ls.drop i = ld at hst
    cases hst with
    | nil =>
      have hle : ls.length ≤ i := by
        have := congrArg List.length hd
        rw [List.length_drop] at this
        simp at this
        omega
      refine if_f (dec_f (by omega)) ?_
      refine ⟨_, rfl, q H' g ?_⟩
      rw [hdue]
      show H' g = some (.lst (zs (done ++ [])))
      rw [List.append_nil]
      exact L.gl
    | cons hah hrest =>
      rename_i t c cs
      have hlt : i < ls.length := by
        rcases Nat.lt_or_ge i ls.length with z | z
        · exact z
        · rw [List.drop_eq_nil_of_le z] at hd
          rw [← hd] at hah
          cases hah
      refine if_t (dec_t (by omega)) ?_
      refine ⟨fun σ' H'' => ∃ m', m' < (c :: cs).length ∧ ∃ (i : Nat) (cs : List (List (List Int))) (pa pr : Addr) (h : Oc07.House) (done : List Int) (x y : Option V), σ' = [some (.ref a), some (.ref s), some (.ref g), some (.int (i : Nat)), x, y] ∧ m' = cs.length ∧ i ≤ ls.length ∧ Still (ls.drop i) cs ∧ LInv CS H H'' s g pa pr h done ∧
        PyOc07.answers ls = done ++ due h cs ∧ (∀ c ∈ cs, PyInside.call PyOc07.bound c = true), fun _ _ z => z, ?_⟩
      have hdl : done.length ≤ (PyOc07.answers ls).length := by
        rw [hdue, List.length_append]
        omega
      have sz : ∀ {n : Nat}, n ≤ 10000000 → n < sizeLine := fun {n} h => by
        rw [sizeLine_eq]
        omega
      have hs' := same_l L.sm hs
      obtain ⟨cl, t', ecl, hcl, ht'⟩ := ahead_own hah
      have hlen1 := congrArg List.length hd
      rw [ecl, List.length_drop, List.length_append] at hlen1
      have hdt : ls.drop (i + cl.length) = t := by
        rw [← List.drop_drop, hd, ecl, List.drop_left]
      refine ⟨_, rfl, _, rfl, a, ls, i, c, t, i + cl.length, rfl, hs', hi, hd ▸ hah, by omega, fun H2 sm2' => ?_⟩
      refine ⟨_, rfl, _, rfl, _, rfl, _, rfl, _, rfl, _, rfl, a, _, rfl, same_l sm2' hs', fun b nb => ?_⟩
      have hcut : cutV (zs ls) (some (i : Int)) (some ((i + cl.length : Nat) : Int)) = zs cl := by
        rw [cut_zs (by omega) (by omega), hd, ecl, show i + cl.length - i = cl.length by omega, List.take_left]
      rw [hcut]
      have smb := sm2'.trans (same_new (o := .lst (zs cl)) nb)
      refine ⟨s, pa, pr, b, h, cl, c, t', rfl, L.si.same smb, L.ok, SqL.of upd_same, hcl, ht', hb c (by simp), fun p' H3 r A hstep => ?_⟩
      have A := A.pre smb
      have hn : (((ansV r.2).length : Nat) : Int) = ((Oc07Neutral.out r.2).length : Int) := by rw [← out_ans, zs_len]
      obtain ⟨hg, npg, pa', pr', L'⟩ := L.next A hn
      have hdue' : PyOc07.answers ls = (done ++ ((((ansV r.2).length : Nat) : Int) :: Oc07Neutral.out r.2)) ++ due r.1 cs := by
        rw [hdue, due_cons, hstep, hn, List.append_assoc]
      have hlen2 : done.length + (1 + (Oc07Neutral.out r.2).length) ≤ (PyOc07.answers ls).length := by
        rw [hdue', List.length_append, List.length_append, List.length_cons]
        omega
      have hol : (ansV r.2).length = (Oc07Neutral.out r.2).length := by rw [← out_ans, zs_len]
      refine ⟨_, rfl, .inl ⟨rfl, _, SqL.of hg⟩, _, rfl, p', _, rfl, .inl (SqL.of A.ans), g, _, _, rfl, rfl, hg, sz (by rw [zs_len]; omega), ?_⟩
      refine ⟨_, rfl, .inl ⟨rfl, _, SqL.of upd_same⟩, _, rfl, g, p', _, ansV r.2, rfl, rfl, upd_same, ?_, Nat.le_of_lt (sz ?_), ?_⟩
      · rw [upd_ne npg]
        exact A.ans
      · rw [List.length_append, zs_len, List.length_singleton, hol]
        omega
      · exact ⟨_, rfl, cs.length, by simp, i + cl.length, cs, pa', pr', r.1, _, _, _, rfl, rfl, by omega, hdt.symm ▸ hrest, L', hdue', fun c hc => hb c (by simp [hc])⟩
end
end Py

namespace Py
open PySem PySem.Spec PyProof.Rows L2 Ex
theorem all_mk {P : Program} {w : World} {K : PySem.W.Frag} {h : Heap} {mg : Str → Option Value}
    {fa aP aH CK CR CS f_is_head f_head_length f_concept_end f_two_concepts f_one_concept f_head_places f_concept_at f_atoms_in f_kinds_with_atom f_Kinds_combined f_Kinds_having f_Kinds_link f_Kinds_allowed f_Kinds_finds_all f_Kinds_supported_by f_Kinds_satisfying f_Kinds_occurring f_Kinds___init__ f_exceptional_rules f_narrowed f_Ranking_rank_of f_Ranking_all_have f_Ranking_always_holds f_Ranking_normally_holds f_Ranking_ranks_with f_Ranking___init__ f_Service_atoms_with f_Service_has_too_many_atoms f_Service_ranking_with f_Service_line f_Service_rule f_Service_normally f_Service_always f_Service_rank f_Service_ranks f_Service_drop f_Service_begins f_Service___init__ f_call_end f_answer_with_concepts f_answer_to f_answers : Addr}
    {odP odH od_is_head an_is_head od_head_length an_head_length od_concept_end an_concept_end od_two_concepts an_two_concepts od_one_concept an_one_concept od_head_places an_head_places od_concept_at an_concept_at od_atoms_in an_atoms_in od_kinds_with_atom an_kinds_with_atom od_Kinds_combined an_Kinds_combined od_Kinds_having an_Kinds_having od_Kinds_link an_Kinds_link od_Kinds_allowed an_Kinds_allowed od_Kinds_finds_all an_Kinds_finds_all od_Kinds_supported_by an_Kinds_supported_by od_Kinds_satisfying an_Kinds_satisfying od_Kinds_occurring an_Kinds_occurring od_Kinds___init__ an_Kinds___init__ od_exceptional_rules an_exceptional_rules od_narrowed an_narrowed od_Ranking_rank_of an_Ranking_rank_of od_Ranking_all_have an_Ranking_all_have od_Ranking_always_holds an_Ranking_always_holds od_Ranking_normally_holds an_Ranking_normally_holds od_Ranking_ranks_with an_Ranking_ranks_with od_Ranking___init__ an_Ranking___init__ od_Service_atoms_with an_Service_atoms_with od_Service_has_too_many_atoms an_Service_has_too_many_atoms od_Service_ranking_with an_Service_ranking_with od_Service_line an_Service_line od_Service_rule an_Service_rule od_Service_normally an_Service_normally od_Service_always an_Service_always od_Service_rank an_Service_rank od_Service_ranks an_Service_ranks od_Service_drop an_Service_drop od_Service_begins an_Service_begins od_Service___init__ an_Service___init__ od_call_end an_call_end od_answer_with_concepts an_answer_with_concepts od_answer_to an_answer_to od_answers an_answers : Option Addr}
    {slP slH sl_is_head sl_head_length sl_concept_end sl_two_concepts sl_one_concept sl_head_places sl_concept_at sl_atoms_in sl_kinds_with_atom sl_Kinds_combined sl_Kinds_having sl_Kinds_link sl_Kinds_allowed sl_Kinds_finds_all sl_Kinds_supported_by sl_Kinds_satisfying sl_Kinds_occurring sl_Kinds___init__ sl_exceptional_rules sl_narrowed sl_Ranking_rank_of sl_Ranking_all_have sl_Ranking_always_holds sl_Ranking_normally_holds sl_Ranking_ranks_with sl_Ranking___init__ sl_Service_atoms_with sl_Service_has_too_many_atoms sl_Service_ranking_with sl_Service_line sl_Service_rule sl_Service_normally sl_Service_always sl_Service_rank sl_Service_ranks sl_Service_drop sl_Service_begins sl_Service___init__ sl_call_end sl_answer_with_concepts sl_answer_to sl_answers : Array (Option Value)}
    {oc_is_head kV_is_head dc_is_head pm_is_head cd_is_head ct_is_head oc_head_length kV_head_length dc_head_length pm_head_length cd_head_length ct_head_length oc_concept_end kV_concept_end dc_concept_end pm_concept_end cd_concept_end ct_concept_end oc_two_concepts kV_two_concepts dc_two_concepts pm_two_concepts cd_two_concepts ct_two_concepts oc_one_concept kV_one_concept dc_one_concept pm_one_concept cd_one_concept ct_one_concept oc_head_places kV_head_places dc_head_places pm_head_places cd_head_places ct_head_places oc_concept_at kV_concept_at dc_concept_at pm_concept_at cd_concept_at ct_concept_at oc_atoms_in kV_atoms_in dc_atoms_in pm_atoms_in cd_atoms_in ct_atoms_in oc_kinds_with_atom kV_kinds_with_atom dc_kinds_with_atom pm_kinds_with_atom cd_kinds_with_atom ct_kinds_with_atom oc_Kinds_combined kV_Kinds_combined dc_Kinds_combined pm_Kinds_combined cd_Kinds_combined ct_Kinds_combined oc_Kinds_having kV_Kinds_having dc_Kinds_having pm_Kinds_having cd_Kinds_having ct_Kinds_having oc_Kinds_link kV_Kinds_link dc_Kinds_link pm_Kinds_link cd_Kinds_link ct_Kinds_link oc_Kinds_allowed kV_Kinds_allowed dc_Kinds_allowed pm_Kinds_allowed cd_Kinds_allowed ct_Kinds_allowed oc_Kinds_finds_all kV_Kinds_finds_all dc_Kinds_finds_all pm_Kinds_finds_all cd_Kinds_finds_all ct_Kinds_finds_all oc_Kinds_supported_by kV_Kinds_supported_by dc_Kinds_supported_by pm_Kinds_supported_by cd_Kinds_supported_by ct_Kinds_supported_by oc_Kinds_satisfying kV_Kinds_satisfying dc_Kinds_satisfying pm_Kinds_satisfying cd_Kinds_satisfying ct_Kinds_satisfying oc_Kinds_occurring kV_Kinds_occurring dc_Kinds_occurring pm_Kinds_occurring cd_Kinds_occurring ct_Kinds_occurring oc_Kinds___init__ kV_Kinds___init__ dc_Kinds___init__ pm_Kinds___init__ cd_Kinds___init__ ct_Kinds___init__ oc_exceptional_rules kV_exceptional_rules dc_exceptional_rules pm_exceptional_rules cd_exceptional_rules ct_exceptional_rules oc_narrowed kV_narrowed dc_narrowed pm_narrowed cd_narrowed ct_narrowed oc_Ranking_rank_of kV_Ranking_rank_of dc_Ranking_rank_of pm_Ranking_rank_of cd_Ranking_rank_of ct_Ranking_rank_of oc_Ranking_all_have kV_Ranking_all_have dc_Ranking_all_have pm_Ranking_all_have cd_Ranking_all_have ct_Ranking_all_have oc_Ranking_always_holds kV_Ranking_always_holds dc_Ranking_always_holds pm_Ranking_always_holds cd_Ranking_always_holds ct_Ranking_always_holds oc_Ranking_normally_holds kV_Ranking_normally_holds dc_Ranking_normally_holds pm_Ranking_normally_holds cd_Ranking_normally_holds ct_Ranking_normally_holds oc_Ranking_ranks_with kV_Ranking_ranks_with dc_Ranking_ranks_with pm_Ranking_ranks_with cd_Ranking_ranks_with ct_Ranking_ranks_with oc_Ranking___init__ kV_Ranking___init__ dc_Ranking___init__ pm_Ranking___init__ cd_Ranking___init__ ct_Ranking___init__ oc_Service_atoms_with kV_Service_atoms_with dc_Service_atoms_with pm_Service_atoms_with cd_Service_atoms_with ct_Service_atoms_with oc_Service_has_too_many_atoms kV_Service_has_too_many_atoms dc_Service_has_too_many_atoms pm_Service_has_too_many_atoms cd_Service_has_too_many_atoms ct_Service_has_too_many_atoms oc_Service_ranking_with kV_Service_ranking_with dc_Service_ranking_with pm_Service_ranking_with cd_Service_ranking_with ct_Service_ranking_with oc_Service_line kV_Service_line dc_Service_line pm_Service_line cd_Service_line ct_Service_line oc_Service_rule kV_Service_rule dc_Service_rule pm_Service_rule cd_Service_rule ct_Service_rule oc_Service_normally kV_Service_normally dc_Service_normally pm_Service_normally cd_Service_normally ct_Service_normally oc_Service_always kV_Service_always dc_Service_always pm_Service_always cd_Service_always ct_Service_always oc_Service_rank kV_Service_rank dc_Service_rank pm_Service_rank cd_Service_rank ct_Service_rank oc_Service_ranks kV_Service_ranks dc_Service_ranks pm_Service_ranks cd_Service_ranks ct_Service_ranks oc_Service_drop kV_Service_drop dc_Service_drop pm_Service_drop cd_Service_drop ct_Service_drop oc_Service_begins kV_Service_begins dc_Service_begins pm_Service_begins cd_Service_begins ct_Service_begins oc_Service___init__ kV_Service___init__ dc_Service___init__ pm_Service___init__ cd_Service___init__ ct_Service___init__ oc_call_end kV_call_end dc_call_end pm_call_end cd_call_end ct_call_end oc_answer_with_concepts kV_answer_with_concepts dc_answer_with_concepts pm_answer_with_concepts cd_answer_with_concepts ct_answer_with_concepts oc_answer_to kV_answer_to dc_answer_to pm_answer_to cd_answer_to ct_answer_to oc_answers kV_answers dc_answers pm_answers cd_answers ct_answers : Value}
    {nP nH : Nat}
    {tP0 tP1 tP2 tP3 tP4 tP5 tP6 tP7 tH0 tH1 tH2 tH3 tH4 tH5 tH6 tH7 t_EVERYTHING t_NOTHING t_NAME t_BOTH t_EITHER t_LACKING t_TO_SOME t_TO_ALL t_MOST_AXIOMS t_MOST_RULES t_MOST_ATOMS t_BEGINS t_LINE t_RULE t_NORMALLY t_ALWAYS t_RANK t_RANKS t_DROP : Tok}
    (X : K.In h) (G : h.Ns mainGlobals mg) (hfa : mg "answers" = some (.ref fa))
    (aC_Kinds : PySem.W.nsIn K mainGlobals "Kinds" = some (some (.ref CK)))
    (aC_Ranking : PySem.W.nsIn K mainGlobals "Ranking" = some (some (.ref CR)))
    (aC_Service : PySem.W.nsIn K mainGlobals "Service" = some (some (.ref CS)))
    (aP_ : PySem.W.nsIn K mainGlobals "PARTS" = some (some (.ref aP)))
    (aH_ : PySem.W.nsIn K mainGlobals "CHOICES" = some (some (.ref aH)))
    (lP_ : K.lookup aP = some ⟨.type "tuple", odP, .seq #[.int 0 tP0, .int 0 tP1, .int 0 tP2, .int 2 tP3, .int 2 tP4, .int 1 tP5, .int 1 tP6, .int 1 tP7] nP, slP⟩)
    (lH_ : K.lookup aH = some ⟨.type "tuple", odH, .seq #[.int 0 tH0, .int 0 tH1, .int 4 tH2, .int 0 tH3, .int 0 tH4, .int 0 tH5, .int 2 tH6, .int 2 tH7] nH, slH⟩)
    (a_is_head : PySem.W.nsIn K mainGlobals "is_head" = some (some (.ref f_is_head)))
    (l_is_head : K.lookup f_is_head = some ⟨oc_is_head, od_is_head, .func (PySem.W.fnOf "is_head" "is_head" (defArgs s_is_head) (defBody s_is_head) (defScope s_is_head) .none kV_is_head dc_is_head pm_is_head an_is_head cd_is_head ct_is_head), sl_is_head⟩)
    (c_is_head : PySem.W.codeIn K cd_is_head "is_head" = true)
    (k_is_head : PySem.W.keepIn K (.ref f_is_head) = true)
    (a_head_length : PySem.W.nsIn K mainGlobals "head_length" = some (some (.ref f_head_length)))
    (l_head_length : K.lookup f_head_length = some ⟨oc_head_length, od_head_length, .func (PySem.W.fnOf "head_length" "head_length" (defArgs s_head_length) (defBody s_head_length) (defScope s_head_length) .none kV_head_length dc_head_length pm_head_length an_head_length cd_head_length ct_head_length), sl_head_length⟩)
    (c_head_length : PySem.W.codeIn K cd_head_length "head_length" = true)
    (k_head_length : PySem.W.keepIn K (.ref f_head_length) = true)
    (a_concept_end : PySem.W.nsIn K mainGlobals "concept_end" = some (some (.ref f_concept_end)))
    (l_concept_end : K.lookup f_concept_end = some ⟨oc_concept_end, od_concept_end, .func (PySem.W.fnOf "concept_end" "concept_end" (defArgs s_concept_end) (defBody s_concept_end) (defScope s_concept_end) .none kV_concept_end dc_concept_end pm_concept_end an_concept_end cd_concept_end ct_concept_end), sl_concept_end⟩)
    (c_concept_end : PySem.W.codeIn K cd_concept_end "concept_end" = true)
    (k_concept_end : PySem.W.keepIn K (.ref f_concept_end) = true)
    (a_two_concepts : PySem.W.nsIn K mainGlobals "two_concepts" = some (some (.ref f_two_concepts)))
    (l_two_concepts : K.lookup f_two_concepts = some ⟨oc_two_concepts, od_two_concepts, .func (PySem.W.fnOf "two_concepts" "two_concepts" (defArgs s_two_concepts) (defBody s_two_concepts) (defScope s_two_concepts) .none kV_two_concepts dc_two_concepts pm_two_concepts an_two_concepts cd_two_concepts ct_two_concepts), sl_two_concepts⟩)
    (c_two_concepts : PySem.W.codeIn K cd_two_concepts "two_concepts" = true)
    (k_two_concepts : PySem.W.keepIn K (.ref f_two_concepts) = true)
    (a_one_concept : PySem.W.nsIn K mainGlobals "one_concept" = some (some (.ref f_one_concept)))
    (l_one_concept : K.lookup f_one_concept = some ⟨oc_one_concept, od_one_concept, .func (PySem.W.fnOf "one_concept" "one_concept" (defArgs s_one_concept) (defBody s_one_concept) (defScope s_one_concept) .none kV_one_concept dc_one_concept pm_one_concept an_one_concept cd_one_concept ct_one_concept), sl_one_concept⟩)
    (c_one_concept : PySem.W.codeIn K cd_one_concept "one_concept" = true)
    (k_one_concept : PySem.W.keepIn K (.ref f_one_concept) = true)
    (a_head_places : PySem.W.nsIn K mainGlobals "head_places" = some (some (.ref f_head_places)))
    (l_head_places : K.lookup f_head_places = some ⟨oc_head_places, od_head_places, .func (PySem.W.fnOf "head_places" "head_places" (defArgs s_head_places) (defBody s_head_places) (defScope s_head_places) .none kV_head_places dc_head_places pm_head_places an_head_places cd_head_places ct_head_places), sl_head_places⟩)
    (c_head_places : PySem.W.codeIn K cd_head_places "head_places" = true)
    (k_head_places : PySem.W.keepIn K (.ref f_head_places) = true)
    (a_concept_at : PySem.W.nsIn K mainGlobals "concept_at" = some (some (.ref f_concept_at)))
    (l_concept_at : K.lookup f_concept_at = some ⟨oc_concept_at, od_concept_at, .func (PySem.W.fnOf "concept_at" "concept_at" (defArgs s_concept_at) (defBody s_concept_at) (defScope s_concept_at) .none kV_concept_at dc_concept_at pm_concept_at an_concept_at cd_concept_at ct_concept_at), sl_concept_at⟩)
    (c_concept_at : PySem.W.codeIn K cd_concept_at "concept_at" = true)
    (k_concept_at : PySem.W.keepIn K (.ref f_concept_at) = true)
    (a_atoms_in : PySem.W.nsIn K mainGlobals "atoms_in" = some (some (.ref f_atoms_in)))
    (l_atoms_in : K.lookup f_atoms_in = some ⟨oc_atoms_in, od_atoms_in, .func (PySem.W.fnOf "atoms_in" "atoms_in" (defArgs s_atoms_in) (defBody s_atoms_in) (defScope s_atoms_in) .none kV_atoms_in dc_atoms_in pm_atoms_in an_atoms_in cd_atoms_in ct_atoms_in), sl_atoms_in⟩)
    (c_atoms_in : PySem.W.codeIn K cd_atoms_in "atoms_in" = true)
    (k_atoms_in : PySem.W.keepIn K (.ref f_atoms_in) = true)
    (a_kinds_with_atom : PySem.W.nsIn K mainGlobals "kinds_with_atom" = some (some (.ref f_kinds_with_atom)))
    (l_kinds_with_atom : K.lookup f_kinds_with_atom = some ⟨oc_kinds_with_atom, od_kinds_with_atom, .func (PySem.W.fnOf "kinds_with_atom" "kinds_with_atom" (defArgs s_kinds_with_atom) (defBody s_kinds_with_atom) (defScope s_kinds_with_atom) .none kV_kinds_with_atom dc_kinds_with_atom pm_kinds_with_atom an_kinds_with_atom cd_kinds_with_atom ct_kinds_with_atom), sl_kinds_with_atom⟩)
    (c_kinds_with_atom : PySem.W.codeIn K cd_kinds_with_atom "kinds_with_atom" = true)
    (k_kinds_with_atom : PySem.W.keepIn K (.ref f_kinds_with_atom) = true)
    (a_Kinds_combined : PySem.W.findIn K (.ref CK) "combined" = some (some (.ref f_Kinds_combined)))
    (i_Kinds_combined : PySem.W.isFn K (.ref f_Kinds_combined) = true)
    (l_Kinds_combined : K.lookup f_Kinds_combined = some ⟨oc_Kinds_combined, od_Kinds_combined, .func (PySem.W.fnOf "combined" "Kinds.combined" (defArgs s_Kinds_combined) (defBody s_Kinds_combined) (defScope s_Kinds_combined) .none kV_Kinds_combined dc_Kinds_combined pm_Kinds_combined an_Kinds_combined cd_Kinds_combined ct_Kinds_combined), sl_Kinds_combined⟩)
    (c_Kinds_combined : PySem.W.codeIn K cd_Kinds_combined "Kinds.combined" = true)
    (k_Kinds_combined : PySem.W.keepIn K (.ref f_Kinds_combined) = true)
    (a_Kinds_having : PySem.W.findIn K (.ref CK) "having" = some (some (.ref f_Kinds_having)))
    (i_Kinds_having : PySem.W.isFn K (.ref f_Kinds_having) = true)
    (l_Kinds_having : K.lookup f_Kinds_having = some ⟨oc_Kinds_having, od_Kinds_having, .func (PySem.W.fnOf "having" "Kinds.having" (defArgs s_Kinds_having) (defBody s_Kinds_having) (defScope s_Kinds_having) .none kV_Kinds_having dc_Kinds_having pm_Kinds_having an_Kinds_having cd_Kinds_having ct_Kinds_having), sl_Kinds_having⟩)
    (c_Kinds_having : PySem.W.codeIn K cd_Kinds_having "Kinds.having" = true)
    (k_Kinds_having : PySem.W.keepIn K (.ref f_Kinds_having) = true)
    (a_Kinds_link : PySem.W.findIn K (.ref CK) "link" = some (some (.ref f_Kinds_link)))
    (i_Kinds_link : PySem.W.isFn K (.ref f_Kinds_link) = true)
    (l_Kinds_link : K.lookup f_Kinds_link = some ⟨oc_Kinds_link, od_Kinds_link, .func (PySem.W.fnOf "link" "Kinds.link" (defArgs s_Kinds_link) (defBody s_Kinds_link) (defScope s_Kinds_link) .none kV_Kinds_link dc_Kinds_link pm_Kinds_link an_Kinds_link cd_Kinds_link ct_Kinds_link), sl_Kinds_link⟩)
    (c_Kinds_link : PySem.W.codeIn K cd_Kinds_link "Kinds.link" = true)
    (k_Kinds_link : PySem.W.keepIn K (.ref f_Kinds_link) = true)
    (a_Kinds_allowed : PySem.W.findIn K (.ref CK) "allowed" = some (some (.ref f_Kinds_allowed)))
    (i_Kinds_allowed : PySem.W.isFn K (.ref f_Kinds_allowed) = true)
    (l_Kinds_allowed : K.lookup f_Kinds_allowed = some ⟨oc_Kinds_allowed, od_Kinds_allowed, .func (PySem.W.fnOf "allowed" "Kinds.allowed" (defArgs s_Kinds_allowed) (defBody s_Kinds_allowed) (defScope s_Kinds_allowed) .none kV_Kinds_allowed dc_Kinds_allowed pm_Kinds_allowed an_Kinds_allowed cd_Kinds_allowed ct_Kinds_allowed), sl_Kinds_allowed⟩)
    (c_Kinds_allowed : PySem.W.codeIn K cd_Kinds_allowed "Kinds.allowed" = true)
    (k_Kinds_allowed : PySem.W.keepIn K (.ref f_Kinds_allowed) = true)
    (a_Kinds_finds_all : PySem.W.findIn K (.ref CK) "finds_all" = some (some (.ref f_Kinds_finds_all)))
    (i_Kinds_finds_all : PySem.W.isFn K (.ref f_Kinds_finds_all) = true)
    (l_Kinds_finds_all : K.lookup f_Kinds_finds_all = some ⟨oc_Kinds_finds_all, od_Kinds_finds_all, .func (PySem.W.fnOf "finds_all" "Kinds.finds_all" (defArgs s_Kinds_finds_all) (defBody s_Kinds_finds_all) (defScope s_Kinds_finds_all) .none kV_Kinds_finds_all dc_Kinds_finds_all pm_Kinds_finds_all an_Kinds_finds_all cd_Kinds_finds_all ct_Kinds_finds_all), sl_Kinds_finds_all⟩)
    (c_Kinds_finds_all : PySem.W.codeIn K cd_Kinds_finds_all "Kinds.finds_all" = true)
    (k_Kinds_finds_all : PySem.W.keepIn K (.ref f_Kinds_finds_all) = true)
    (a_Kinds_supported_by : PySem.W.findIn K (.ref CK) "supported_by" = some (some (.ref f_Kinds_supported_by)))
    (i_Kinds_supported_by : PySem.W.isFn K (.ref f_Kinds_supported_by) = true)
    (l_Kinds_supported_by : K.lookup f_Kinds_supported_by = some ⟨oc_Kinds_supported_by, od_Kinds_supported_by, .func (PySem.W.fnOf "supported_by" "Kinds.supported_by" (defArgs s_Kinds_supported_by) (defBody s_Kinds_supported_by) (defScope s_Kinds_supported_by) .none kV_Kinds_supported_by dc_Kinds_supported_by pm_Kinds_supported_by an_Kinds_supported_by cd_Kinds_supported_by ct_Kinds_supported_by), sl_Kinds_supported_by⟩)
    (c_Kinds_supported_by : PySem.W.codeIn K cd_Kinds_supported_by "Kinds.supported_by" = true)
    (k_Kinds_supported_by : PySem.W.keepIn K (.ref f_Kinds_supported_by) = true)
    (a_Kinds_satisfying : PySem.W.findIn K (.ref CK) "satisfying" = some (some (.ref f_Kinds_satisfying)))
    (i_Kinds_satisfying : PySem.W.isFn K (.ref f_Kinds_satisfying) = true)
    (l_Kinds_satisfying : K.lookup f_Kinds_satisfying = some ⟨oc_Kinds_satisfying, od_Kinds_satisfying, .func (PySem.W.fnOf "satisfying" "Kinds.satisfying" (defArgs s_Kinds_satisfying) (defBody s_Kinds_satisfying) (defScope s_Kinds_satisfying) .none kV_Kinds_satisfying dc_Kinds_satisfying pm_Kinds_satisfying an_Kinds_satisfying cd_Kinds_satisfying ct_Kinds_satisfying), sl_Kinds_satisfying⟩)
    (c_Kinds_satisfying : PySem.W.codeIn K cd_Kinds_satisfying "Kinds.satisfying" = true)
    (k_Kinds_satisfying : PySem.W.keepIn K (.ref f_Kinds_satisfying) = true)
    (a_Kinds_occurring : PySem.W.findIn K (.ref CK) "occurring" = some (some (.ref f_Kinds_occurring)))
    (i_Kinds_occurring : PySem.W.isFn K (.ref f_Kinds_occurring) = true)
    (l_Kinds_occurring : K.lookup f_Kinds_occurring = some ⟨oc_Kinds_occurring, od_Kinds_occurring, .func (PySem.W.fnOf "occurring" "Kinds.occurring" (defArgs s_Kinds_occurring) (defBody s_Kinds_occurring) (defScope s_Kinds_occurring) .none kV_Kinds_occurring dc_Kinds_occurring pm_Kinds_occurring an_Kinds_occurring cd_Kinds_occurring ct_Kinds_occurring), sl_Kinds_occurring⟩)
    (c_Kinds_occurring : PySem.W.codeIn K cd_Kinds_occurring "Kinds.occurring" = true)
    (k_Kinds_occurring : PySem.W.keepIn K (.ref f_Kinds_occurring) = true)
    (a_Kinds___init__ : PySem.W.findIn K (.ref CK) "__init__" = some (some (.ref f_Kinds___init__)))
    (i_Kinds___init__ : PySem.W.isFn K (.ref f_Kinds___init__) = true)
    (l_Kinds___init__ : K.lookup f_Kinds___init__ = some ⟨oc_Kinds___init__, od_Kinds___init__, .func (PySem.W.fnOf "__init__" "Kinds.__init__" (defArgs s_Kinds___init__) (defBody s_Kinds___init__) (defScope s_Kinds___init__) .none kV_Kinds___init__ dc_Kinds___init__ pm_Kinds___init__ an_Kinds___init__ cd_Kinds___init__ ct_Kinds___init__), sl_Kinds___init__⟩)
    (c_Kinds___init__ : PySem.W.codeIn K cd_Kinds___init__ "Kinds.__init__" = true)
    (k_Kinds___init__ : PySem.W.keepIn K (.ref f_Kinds___init__) = true)
    (a_exceptional_rules : PySem.W.nsIn K mainGlobals "exceptional_rules" = some (some (.ref f_exceptional_rules)))
    (l_exceptional_rules : K.lookup f_exceptional_rules = some ⟨oc_exceptional_rules, od_exceptional_rules, .func (PySem.W.fnOf "exceptional_rules" "exceptional_rules" (defArgs s_exceptional_rules) (defBody s_exceptional_rules) (defScope s_exceptional_rules) .none kV_exceptional_rules dc_exceptional_rules pm_exceptional_rules an_exceptional_rules cd_exceptional_rules ct_exceptional_rules), sl_exceptional_rules⟩)
    (c_exceptional_rules : PySem.W.codeIn K cd_exceptional_rules "exceptional_rules" = true)
    (k_exceptional_rules : PySem.W.keepIn K (.ref f_exceptional_rules) = true)
    (a_narrowed : PySem.W.nsIn K mainGlobals "narrowed" = some (some (.ref f_narrowed)))
    (l_narrowed : K.lookup f_narrowed = some ⟨oc_narrowed, od_narrowed, .func (PySem.W.fnOf "narrowed" "narrowed" (defArgs s_narrowed) (defBody s_narrowed) (defScope s_narrowed) .none kV_narrowed dc_narrowed pm_narrowed an_narrowed cd_narrowed ct_narrowed), sl_narrowed⟩)
    (c_narrowed : PySem.W.codeIn K cd_narrowed "narrowed" = true)
    (k_narrowed : PySem.W.keepIn K (.ref f_narrowed) = true)
    (a_Ranking_rank_of : PySem.W.findIn K (.ref CR) "rank_of" = some (some (.ref f_Ranking_rank_of)))
    (i_Ranking_rank_of : PySem.W.isFn K (.ref f_Ranking_rank_of) = true)
    (l_Ranking_rank_of : K.lookup f_Ranking_rank_of = some ⟨oc_Ranking_rank_of, od_Ranking_rank_of, .func (PySem.W.fnOf "rank_of" "Ranking.rank_of" (defArgs s_Ranking_rank_of) (defBody s_Ranking_rank_of) (defScope s_Ranking_rank_of) .none kV_Ranking_rank_of dc_Ranking_rank_of pm_Ranking_rank_of an_Ranking_rank_of cd_Ranking_rank_of ct_Ranking_rank_of), sl_Ranking_rank_of⟩)
    (c_Ranking_rank_of : PySem.W.codeIn K cd_Ranking_rank_of "Ranking.rank_of" = true)
    (k_Ranking_rank_of : PySem.W.keepIn K (.ref f_Ranking_rank_of) = true)
    (a_Ranking_all_have : PySem.W.findIn K (.ref CR) "all_have" = some (some (.ref f_Ranking_all_have)))
    (i_Ranking_all_have : PySem.W.isFn K (.ref f_Ranking_all_have) = true)
    (l_Ranking_all_have : K.lookup f_Ranking_all_have = some ⟨oc_Ranking_all_have, od_Ranking_all_have, .func (PySem.W.fnOf "all_have" "Ranking.all_have" (defArgs s_Ranking_all_have) (defBody s_Ranking_all_have) (defScope s_Ranking_all_have) .none kV_Ranking_all_have dc_Ranking_all_have pm_Ranking_all_have an_Ranking_all_have cd_Ranking_all_have ct_Ranking_all_have), sl_Ranking_all_have⟩)
    (c_Ranking_all_have : PySem.W.codeIn K cd_Ranking_all_have "Ranking.all_have" = true)
    (k_Ranking_all_have : PySem.W.keepIn K (.ref f_Ranking_all_have) = true)
    (a_Ranking_always_holds : PySem.W.findIn K (.ref CR) "always_holds" = some (some (.ref f_Ranking_always_holds)))
    (i_Ranking_always_holds : PySem.W.isFn K (.ref f_Ranking_always_holds) = true)
    (l_Ranking_always_holds : K.lookup f_Ranking_always_holds = some ⟨oc_Ranking_always_holds, od_Ranking_always_holds, .func (PySem.W.fnOf "always_holds" "Ranking.always_holds" (defArgs s_Ranking_always_holds) (defBody s_Ranking_always_holds) (defScope s_Ranking_always_holds) .none kV_Ranking_always_holds dc_Ranking_always_holds pm_Ranking_always_holds an_Ranking_always_holds cd_Ranking_always_holds ct_Ranking_always_holds), sl_Ranking_always_holds⟩)
    (c_Ranking_always_holds : PySem.W.codeIn K cd_Ranking_always_holds "Ranking.always_holds" = true)
    (k_Ranking_always_holds : PySem.W.keepIn K (.ref f_Ranking_always_holds) = true)
    (a_Ranking_normally_holds : PySem.W.findIn K (.ref CR) "normally_holds" = some (some (.ref f_Ranking_normally_holds)))
    (i_Ranking_normally_holds : PySem.W.isFn K (.ref f_Ranking_normally_holds) = true)
    (l_Ranking_normally_holds : K.lookup f_Ranking_normally_holds = some ⟨oc_Ranking_normally_holds, od_Ranking_normally_holds, .func (PySem.W.fnOf "normally_holds" "Ranking.normally_holds" (defArgs s_Ranking_normally_holds) (defBody s_Ranking_normally_holds) (defScope s_Ranking_normally_holds) .none kV_Ranking_normally_holds dc_Ranking_normally_holds pm_Ranking_normally_holds an_Ranking_normally_holds cd_Ranking_normally_holds ct_Ranking_normally_holds), sl_Ranking_normally_holds⟩)
    (c_Ranking_normally_holds : PySem.W.codeIn K cd_Ranking_normally_holds "Ranking.normally_holds" = true)
    (k_Ranking_normally_holds : PySem.W.keepIn K (.ref f_Ranking_normally_holds) = true)
    (a_Ranking_ranks_with : PySem.W.findIn K (.ref CR) "ranks_with" = some (some (.ref f_Ranking_ranks_with)))
    (i_Ranking_ranks_with : PySem.W.isFn K (.ref f_Ranking_ranks_with) = true)
    (l_Ranking_ranks_with : K.lookup f_Ranking_ranks_with = some ⟨oc_Ranking_ranks_with, od_Ranking_ranks_with, .func (PySem.W.fnOf "ranks_with" "Ranking.ranks_with" (defArgs s_Ranking_ranks_with) (defBody s_Ranking_ranks_with) (defScope s_Ranking_ranks_with) .none kV_Ranking_ranks_with dc_Ranking_ranks_with pm_Ranking_ranks_with an_Ranking_ranks_with cd_Ranking_ranks_with ct_Ranking_ranks_with), sl_Ranking_ranks_with⟩)
    (c_Ranking_ranks_with : PySem.W.codeIn K cd_Ranking_ranks_with "Ranking.ranks_with" = true)
    (k_Ranking_ranks_with : PySem.W.keepIn K (.ref f_Ranking_ranks_with) = true)
    (a_Ranking___init__ : PySem.W.findIn K (.ref CR) "__init__" = some (some (.ref f_Ranking___init__)))
    (i_Ranking___init__ : PySem.W.isFn K (.ref f_Ranking___init__) = true)
    (l_Ranking___init__ : K.lookup f_Ranking___init__ = some ⟨oc_Ranking___init__, od_Ranking___init__, .func (PySem.W.fnOf "__init__" "Ranking.__init__" (defArgs s_Ranking___init__) (defBody s_Ranking___init__) (defScope s_Ranking___init__) .none kV_Ranking___init__ dc_Ranking___init__ pm_Ranking___init__ an_Ranking___init__ cd_Ranking___init__ ct_Ranking___init__), sl_Ranking___init__⟩)
    (c_Ranking___init__ : PySem.W.codeIn K cd_Ranking___init__ "Ranking.__init__" = true)
    (k_Ranking___init__ : PySem.W.keepIn K (.ref f_Ranking___init__) = true)
    (a_Service_atoms_with : PySem.W.findIn K (.ref CS) "atoms_with" = some (some (.ref f_Service_atoms_with)))
    (i_Service_atoms_with : PySem.W.isFn K (.ref f_Service_atoms_with) = true)
    (l_Service_atoms_with : K.lookup f_Service_atoms_with = some ⟨oc_Service_atoms_with, od_Service_atoms_with, .func (PySem.W.fnOf "atoms_with" "Service.atoms_with" (defArgs s_Service_atoms_with) (defBody s_Service_atoms_with) (defScope s_Service_atoms_with) .none kV_Service_atoms_with dc_Service_atoms_with pm_Service_atoms_with an_Service_atoms_with cd_Service_atoms_with ct_Service_atoms_with), sl_Service_atoms_with⟩)
    (c_Service_atoms_with : PySem.W.codeIn K cd_Service_atoms_with "Service.atoms_with" = true)
    (k_Service_atoms_with : PySem.W.keepIn K (.ref f_Service_atoms_with) = true)
    (a_Service_has_too_many_atoms : PySem.W.findIn K (.ref CS) "has_too_many_atoms" = some (some (.ref f_Service_has_too_many_atoms)))
    (i_Service_has_too_many_atoms : PySem.W.isFn K (.ref f_Service_has_too_many_atoms) = true)
    (l_Service_has_too_many_atoms : K.lookup f_Service_has_too_many_atoms = some ⟨oc_Service_has_too_many_atoms, od_Service_has_too_many_atoms, .func (PySem.W.fnOf "has_too_many_atoms" "Service.has_too_many_atoms" (defArgs s_Service_has_too_many_atoms) (defBody s_Service_has_too_many_atoms) (defScope s_Service_has_too_many_atoms) .none kV_Service_has_too_many_atoms dc_Service_has_too_many_atoms pm_Service_has_too_many_atoms an_Service_has_too_many_atoms cd_Service_has_too_many_atoms ct_Service_has_too_many_atoms), sl_Service_has_too_many_atoms⟩)
    (c_Service_has_too_many_atoms : PySem.W.codeIn K cd_Service_has_too_many_atoms "Service.has_too_many_atoms" = true)
    (k_Service_has_too_many_atoms : PySem.W.keepIn K (.ref f_Service_has_too_many_atoms) = true)
    (a_Service_ranking_with : PySem.W.findIn K (.ref CS) "ranking_with" = some (some (.ref f_Service_ranking_with)))
    (i_Service_ranking_with : PySem.W.isFn K (.ref f_Service_ranking_with) = true)
    (l_Service_ranking_with : K.lookup f_Service_ranking_with = some ⟨oc_Service_ranking_with, od_Service_ranking_with, .func (PySem.W.fnOf "ranking_with" "Service.ranking_with" (defArgs s_Service_ranking_with) (defBody s_Service_ranking_with) (defScope s_Service_ranking_with) .none kV_Service_ranking_with dc_Service_ranking_with pm_Service_ranking_with an_Service_ranking_with cd_Service_ranking_with ct_Service_ranking_with), sl_Service_ranking_with⟩)
    (c_Service_ranking_with : PySem.W.codeIn K cd_Service_ranking_with "Service.ranking_with" = true)
    (k_Service_ranking_with : PySem.W.keepIn K (.ref f_Service_ranking_with) = true)
    (a_Service_line : PySem.W.findIn K (.ref CS) "line" = some (some (.ref f_Service_line)))
    (i_Service_line : PySem.W.isFn K (.ref f_Service_line) = true)
    (l_Service_line : K.lookup f_Service_line = some ⟨oc_Service_line, od_Service_line, .func (PySem.W.fnOf "line" "Service.line" (defArgs s_Service_line) (defBody s_Service_line) (defScope s_Service_line) .none kV_Service_line dc_Service_line pm_Service_line an_Service_line cd_Service_line ct_Service_line), sl_Service_line⟩)
    (c_Service_line : PySem.W.codeIn K cd_Service_line "Service.line" = true)
    (k_Service_line : PySem.W.keepIn K (.ref f_Service_line) = true)
    (a_Service_rule : PySem.W.findIn K (.ref CS) "rule" = some (some (.ref f_Service_rule)))
    (i_Service_rule : PySem.W.isFn K (.ref f_Service_rule) = true)
    (l_Service_rule : K.lookup f_Service_rule = some ⟨oc_Service_rule, od_Service_rule, .func (PySem.W.fnOf "rule" "Service.rule" (defArgs s_Service_rule) (defBody s_Service_rule) (defScope s_Service_rule) .none kV_Service_rule dc_Service_rule pm_Service_rule an_Service_rule cd_Service_rule ct_Service_rule), sl_Service_rule⟩)
    (c_Service_rule : PySem.W.codeIn K cd_Service_rule "Service.rule" = true)
    (k_Service_rule : PySem.W.keepIn K (.ref f_Service_rule) = true)
    (a_Service_normally : PySem.W.findIn K (.ref CS) "normally" = some (some (.ref f_Service_normally)))
    (i_Service_normally : PySem.W.isFn K (.ref f_Service_normally) = true)
    (l_Service_normally : K.lookup f_Service_normally = some ⟨oc_Service_normally, od_Service_normally, .func (PySem.W.fnOf "normally" "Service.normally" (defArgs s_Service_normally) (defBody s_Service_normally) (defScope s_Service_normally) .none kV_Service_normally dc_Service_normally pm_Service_normally an_Service_normally cd_Service_normally ct_Service_normally), sl_Service_normally⟩)
    (c_Service_normally : PySem.W.codeIn K cd_Service_normally "Service.normally" = true)
    (k_Service_normally : PySem.W.keepIn K (.ref f_Service_normally) = true)
    (a_Service_always : PySem.W.findIn K (.ref CS) "always" = some (some (.ref f_Service_always)))
    (i_Service_always : PySem.W.isFn K (.ref f_Service_always) = true)
    (l_Service_always : K.lookup f_Service_always = some ⟨oc_Service_always, od_Service_always, .func (PySem.W.fnOf "always" "Service.always" (defArgs s_Service_always) (defBody s_Service_always) (defScope s_Service_always) .none kV_Service_always dc_Service_always pm_Service_always an_Service_always cd_Service_always ct_Service_always), sl_Service_always⟩)
    (c_Service_always : PySem.W.codeIn K cd_Service_always "Service.always" = true)
    (k_Service_always : PySem.W.keepIn K (.ref f_Service_always) = true)
    (a_Service_rank : PySem.W.findIn K (.ref CS) "rank" = some (some (.ref f_Service_rank)))
    (i_Service_rank : PySem.W.isFn K (.ref f_Service_rank) = true)
    (l_Service_rank : K.lookup f_Service_rank = some ⟨oc_Service_rank, od_Service_rank, .func (PySem.W.fnOf "rank" "Service.rank" (defArgs s_Service_rank) (defBody s_Service_rank) (defScope s_Service_rank) .none kV_Service_rank dc_Service_rank pm_Service_rank an_Service_rank cd_Service_rank ct_Service_rank), sl_Service_rank⟩)
    (c_Service_rank : PySem.W.codeIn K cd_Service_rank "Service.rank" = true)
    (k_Service_rank : PySem.W.keepIn K (.ref f_Service_rank) = true)
    (a_Service_ranks : PySem.W.findIn K (.ref CS) "ranks" = some (some (.ref f_Service_ranks)))
    (i_Service_ranks : PySem.W.isFn K (.ref f_Service_ranks) = true)
    (l_Service_ranks : K.lookup f_Service_ranks = some ⟨oc_Service_ranks, od_Service_ranks, .func (PySem.W.fnOf "ranks" "Service.ranks" (defArgs s_Service_ranks) (defBody s_Service_ranks) (defScope s_Service_ranks) .none kV_Service_ranks dc_Service_ranks pm_Service_ranks an_Service_ranks cd_Service_ranks ct_Service_ranks), sl_Service_ranks⟩)
    (c_Service_ranks : PySem.W.codeIn K cd_Service_ranks "Service.ranks" = true)
    (k_Service_ranks : PySem.W.keepIn K (.ref f_Service_ranks) = true)
    (a_Service_drop : PySem.W.findIn K (.ref CS) "drop" = some (some (.ref f_Service_drop)))
    (i_Service_drop : PySem.W.isFn K (.ref f_Service_drop) = true)
    (l_Service_drop : K.lookup f_Service_drop = some ⟨oc_Service_drop, od_Service_drop, .func (PySem.W.fnOf "drop" "Service.drop" (defArgs s_Service_drop) (defBody s_Service_drop) (defScope s_Service_drop) .none kV_Service_drop dc_Service_drop pm_Service_drop an_Service_drop cd_Service_drop ct_Service_drop), sl_Service_drop⟩)
    (c_Service_drop : PySem.W.codeIn K cd_Service_drop "Service.drop" = true)
    (k_Service_drop : PySem.W.keepIn K (.ref f_Service_drop) = true)
    (a_Service_begins : PySem.W.findIn K (.ref CS) "begins" = some (some (.ref f_Service_begins)))
    (i_Service_begins : PySem.W.isFn K (.ref f_Service_begins) = true)
    (l_Service_begins : K.lookup f_Service_begins = some ⟨oc_Service_begins, od_Service_begins, .func (PySem.W.fnOf "begins" "Service.begins" (defArgs s_Service_begins) (defBody s_Service_begins) (defScope s_Service_begins) .none kV_Service_begins dc_Service_begins pm_Service_begins an_Service_begins cd_Service_begins ct_Service_begins), sl_Service_begins⟩)
    (c_Service_begins : PySem.W.codeIn K cd_Service_begins "Service.begins" = true)
    (k_Service_begins : PySem.W.keepIn K (.ref f_Service_begins) = true)
    (a_Service___init__ : PySem.W.findIn K (.ref CS) "__init__" = some (some (.ref f_Service___init__)))
    (i_Service___init__ : PySem.W.isFn K (.ref f_Service___init__) = true)
    (l_Service___init__ : K.lookup f_Service___init__ = some ⟨oc_Service___init__, od_Service___init__, .func (PySem.W.fnOf "__init__" "Service.__init__" (defArgs s_Service___init__) (defBody s_Service___init__) (defScope s_Service___init__) .none kV_Service___init__ dc_Service___init__ pm_Service___init__ an_Service___init__ cd_Service___init__ ct_Service___init__), sl_Service___init__⟩)
    (c_Service___init__ : PySem.W.codeIn K cd_Service___init__ "Service.__init__" = true)
    (k_Service___init__ : PySem.W.keepIn K (.ref f_Service___init__) = true)
    (a_call_end : PySem.W.nsIn K mainGlobals "call_end" = some (some (.ref f_call_end)))
    (l_call_end : K.lookup f_call_end = some ⟨oc_call_end, od_call_end, .func (PySem.W.fnOf "call_end" "call_end" (defArgs s_call_end) (defBody s_call_end) (defScope s_call_end) .none kV_call_end dc_call_end pm_call_end an_call_end cd_call_end ct_call_end), sl_call_end⟩)
    (c_call_end : PySem.W.codeIn K cd_call_end "call_end" = true)
    (k_call_end : PySem.W.keepIn K (.ref f_call_end) = true)
    (a_answer_with_concepts : PySem.W.nsIn K mainGlobals "answer_with_concepts" = some (some (.ref f_answer_with_concepts)))
    (l_answer_with_concepts : K.lookup f_answer_with_concepts = some ⟨oc_answer_with_concepts, od_answer_with_concepts, .func (PySem.W.fnOf "answer_with_concepts" "answer_with_concepts" (defArgs s_answer_with_concepts) (defBody s_answer_with_concepts) (defScope s_answer_with_concepts) .none kV_answer_with_concepts dc_answer_with_concepts pm_answer_with_concepts an_answer_with_concepts cd_answer_with_concepts ct_answer_with_concepts), sl_answer_with_concepts⟩)
    (c_answer_with_concepts : PySem.W.codeIn K cd_answer_with_concepts "answer_with_concepts" = true)
    (k_answer_with_concepts : PySem.W.keepIn K (.ref f_answer_with_concepts) = true)
    (a_answer_to : PySem.W.nsIn K mainGlobals "answer_to" = some (some (.ref f_answer_to)))
    (l_answer_to : K.lookup f_answer_to = some ⟨oc_answer_to, od_answer_to, .func (PySem.W.fnOf "answer_to" "answer_to" (defArgs s_answer_to) (defBody s_answer_to) (defScope s_answer_to) .none kV_answer_to dc_answer_to pm_answer_to an_answer_to cd_answer_to ct_answer_to), sl_answer_to⟩)
    (c_answer_to : PySem.W.codeIn K cd_answer_to "answer_to" = true)
    (k_answer_to : PySem.W.keepIn K (.ref f_answer_to) = true)
    (a_answers : PySem.W.nsIn K mainGlobals "answers" = some (some (.ref f_answers)))
    (l_answers : K.lookup f_answers = some ⟨oc_answers, od_answers, .func (PySem.W.fnOf "answers" "answers" (defArgs s_answers) (defBody s_answers) (defScope s_answers) .none kV_answers dc_answers pm_answers an_answers cd_answers ct_answers), sl_answers⟩)
    (c_answers : PySem.W.codeIn K cd_answers "answers" = true)
    (k_answers : PySem.W.keepIn K (.ref f_answers) = true)
    (pg_Kinds : PySem.W.plainGet K CK Str.empty = true)
    (hd_Kinds : PySem.W.hasDictIn K CK = true)
    (po_Kinds : PySem.W.plainOver K CK = true)
    (sa_Kinds : PySem.W.findIn K (.ref CK) "__setattr__" = some (some (.builtin "object.__setattr__")))
    (mk_Kinds : PySem.W.makesIn K CK = true)
    (kc_Kinds : PySem.W.keepIn K (.ref CK) = true)
    (n_Kinds_amount : PySem.W.findIn K (.ref CK) "amount" = some none)
    (n_Kinds_every : PySem.W.findIn K (.ref CK) "every" = some none)
    (n_Kinds_columns : PySem.W.findIn K (.ref CK) "columns" = some none)
    (n_Kinds_links : PySem.W.findIn K (.ref CK) "links" = some none)
    (pg_Ranking : PySem.W.plainGet K CR Str.empty = true)
    (hd_Ranking : PySem.W.hasDictIn K CR = true)
    (po_Ranking : PySem.W.plainOver K CR = true)
    (sa_Ranking : PySem.W.findIn K (.ref CR) "__setattr__" = some (some (.builtin "object.__setattr__")))
    (mk_Ranking : PySem.W.makesIn K CR = true)
    (kc_Ranking : PySem.W.keepIn K (.ref CR) = true)
    (n_Ranking_kinds : PySem.W.findIn K (.ref CR) "kinds" = some none)
    (n_Ranking_possible : PySem.W.findIn K (.ref CR) "possible" = some none)
    (n_Ranking_levels : PySem.W.findIn K (.ref CR) "levels" = some none)
    (pg_Service : PySem.W.plainGet K CS Str.empty = true)
    (hd_Service : PySem.W.hasDictIn K CS = true)
    (po_Service : PySem.W.plainOver K CS = true)
    (sa_Service : PySem.W.findIn K (.ref CS) "__setattr__" = some (some (.builtin "object.__setattr__")))
    (mk_Service : PySem.W.makesIn K CS = true)
    (kc_Service : PySem.W.keepIn K (.ref CS) = true)
    (n_Service_axioms : PySem.W.findIn K (.ref CS) "axioms" = some none)
    (n_Service_rules : PySem.W.findIn K (.ref CS) "rules" = some none)
    (g_EVERYTHING : PySem.W.nsIn K mainGlobals "EVERYTHING" = some (some (.int 0 t_EVERYTHING)))
    (g_NOTHING : PySem.W.nsIn K mainGlobals "NOTHING" = some (some (.int 1 t_NOTHING)))
    (g_NAME : PySem.W.nsIn K mainGlobals "NAME" = some (some (.int 2 t_NAME)))
    (g_BOTH : PySem.W.nsIn K mainGlobals "BOTH" = some (some (.int 3 t_BOTH)))
    (g_EITHER : PySem.W.nsIn K mainGlobals "EITHER" = some (some (.int 4 t_EITHER)))
    (g_LACKING : PySem.W.nsIn K mainGlobals "LACKING" = some (some (.int 5 t_LACKING)))
    (g_TO_SOME : PySem.W.nsIn K mainGlobals "TO_SOME" = some (some (.int 6 t_TO_SOME)))
    (g_TO_ALL : PySem.W.nsIn K mainGlobals "TO_ALL" = some (some (.int 7 t_TO_ALL)))
    (g_MOST_AXIOMS : PySem.W.nsIn K mainGlobals "MOST_AXIOMS" = some (some (.int 3 t_MOST_AXIOMS)))
    (g_MOST_RULES : PySem.W.nsIn K mainGlobals "MOST_RULES" = some (some (.int 4 t_MOST_RULES)))
    (g_MOST_ATOMS : PySem.W.nsIn K mainGlobals "MOST_ATOMS" = some (some (.int 4 t_MOST_ATOMS)))
    (g_BEGINS : PySem.W.nsIn K mainGlobals "BEGINS" = some (some (.int 0 t_BEGINS)))
    (g_LINE : PySem.W.nsIn K mainGlobals "LINE" = some (some (.int 1 t_LINE)))
    (g_RULE : PySem.W.nsIn K mainGlobals "RULE" = some (some (.int 2 t_RULE)))
    (g_NORMALLY : PySem.W.nsIn K mainGlobals "NORMALLY" = some (some (.int 3 t_NORMALLY)))
    (g_ALWAYS : PySem.W.nsIn K mainGlobals "ALWAYS" = some (some (.int 4 t_ALWAYS)))
    (g_RANK : PySem.W.nsIn K mainGlobals "RANK" = some (some (.int 5 t_RANK)))
    (g_RANKS : PySem.W.nsIn K mainGlobals "RANKS" = some (some (.int 6 t_RANKS)))
    (g_DROP : PySem.W.nsIn K mainGlobals "DROP" = some (some (.int 7 t_DROP)))
    (z_len : PySem.W.nsIn K mainGlobals "len" = some none)
    (z_range : PySem.W.nsIn K mainGlobals "range" = some none)
    (z_enumerate : PySem.W.nsIn K mainGlobals "enumerate" = some none)
    (z_reversed : PySem.W.nsIn K mainGlobals "reversed" = some none)
    (z_tuple : PySem.W.nsIn K mainGlobals "tuple" = some none)
    (z_list : PySem.W.nsIn K mainGlobals "list" = some none) :
    ∃ fd : FuncData, (∀ (s : Shared) (us : List Value), us.length = (["calls"] : List Str).length → BindsTo s fd ⟨us, []⟩ ((["calls"] : List Str).zip us)) ∧ ∀ base : Heap, K.In base → base.Ns mainGlobals mg → FnOk P w K mg base CX0 15 fa fd ["calls"] (sp_answers K) := by
  have e := hfa.symm.trans (PySem.W.mg_of X G a_answers)
  cases e
  have T : Txt K mg aP aH := {
    c_EVERYTHING := ⟨_, PySem.W.mg_of X G g_EVERYTHING, ⟨_, rfl⟩⟩
    c_NOTHING := ⟨_, PySem.W.mg_of X G g_NOTHING, ⟨_, rfl⟩⟩
    c_NAME := ⟨_, PySem.W.mg_of X G g_NAME, ⟨_, rfl⟩⟩
    c_BOTH := ⟨_, PySem.W.mg_of X G g_BOTH, ⟨_, rfl⟩⟩
    c_EITHER := ⟨_, PySem.W.mg_of X G g_EITHER, ⟨_, rfl⟩⟩
    c_LACKING := ⟨_, PySem.W.mg_of X G g_LACKING, ⟨_, rfl⟩⟩
    c_TO_SOME := ⟨_, PySem.W.mg_of X G g_TO_SOME, ⟨_, rfl⟩⟩
    c_TO_ALL := ⟨_, PySem.W.mg_of X G g_TO_ALL, ⟨_, rfl⟩⟩
    c_MOST_AXIOMS := ⟨_, PySem.W.mg_of X G g_MOST_AXIOMS, ⟨_, rfl⟩⟩
    c_MOST_RULES := ⟨_, PySem.W.mg_of X G g_MOST_RULES, ⟨_, rfl⟩⟩
    c_MOST_ATOMS := ⟨_, PySem.W.mg_of X G g_MOST_ATOMS, ⟨_, rfl⟩⟩
    c_BEGINS := ⟨_, PySem.W.mg_of X G g_BEGINS, ⟨_, rfl⟩⟩
    c_LINE := ⟨_, PySem.W.mg_of X G g_LINE, ⟨_, rfl⟩⟩
    c_RULE := ⟨_, PySem.W.mg_of X G g_RULE, ⟨_, rfl⟩⟩
    c_NORMALLY := ⟨_, PySem.W.mg_of X G g_NORMALLY, ⟨_, rfl⟩⟩
    c_ALWAYS := ⟨_, PySem.W.mg_of X G g_ALWAYS, ⟨_, rfl⟩⟩
    c_RANK := ⟨_, PySem.W.mg_of X G g_RANK, ⟨_, rfl⟩⟩
    c_RANKS := ⟨_, PySem.W.mg_of X G g_RANKS, ⟨_, rfl⟩⟩
    c_DROP := ⟨_, PySem.W.mg_of X G g_DROP, ⟨_, rfl⟩⟩
    c_PARTS := ⟨_, PySem.W.mg_of X G aP_, rfl⟩
    c_CHOICES := ⟨_, PySem.W.mg_of X G aH_, rfl⟩
    s_PARTS := fun H => Or.inr ⟨_, _, _, lP_, rfl, rfl, (by show 8 ≤ sizeLine; decide), .cons ⟨_, rfl⟩ (.cons ⟨_, rfl⟩ (.cons ⟨_, rfl⟩ (.cons ⟨_, rfl⟩ (.cons ⟨_, rfl⟩ (.cons ⟨_, rfl⟩ (.cons ⟨_, rfl⟩ (.cons ⟨_, rfl⟩ .nil)))))))⟩
    s_CHOICES := fun H => Or.inr ⟨_, _, _, lH_, rfl, rfl, (by show 8 ≤ sizeLine; decide), .cons ⟨_, rfl⟩ (.cons ⟨_, rfl⟩ (.cons ⟨_, rfl⟩ (.cons ⟨_, rfl⟩ (.cons ⟨_, rfl⟩ (.cons ⟨_, rfl⟩ (.cons ⟨_, rfl⟩ (.cons ⟨_, rfl⟩ .nil)))))))⟩
    b_len := PySem.W.mg_none_of X G z_len
    b_range := PySem.W.mg_none_of X G z_range
    b_enumerate := PySem.W.mg_none_of X G z_enumerate
    b_reversed := PySem.W.mg_none_of X G z_reversed
    b_tuple := PySem.W.mg_none_of X G z_tuple
    b_list := PySem.W.mg_none_of X G z_list }
  have TK : KTx K CK := { cl := ⟨pg_Kinds, hd_Kinds, po_Kinds, sa_Kinds⟩, n_amount := n_Kinds_amount, n_every := n_Kinds_every, n_columns := n_Kinds_columns, n_links := n_Kinds_links }
  have TR : RTx K CR := { cl := ⟨pg_Ranking, hd_Ranking, po_Ranking, sa_Ranking⟩, n_kinds := n_Ranking_kinds, n_possible := n_Ranking_possible, n_levels := n_Ranking_levels }
  have TS : STx K CS := { cl := ⟨pg_Service, hd_Service, po_Service, sa_Service⟩, n_axioms := n_Service_axioms, n_rules := n_Service_rules }
  have F_is_head := fun_mk (st := s_is_head) l_is_head c_is_head k_is_head
  have b_is_head := F_is_head.binds (ps := ["numbers", "at"]) fun _ _ _ _ _ _ us hl => match us, hl with | [_, _], _ => rfl
  have F_head_length := fun_mk (st := s_head_length) l_head_length c_head_length k_head_length
  have b_head_length := F_head_length.binds (ps := ["form"]) fun _ _ _ _ _ _ us hl => match us, hl with | [_], _ => rfl
  have F_concept_end := fun_mk (st := s_concept_end) l_concept_end c_concept_end k_concept_end
  have b_concept_end := F_concept_end.binds (ps := ["numbers", "start"]) fun _ _ _ _ _ _ us hl => match us, hl with | [_, _], _ => rfl
  have F_two_concepts := fun_mk (st := s_two_concepts) l_two_concepts c_two_concepts k_two_concepts
  have b_two_concepts := F_two_concepts.binds (ps := ["numbers"]) fun _ _ _ _ _ _ us hl => match us, hl with | [_], _ => rfl
  have F_one_concept := fun_mk (st := s_one_concept) l_one_concept c_one_concept k_one_concept
  have b_one_concept := F_one_concept.binds (ps := ["numbers"]) fun _ _ _ _ _ _ us hl => match us, hl with | [_], _ => rfl
  have F_head_places := fun_mk (st := s_head_places) l_head_places c_head_places k_head_places
  have b_head_places := F_head_places.binds (ps := ["concept"]) fun _ _ _ _ _ _ us hl => match us, hl with | [_], _ => rfl
  have F_concept_at := fun_mk (st := s_concept_at) l_concept_at c_concept_at k_concept_at
  have b_concept_at := F_concept_at.binds (ps := ["concept", "at"]) fun _ _ _ _ _ _ us hl => match us, hl with | [_, _], _ => rfl
  have F_atoms_in := fun_mk (st := s_atoms_in) l_atoms_in c_atoms_in k_atoms_in
  have b_atoms_in := F_atoms_in.binds (ps := ["groups"]) fun _ _ _ _ _ _ us hl => match us, hl with | [_], _ => rfl
  have F_kinds_with_atom := fun_mk (st := s_kinds_with_atom) l_kinds_with_atom c_kinds_with_atom k_kinds_with_atom
  have b_kinds_with_atom := F_kinds_with_atom.binds (ps := ["amount", "place"]) fun _ _ _ _ _ _ us hl => match us, hl with | [_, _], _ => rfl
  have F_Kinds_combined := fun_mk (st := s_Kinds_combined) l_Kinds_combined c_Kinds_combined k_Kinds_combined
  have b_Kinds_combined := F_Kinds_combined.binds (ps := ["self", "concept", "at", "parts"]) fun _ _ _ _ _ _ us hl => match us, hl with | [_, _, _, _], _ => rfl
  have F_Kinds_having := fun_mk (st := s_Kinds_having) l_Kinds_having c_Kinds_having k_Kinds_having
  have b_Kinds_having := F_Kinds_having.binds (ps := ["self", "concept"]) fun _ _ _ _ _ _ us hl => match us, hl with | [_, _], _ => rfl
  have F_Kinds_link := fun_mk (st := s_Kinds_link) l_Kinds_link c_Kinds_link k_Kinds_link
  have b_Kinds_link := F_Kinds_link.binds (ps := ["self", "atom"]) fun _ _ _ _ _ _ us hl => match us, hl with | [_, _], _ => rfl
  have F_Kinds_allowed := fun_mk (st := s_Kinds_allowed) l_Kinds_allowed c_Kinds_allowed k_Kinds_allowed
  have b_Kinds_allowed := F_Kinds_allowed.binds (ps := ["self", "kind_bit", "role"]) fun _ _ _ _ _ _ us hl => match us, hl with | [_, _, _], _ => rfl
  have F_Kinds_finds_all := fun_mk (st := s_Kinds_finds_all) l_Kinds_finds_all c_Kinds_finds_all k_Kinds_finds_all
  have b_Kinds_finds_all := F_Kinds_finds_all.binds (ps := ["self", "kind_bit", "left"]) fun _ _ _ _ _ _ us hl => match us, hl with | [_, _, _], _ => rfl
  have F_Kinds_supported_by := fun_mk (st := s_Kinds_supported_by) l_Kinds_supported_by c_Kinds_supported_by k_Kinds_supported_by
  have b_Kinds_supported_by := F_Kinds_supported_by.binds (ps := ["self", "left"]) fun _ _ _ _ _ _ us hl => match us, hl with | [_, _], _ => rfl
  have F_Kinds_satisfying := fun_mk (st := s_Kinds_satisfying) l_Kinds_satisfying c_Kinds_satisfying k_Kinds_satisfying
  have b_Kinds_satisfying := F_Kinds_satisfying.binds (ps := ["self", "pairs"]) fun _ _ _ _ _ _ us hl => match us, hl with | [_, _], _ => rfl
  have F_Kinds_occurring := fun_mk (st := s_Kinds_occurring) l_Kinds_occurring c_Kinds_occurring k_Kinds_occurring
  have b_Kinds_occurring := F_Kinds_occurring.binds (ps := ["self", "axioms"]) fun _ _ _ _ _ _ us hl => match us, hl with | [_, _], _ => rfl
  have F_Kinds___init__ := fun_mk (st := s_Kinds___init__) l_Kinds___init__ c_Kinds___init__ k_Kinds___init__
  have b_Kinds___init__ := F_Kinds___init__.binds (ps := ["self", "atoms"]) fun _ _ _ _ _ _ us hl => match us, hl with | [_, _], _ => rfl
  have F_exceptional_rules := fun_mk (st := s_exceptional_rules) l_exceptional_rules c_exceptional_rules k_exceptional_rules
  have b_exceptional_rules := F_exceptional_rules.binds (ps := ["kinds", "possible", "rules"]) fun _ _ _ _ _ _ us hl => match us, hl with | [_, _, _], _ => rfl
  have F_narrowed := fun_mk (st := s_narrowed) l_narrowed c_narrowed k_narrowed
  have b_narrowed := F_narrowed.binds (ps := ["kinds", "possible", "rules"]) fun _ _ _ _ _ _ us hl => match us, hl with | [_, _, _], _ => rfl
  have F_Ranking_rank_of := fun_mk (st := s_Ranking_rank_of) l_Ranking_rank_of c_Ranking_rank_of k_Ranking_rank_of
  have b_Ranking_rank_of := F_Ranking_rank_of.binds (ps := ["self", "concept"]) fun _ _ _ _ _ _ us hl => match us, hl with | [_, _], _ => rfl
  have F_Ranking_all_have := fun_mk (st := s_Ranking_all_have) l_Ranking_all_have c_Ranking_all_have k_Ranking_all_have
  have b_Ranking_all_have := F_Ranking_all_have.binds (ps := ["self", "found", "concept"]) fun _ _ _ _ _ _ us hl => match us, hl with | [_, _, _], _ => rfl
  have F_Ranking_always_holds := fun_mk (st := s_Ranking_always_holds) l_Ranking_always_holds c_Ranking_always_holds k_Ranking_always_holds
  have b_Ranking_always_holds := F_Ranking_always_holds.binds (ps := ["self", "first", "second"]) fun _ _ _ _ _ _ us hl => match us, hl with | [_, _, _], _ => rfl
  have F_Ranking_normally_holds := fun_mk (st := s_Ranking_normally_holds) l_Ranking_normally_holds c_Ranking_normally_holds k_Ranking_normally_holds
  have b_Ranking_normally_holds := F_Ranking_normally_holds.binds (ps := ["self", "first", "second"]) fun _ _ _ _ _ _ us hl => match us, hl with | [_, _, _], _ => rfl
  have F_Ranking_ranks_with := fun_mk (st := s_Ranking_ranks_with) l_Ranking_ranks_with c_Ranking_ranks_with k_Ranking_ranks_with
  have b_Ranking_ranks_with := F_Ranking_ranks_with.binds (ps := ["self", "rule"]) fun _ _ _ _ _ _ us hl => match us, hl with | [_, _], _ => rfl
  have F_Ranking___init__ := fun_mk (st := s_Ranking___init__) l_Ranking___init__ c_Ranking___init__ k_Ranking___init__
  have b_Ranking___init__ := F_Ranking___init__.binds (ps := ["self", "kinds", "axioms", "rules"]) fun _ _ _ _ _ _ us hl => match us, hl with | [_, _, _, _], _ => rfl
  have F_Service_atoms_with := fun_mk (st := s_Service_atoms_with) l_Service_atoms_with c_Service_atoms_with k_Service_atoms_with
  have b_Service_atoms_with := F_Service_atoms_with.binds (ps := ["self", "concepts"]) fun _ _ _ _ _ _ us hl => match us, hl with | [_, _], _ => rfl
  have F_Service_has_too_many_atoms := fun_mk (st := s_Service_has_too_many_atoms) l_Service_has_too_many_atoms c_Service_has_too_many_atoms k_Service_has_too_many_atoms
  have b_Service_has_too_many_atoms := F_Service_has_too_many_atoms.binds (ps := ["self", "concepts"]) fun _ _ _ _ _ _ us hl => match us, hl with | [_, _], _ => rfl
  have F_Service_ranking_with := fun_mk (st := s_Service_ranking_with) l_Service_ranking_with c_Service_ranking_with k_Service_ranking_with
  have b_Service_ranking_with := F_Service_ranking_with.binds (ps := ["self", "concepts"]) fun _ _ _ _ _ _ us hl => match us, hl with | [_, _], _ => rfl
  have F_Service_line := fun_mk (st := s_Service_line) l_Service_line c_Service_line k_Service_line
  have b_Service_line := F_Service_line.binds (ps := ["self", "numbers"]) fun _ _ _ _ _ _ us hl => match us, hl with | [_, _], _ => rfl
  have F_Service_rule := fun_mk (st := s_Service_rule) l_Service_rule c_Service_rule k_Service_rule
  have b_Service_rule := F_Service_rule.binds (ps := ["self", "numbers"]) fun _ _ _ _ _ _ us hl => match us, hl with | [_, _], _ => rfl
  have F_Service_normally := fun_mk (st := s_Service_normally) l_Service_normally c_Service_normally k_Service_normally
  have b_Service_normally := F_Service_normally.binds (ps := ["self", "numbers"]) fun _ _ _ _ _ _ us hl => match us, hl with | [_, _], _ => rfl
  have F_Service_always := fun_mk (st := s_Service_always) l_Service_always c_Service_always k_Service_always
  have b_Service_always := F_Service_always.binds (ps := ["self", "numbers"]) fun _ _ _ _ _ _ us hl => match us, hl with | [_, _], _ => rfl
  have F_Service_rank := fun_mk (st := s_Service_rank) l_Service_rank c_Service_rank k_Service_rank
  have b_Service_rank := F_Service_rank.binds (ps := ["self", "numbers"]) fun _ _ _ _ _ _ us hl => match us, hl with | [_, _], _ => rfl
  have F_Service_ranks := fun_mk (st := s_Service_ranks) l_Service_ranks c_Service_ranks k_Service_ranks
  have b_Service_ranks := F_Service_ranks.binds (ps := ["self"]) fun _ _ _ _ _ _ us hl => match us, hl with | [_], _ => rfl
  have F_Service_drop := fun_mk (st := s_Service_drop) l_Service_drop c_Service_drop k_Service_drop
  have b_Service_drop := F_Service_drop.binds (ps := ["self", "index"]) fun _ _ _ _ _ _ us hl => match us, hl with | [_, _], _ => rfl
  have F_Service_begins := fun_mk (st := s_Service_begins) l_Service_begins c_Service_begins k_Service_begins
  have b_Service_begins := F_Service_begins.binds (ps := ["self"]) fun _ _ _ _ _ _ us hl => match us, hl with | [_], _ => rfl
  have F_Service___init__ := fun_mk (st := s_Service___init__) l_Service___init__ c_Service___init__ k_Service___init__
  have b_Service___init__ := F_Service___init__.binds (ps := ["self"]) fun _ _ _ _ _ _ us hl => match us, hl with | [_], _ => rfl
  have F_call_end := fun_mk (st := s_call_end) l_call_end c_call_end k_call_end
  have b_call_end := F_call_end.binds (ps := ["calls", "at"]) fun _ _ _ _ _ _ us hl => match us, hl with | [_, _], _ => rfl
  have F_answer_with_concepts := fun_mk (st := s_answer_with_concepts) l_answer_with_concepts c_answer_with_concepts k_answer_with_concepts
  have b_answer_with_concepts := F_answer_with_concepts.binds (ps := ["service", "number", "concepts"]) fun _ _ _ _ _ _ us hl => match us, hl with | [_, _, _], _ => rfl
  have F_answer_to := fun_mk (st := s_answer_to) l_answer_to c_answer_to k_answer_to
  have b_answer_to := F_answer_to.binds (ps := ["service", "call"]) fun _ _ _ _ _ _ us hl => match us, hl with | [_, _], _ => rfl
  have F_answers := fun_mk (st := s_answers) l_answers c_answers k_answers
  refine ⟨PySem.W.fnOf "answers" "answers" (defArgs s_answers) (defBody s_answers) (defScope s_answers) .none kV_answers dc_answers pm_answers an_answers cd_answers ct_answers, fun s us hu => match us, hu with | [_], _ => .of_eq rfl, fun base _ _ => ?_⟩
  have C_is_head : Cal P w K mg base 1 "is_head" (sp_is_head K) := ⟨f_is_head, _, ["numbers", "at"], ok_is_head F_is_head T, PySem.W.mg_of X G a_is_head, k_is_head, b_is_head⟩
  have C_head_length : Cal P w K mg base 1 "head_length" (sp_head_length) := ⟨f_head_length, _, ["form"], ok_head_length F_head_length T, PySem.W.mg_of X G a_head_length, k_head_length, b_head_length⟩
  have C_concept_end : Cal P w K mg base 2 "concept_end" (sp_concept_end K) := ⟨f_concept_end, _, ["numbers", "start"], ok_concept_end F_concept_end T C_is_head C_head_length, PySem.W.mg_of X G a_concept_end, k_concept_end, b_concept_end⟩
  have C_two_concepts : Cal P w K mg base 3 "two_concepts" (sp_two_concepts K) := ⟨f_two_concepts, _, ["numbers"], ok_two_concepts F_two_concepts T C_concept_end, PySem.W.mg_of X G a_two_concepts, k_two_concepts, b_two_concepts⟩
  have C_one_concept : Cal P w K mg base 3 "one_concept" (sp_one_concept K) := ⟨f_one_concept, _, ["numbers"], ok_one_concept F_one_concept T C_concept_end, PySem.W.mg_of X G a_one_concept, k_one_concept, b_one_concept⟩
  have C_head_places : Cal P w K mg base 2 "head_places" (sp_head_places K) := ⟨f_head_places, _, ["concept"], ok_head_places F_head_places T C_head_length, PySem.W.mg_of X G a_head_places, k_head_places, b_head_places⟩
  have C_concept_at : Cal P w K mg base 3 "concept_at" (sp_concept_at) := ⟨f_concept_at, _, ["concept", "at"], ok_concept_at F_concept_at T C_concept_end, PySem.W.mg_of X G a_concept_at, k_concept_at, b_concept_at⟩
  have C_atoms_in : Cal P w K mg base 4 "atoms_in" (sp_atoms_in K) := ⟨f_atoms_in, _, ["groups"], ok_atoms_in F_atoms_in T C_head_places C_concept_at, PySem.W.mg_of X G a_atoms_in, k_atoms_in, b_atoms_in⟩
  have C_kinds_with_atom : Cal P w K mg base 1 "kinds_with_atom" (sp_kinds_with_atom) := ⟨f_kinds_with_atom, _, ["amount", "place"], ok_kinds_with_atom F_kinds_with_atom T, PySem.W.mg_of X G a_kinds_with_atom, k_kinds_with_atom, b_kinds_with_atom⟩
  have C_Kinds_combined : Met P w K mg base 4 CK "combined" (sp_combined CK) := ⟨f_Kinds_combined, _, ["self", "concept", "at", "parts"], TK.cl, ⟨a_Kinds_combined, i_Kinds_combined, k_Kinds_combined⟩, ok_combined F_Kinds_combined T TK C_concept_at, b_Kinds_combined⟩
  have C_Kinds_having : Met P w K mg base 5 CK "having" (sp_having CK) := ⟨f_Kinds_having, _, ["self", "concept"], TK.cl, ⟨a_Kinds_having, i_Kinds_having, k_Kinds_having⟩, ok_having F_Kinds_having T TK C_head_places C_Kinds_combined, b_Kinds_having⟩
  have C_Kinds_link : Met P w K mg base 6 CK "link" (sp_link CK) := ⟨f_Kinds_link, _, ["self", "atom"], TK.cl, ⟨a_Kinds_link, i_Kinds_link, k_Kinds_link⟩, ok_link F_Kinds_link T TK C_Kinds_having, b_Kinds_link⟩
  have C_Kinds_allowed : Met P w K mg base 1 CK "allowed" (sp_allowed CK) := ⟨f_Kinds_allowed, _, ["self", "kind_bit", "role"], TK.cl, ⟨a_Kinds_allowed, i_Kinds_allowed, k_Kinds_allowed⟩, ok_allowed F_Kinds_allowed T TK, b_Kinds_allowed⟩
  have C_Kinds_finds_all : Met P w K mg base 2 CK "finds_all" (sp_finds_all CK) := ⟨f_Kinds_finds_all, _, ["self", "kind_bit", "left"], TK.cl, ⟨a_Kinds_finds_all, i_Kinds_finds_all, k_Kinds_finds_all⟩, ok_finds_all F_Kinds_finds_all T TK C_Kinds_allowed, b_Kinds_finds_all⟩
  have C_Kinds_supported_by : Met P w K mg base 3 CK "supported_by" (sp_supported_by CK) := ⟨f_Kinds_supported_by, _, ["self", "left"], TK.cl, ⟨a_Kinds_supported_by, i_Kinds_supported_by, k_Kinds_supported_by⟩, ok_supported_by F_Kinds_supported_by T TK C_Kinds_finds_all, b_Kinds_supported_by⟩
  have C_Kinds_satisfying : Met P w K mg base 6 CK "satisfying" (sp_satisfying K CK) := ⟨f_Kinds_satisfying, _, ["self", "pairs"], TK.cl, ⟨a_Kinds_satisfying, i_Kinds_satisfying, k_Kinds_satisfying⟩, ok_satisfying F_Kinds_satisfying T TK C_Kinds_having, b_Kinds_satisfying⟩
  have C_Kinds_occurring : Met P w K mg base 7 CK "occurring" (sp_occurring K CK) := ⟨f_Kinds_occurring, _, ["self", "axioms"], TK.cl, ⟨a_Kinds_occurring, i_Kinds_occurring, k_Kinds_occurring⟩, ok_occurring F_Kinds_occurring T TK C_Kinds_satisfying C_Kinds_supported_by, b_Kinds_occurring⟩
  have C_Kinds : Mak P w K mg base 7 "Kinds" CK (sp_Kinds CK) := ⟨f_Kinds___init__, _, ["self", "atoms"], ⟨mk_Kinds, a_Kinds___init__, i_Kinds___init__, kc_Kinds⟩, ok_Kinds F_Kinds___init__ T TK C_kinds_with_atom C_Kinds_link, PySem.W.mg_of X G aC_Kinds, b_Kinds___init__⟩
  have C_exceptional_rules : Cal P w K mg base 7 "exceptional_rules" (sp_exceptional K CK) := ⟨f_exceptional_rules, _, ["kinds", "possible", "rules"], ok_exceptional F_exceptional_rules T TK C_Kinds_satisfying C_Kinds_having, PySem.W.mg_of X G a_exceptional_rules, k_exceptional_rules, b_exceptional_rules⟩
  have C_narrowed : Cal P w K mg base 8 "narrowed" (sp_narrowed K CK) := ⟨f_narrowed, _, ["kinds", "possible", "rules"], ok_narrowed F_narrowed T C_exceptional_rules, PySem.W.mg_of X G a_narrowed, k_narrowed, b_narrowed⟩
  have C_Ranking_rank_of : Met P w K mg base 7 CR "rank_of" (sp_rank_of CK CR) := ⟨f_Ranking_rank_of, _, ["self", "concept"], TR.cl, ⟨a_Ranking_rank_of, i_Ranking_rank_of, k_Ranking_rank_of⟩, ok_rank_of F_Ranking_rank_of T TK TR C_Kinds_having C_Kinds_satisfying, b_Ranking_rank_of⟩
  have C_Ranking_all_have : Met P w K mg base 6 CR "all_have" (sp_all_have CK CR) := ⟨f_Ranking_all_have, _, ["self", "found", "concept"], TR.cl, ⟨a_Ranking_all_have, i_Ranking_all_have, k_Ranking_all_have⟩, ok_all_have F_Ranking_all_have T TK TR C_Kinds_having, b_Ranking_all_have⟩
  have C_Ranking_always_holds : Met P w K mg base 7 CR "always_holds" (sp_always_holds CK CR) := ⟨f_Ranking_always_holds, _, ["self", "first", "second"], TR.cl, ⟨a_Ranking_always_holds, i_Ranking_always_holds, k_Ranking_always_holds⟩, ok_always_holds F_Ranking_always_holds T TK TR C_Kinds_having C_Ranking_all_have, b_Ranking_always_holds⟩
  have C_Ranking_normally_holds : Met P w K mg base 8 CR "normally_holds" (sp_normally_holds CK CR) := ⟨f_Ranking_normally_holds, _, ["self", "first", "second"], TR.cl, ⟨a_Ranking_normally_holds, i_Ranking_normally_holds, k_Ranking_normally_holds⟩, ok_normally_holds F_Ranking_normally_holds T TK TR C_Kinds_having C_Kinds_satisfying C_Ranking_rank_of C_Ranking_all_have, b_Ranking_normally_holds⟩
  have C_Ranking_ranks_with : Met P w K mg base 1 CR "ranks_with" (sp_ranks_with CK CR) := ⟨f_Ranking_ranks_with, _, ["self", "rule"], TR.cl, ⟨a_Ranking_ranks_with, i_Ranking_ranks_with, k_Ranking_ranks_with⟩, ok_ranks_with F_Ranking_ranks_with T TR, b_Ranking_ranks_with⟩
  have C_Ranking : Mak P w K mg base 9 "Ranking" CR (sp_Ranking CK CR) := ⟨f_Ranking___init__, _, ["self", "kinds", "axioms", "rules"], ⟨mk_Ranking, a_Ranking___init__, i_Ranking___init__, kc_Ranking⟩, ok_Ranking F_Ranking___init__ T TK TR C_Kinds_occurring C_narrowed, PySem.W.mg_of X G aC_Ranking, b_Ranking___init__⟩
  have C_Service_atoms_with : Met P w K mg base 5 CS "atoms_with" (sp_atoms_with CS) := ⟨f_Service_atoms_with, _, ["self", "concepts"], TS.cl, ⟨a_Service_atoms_with, i_Service_atoms_with, k_Service_atoms_with⟩, ok_atoms_with F_Service_atoms_with T TS C_atoms_in, b_Service_atoms_with⟩
  have C_Service_has_too_many_atoms : Met P w K mg base 6 CS "has_too_many_atoms" (sp_has_too_many_atoms CS) := ⟨f_Service_has_too_many_atoms, _, ["self", "concepts"], TS.cl, ⟨a_Service_has_too_many_atoms, i_Service_has_too_many_atoms, k_Service_has_too_many_atoms⟩, ok_has_too_many_atoms F_Service_has_too_many_atoms T TS C_Service_atoms_with, b_Service_has_too_many_atoms⟩
  have C_Service_ranking_with : Met P w K mg base 11 CS "ranking_with" (sp_ranking_with CK CR CS) := ⟨f_Service_ranking_with, _, ["self", "concepts"], TS.cl, ⟨a_Service_ranking_with, i_Service_ranking_with, k_Service_ranking_with⟩, ok_ranking_with F_Service_ranking_with T TS C_Service_atoms_with C_Kinds C_Ranking, b_Service_ranking_with⟩
  have C_Service_line : Met P w K mg base 7 CS "line" (sp_op K CS .line) := ⟨f_Service_line, _, ["self", "numbers"], TS.cl, ⟨a_Service_line, i_Service_line, k_Service_line⟩, ok_Service_line F_Service_line T TS C_two_concepts C_Service_has_too_many_atoms, b_Service_line⟩
  have C_Service_rule : Met P w K mg base 7 CS "rule" (sp_op K CS .rule) := ⟨f_Service_rule, _, ["self", "numbers"], TS.cl, ⟨a_Service_rule, i_Service_rule, k_Service_rule⟩, ok_Service_rule F_Service_rule T TS C_two_concepts C_Service_has_too_many_atoms, b_Service_rule⟩
  have C_Service_normally : Met P w K mg base 12 CS "normally" (sp_op K CS .normally) := ⟨f_Service_normally, _, ["self", "numbers"], TS.cl, ⟨a_Service_normally, i_Service_normally, k_Service_normally⟩, ok_Service_normally F_Service_normally T TS C_two_concepts C_Service_has_too_many_atoms C_Service_ranking_with C_Ranking_normally_holds, b_Service_normally⟩
  have C_Service_always : Met P w K mg base 12 CS "always" (sp_op K CS .always) := ⟨f_Service_always, _, ["self", "numbers"], TS.cl, ⟨a_Service_always, i_Service_always, k_Service_always⟩, ok_Service_always F_Service_always T TS C_two_concepts C_Service_has_too_many_atoms C_Service_ranking_with C_Ranking_always_holds, b_Service_always⟩
  have C_Service_rank : Met P w K mg base 12 CS "rank" (sp_op K CS .rank) := ⟨f_Service_rank, _, ["self", "numbers"], TS.cl, ⟨a_Service_rank, i_Service_rank, k_Service_rank⟩, ok_Service_rank F_Service_rank T TR TS C_one_concept C_Service_has_too_many_atoms C_Service_ranking_with C_Ranking_rank_of, b_Service_rank⟩
  have C_Service_ranks : Met P w K mg base 12 CS "ranks" (sp_ranks CS) := ⟨f_Service_ranks, _, ["self"], TS.cl, ⟨a_Service_ranks, i_Service_ranks, k_Service_ranks⟩, ok_Service_ranks F_Service_ranks T TR TS C_Service_ranking_with C_Ranking_ranks_with, b_Service_ranks⟩
  have C_Service_drop : Met P w K mg base 1 CS "drop" (sp_drop CS) := ⟨f_Service_drop, _, ["self", "index"], TS.cl, ⟨a_Service_drop, i_Service_drop, k_Service_drop⟩, ok_Service_drop F_Service_drop T TS, b_Service_drop⟩
  have C_Service_begins : Met P w K mg base 1 CS "begins" (sp_begins CS) := ⟨f_Service_begins, _, ["self"], TS.cl, ⟨a_Service_begins, i_Service_begins, k_Service_begins⟩, ok_Service_begins F_Service_begins T TS, b_Service_begins⟩
  have C_Service : Mak P w K mg base 1 "Service" CS (sp_Service CS) := ⟨f_Service___init__, _, ["self"], ⟨mk_Service, a_Service___init__, i_Service___init__, kc_Service⟩, ok_Service F_Service___init__ T TS, PySem.W.mg_of X G aC_Service, b_Service___init__⟩
  have C_call_end : Cal P w K mg base 1 "call_end" (sp_call_end K) := ⟨f_call_end, _, ["calls", "at"], ok_call_end F_call_end T, PySem.W.mg_of X G a_call_end, k_call_end, b_call_end⟩
  have C_answer_with_concepts : Cal P w K mg base 13 "answer_with_concepts" (sp_awc K CS) := ⟨f_answer_with_concepts, _, ["service", "number", "concepts"], ok_awc F_answer_with_concepts T C_Service_line C_Service_rule C_Service_normally C_Service_always C_Service_rank, PySem.W.mg_of X G a_answer_with_concepts, k_answer_with_concepts, b_answer_with_concepts⟩
  have C_answer_to : Cal P w K mg base 14 "answer_to" (sp_answer_to K CS) := ⟨f_answer_to, _, ["service", "call"], ok_answer_to F_answer_to T C_Service_begins C_Service_ranks C_Service_drop C_answer_with_concepts, PySem.W.mg_of X G a_answer_to, k_answer_to, b_answer_to⟩
  exact ok_answers F_answers T TS C_Service C_call_end C_answer_to
end Py
open PySem PySem.W PyProof.Rows
set_option maxRecDepth 100000 in
set_option maxHeartbeats 8000000 in
theorem PySem.Challenge.cw_exceptranks_s01_answers_holds : PySem.Challenge.rw_exceptranks_s01_answers.Holds := by
  w_on; k_headS; (case hw => exact ⟨[.list [.int 0]], by decide +kernel, by decide +kernel⟩)
  k_fillS
  refine L2.walk_specK (r := PySem.Challenge.rw_exceptranks_s01_answers) (k := 15) (CX := L2.CX0) (ps := ["calls"]) (sp := fun K => Py.sp_answers K) (by decide +kernel) rfl rfl ⟨rfl, by decide, by decide⟩ (fun w h Y => PySem.W.kIn_of Y) ?F ?S (fun _ _ _ _ z => z)
  case F =>
    intro w mg fa h Y KX G hmg
    refine' Py.all_mk KX G hmg ?aC_Kinds ?aC_Ranking ?aC_Service ?aP_ ?aH_ ?lP_ ?lH_ ?a_is_head ?l_is_head ?c_is_head ?k_is_head ?a_head_length ?l_head_length ?c_head_length ?k_head_length ?a_concept_end ?l_concept_end ?c_concept_end ?k_concept_end ?a_two_concepts ?l_two_concepts ?c_two_concepts ?k_two_concepts ?a_one_concept ?l_one_concept ?c_one_concept ?k_one_concept ?a_head_places ?l_head_places ?c_head_places ?k_head_places ?a_concept_at ?l_concept_at ?c_concept_at ?k_concept_at ?a_atoms_in ?l_atoms_in ?c_atoms_in ?k_atoms_in ?a_kinds_with_atom ?l_kinds_with_atom ?c_kinds_with_atom ?k_kinds_with_atom ?a_Kinds_combined ?i_Kinds_combined ?l_Kinds_combined ?c_Kinds_combined ?k_Kinds_combined ?a_Kinds_having ?i_Kinds_having ?l_Kinds_having ?c_Kinds_having ?k_Kinds_having ?a_Kinds_link ?i_Kinds_link ?l_Kinds_link ?c_Kinds_link ?k_Kinds_link ?a_Kinds_allowed ?i_Kinds_allowed ?l_Kinds_allowed ?c_Kinds_allowed ?k_Kinds_allowed ?a_Kinds_finds_all ?i_Kinds_finds_all ?l_Kinds_finds_all ?c_Kinds_finds_all ?k_Kinds_finds_all ?a_Kinds_supported_by ?i_Kinds_supported_by ?l_Kinds_supported_by ?c_Kinds_supported_by ?k_Kinds_supported_by ?a_Kinds_satisfying ?i_Kinds_satisfying ?l_Kinds_satisfying ?c_Kinds_satisfying ?k_Kinds_satisfying ?a_Kinds_occurring ?i_Kinds_occurring ?l_Kinds_occurring ?c_Kinds_occurring ?k_Kinds_occurring ?a_Kinds___init__ ?i_Kinds___init__ ?l_Kinds___init__ ?c_Kinds___init__ ?k_Kinds___init__ ?a_exceptional_rules ?l_exceptional_rules ?c_exceptional_rules ?k_exceptional_rules ?a_narrowed ?l_narrowed ?c_narrowed ?k_narrowed ?a_Ranking_rank_of ?i_Ranking_rank_of ?l_Ranking_rank_of ?c_Ranking_rank_of ?k_Ranking_rank_of ?a_Ranking_all_have ?i_Ranking_all_have ?l_Ranking_all_have ?c_Ranking_all_have ?k_Ranking_all_have ?a_Ranking_always_holds ?i_Ranking_always_holds ?l_Ranking_always_holds ?c_Ranking_always_holds ?k_Ranking_always_holds ?a_Ranking_normally_holds ?i_Ranking_normally_holds ?l_Ranking_normally_holds ?c_Ranking_normally_holds ?k_Ranking_normally_holds ?a_Ranking_ranks_with ?i_Ranking_ranks_with ?l_Ranking_ranks_with ?c_Ranking_ranks_with ?k_Ranking_ranks_with ?a_Ranking___init__ ?i_Ranking___init__ ?l_Ranking___init__ ?c_Ranking___init__ ?k_Ranking___init__ ?a_Service_atoms_with ?i_Service_atoms_with ?l_Service_atoms_with ?c_Service_atoms_with ?k_Service_atoms_with ?a_Service_has_too_many_atoms ?i_Service_has_too_many_atoms ?l_Service_has_too_many_atoms ?c_Service_has_too_many_atoms ?k_Service_has_too_many_atoms ?a_Service_ranking_with ?i_Service_ranking_with ?l_Service_ranking_with ?c_Service_ranking_with ?k_Service_ranking_with ?a_Service_line ?i_Service_line ?l_Service_line ?c_Service_line ?k_Service_line ?a_Service_rule ?i_Service_rule ?l_Service_rule ?c_Service_rule ?k_Service_rule ?a_Service_normally ?i_Service_normally ?l_Service_normally ?c_Service_normally ?k_Service_normally ?a_Service_always ?i_Service_always ?l_Service_always ?c_Service_always ?k_Service_always ?a_Service_rank ?i_Service_rank ?l_Service_rank ?c_Service_rank ?k_Service_rank ?a_Service_ranks ?i_Service_ranks ?l_Service_ranks ?c_Service_ranks ?k_Service_ranks ?a_Service_drop ?i_Service_drop ?l_Service_drop ?c_Service_drop ?k_Service_drop ?a_Service_begins ?i_Service_begins ?l_Service_begins ?c_Service_begins ?k_Service_begins ?a_Service___init__ ?i_Service___init__ ?l_Service___init__ ?c_Service___init__ ?k_Service___init__ ?a_call_end ?l_call_end ?c_call_end ?k_call_end ?a_answer_with_concepts ?l_answer_with_concepts ?c_answer_with_concepts ?k_answer_with_concepts ?a_answer_to ?l_answer_to ?c_answer_to ?k_answer_to ?a_answers ?l_answers ?c_answers ?k_answers ?pg_Kinds ?hd_Kinds ?po_Kinds ?sa_Kinds ?mk_Kinds ?kc_Kinds ?n_Kinds_amount ?n_Kinds_every ?n_Kinds_columns ?n_Kinds_links ?pg_Ranking ?hd_Ranking ?po_Ranking ?sa_Ranking ?mk_Ranking ?kc_Ranking ?n_Ranking_kinds ?n_Ranking_possible ?n_Ranking_levels ?pg_Service ?hd_Service ?po_Service ?sa_Service ?mk_Service ?kc_Service ?n_Service_axioms ?n_Service_rules ?g_EVERYTHING ?g_NOTHING ?g_NAME ?g_BOTH ?g_EITHER ?g_LACKING ?g_TO_SOME ?g_TO_ALL ?g_MOST_AXIOMS ?g_MOST_RULES ?g_MOST_ATOMS ?g_BEGINS ?g_LINE ?g_RULE ?g_NORMALLY ?g_ALWAYS ?g_RANK ?g_RANKS ?g_DROP ?z_len ?z_range ?z_enumerate ?z_reversed ?z_tuple ?z_list
    (case aC_Kinds => k_is)
    (case aC_Ranking => k_is)
    (case aC_Service => k_is)
    (case aP_ => k_is)
    (case aH_ => k_is)
    (case lP_ => k_is)
    (case lH_ => k_is)
    (case a_is_head => k_is)
    (case l_is_head => k_is)
    (case c_is_head => k_is)
    (case k_is_head => k_is)
    (case a_head_length => k_is)
    (case l_head_length => k_is)
    (case c_head_length => k_is)
    (case k_head_length => k_is)
    (case a_concept_end => k_is)
    (case l_concept_end => k_is)
    (case c_concept_end => k_is)
    (case k_concept_end => k_is)
    (case a_two_concepts => k_is)
    (case l_two_concepts => k_is)
    (case c_two_concepts => k_is)
    (case k_two_concepts => k_is)
    (case a_one_concept => k_is)
    (case l_one_concept => k_is)
    (case c_one_concept => k_is)
    (case k_one_concept => k_is)
    (case a_head_places => k_is)
    (case l_head_places => k_is)
    (case c_head_places => k_is)
    (case k_head_places => k_is)
    (case a_concept_at => k_is)
    (case l_concept_at => k_is)
    (case c_concept_at => k_is)
    (case k_concept_at => k_is)
    (case a_atoms_in => k_is)
    (case l_atoms_in => k_is)
    (case c_atoms_in => k_is)
    (case k_atoms_in => k_is)
    (case a_kinds_with_atom => k_is)
    (case l_kinds_with_atom => k_is)
    (case c_kinds_with_atom => k_is)
    (case k_kinds_with_atom => k_is)
    (case a_Kinds_combined => k_is)
    (case i_Kinds_combined => k_is)
    (case l_Kinds_combined => k_is)
    (case c_Kinds_combined => k_is)
    (case k_Kinds_combined => k_is)
    (case a_Kinds_having => k_is)
    (case i_Kinds_having => k_is)
    (case l_Kinds_having => k_is)
    (case c_Kinds_having => k_is)
    (case k_Kinds_having => k_is)
    (case a_Kinds_link => k_is)
    (case i_Kinds_link => k_is)
    (case l_Kinds_link => k_is)
    (case c_Kinds_link => k_is)
    (case k_Kinds_link => k_is)
    (case a_Kinds_allowed => k_is)
    (case i_Kinds_allowed => k_is)
    (case l_Kinds_allowed => k_is)
    (case c_Kinds_allowed => k_is)
    (case k_Kinds_allowed => k_is)
    (case a_Kinds_finds_all => k_is)
    (case i_Kinds_finds_all => k_is)
    (case l_Kinds_finds_all => k_is)
    (case c_Kinds_finds_all => k_is)
    (case k_Kinds_finds_all => k_is)
    (case a_Kinds_supported_by => k_is)
    (case i_Kinds_supported_by => k_is)
    (case l_Kinds_supported_by => k_is)
    (case c_Kinds_supported_by => k_is)
    (case k_Kinds_supported_by => k_is)
    (case a_Kinds_satisfying => k_is)
    (case i_Kinds_satisfying => k_is)
    (case l_Kinds_satisfying => k_is)
    (case c_Kinds_satisfying => k_is)
    (case k_Kinds_satisfying => k_is)
    (case a_Kinds_occurring => k_is)
    (case i_Kinds_occurring => k_is)
    (case l_Kinds_occurring => k_is)
    (case c_Kinds_occurring => k_is)
    (case k_Kinds_occurring => k_is)
    (case a_Kinds___init__ => k_is)
    (case i_Kinds___init__ => k_is)
    (case l_Kinds___init__ => k_is)
    (case c_Kinds___init__ => k_is)
    (case k_Kinds___init__ => k_is)
    (case a_exceptional_rules => k_is)
    (case l_exceptional_rules => k_is)
    (case c_exceptional_rules => k_is)
    (case k_exceptional_rules => k_is)
    (case a_narrowed => k_is)
    (case l_narrowed => k_is)
    (case c_narrowed => k_is)
    (case k_narrowed => k_is)
    (case a_Ranking_rank_of => k_is)
    (case i_Ranking_rank_of => k_is)
    (case l_Ranking_rank_of => k_is)
    (case c_Ranking_rank_of => k_is)
    (case k_Ranking_rank_of => k_is)
    (case a_Ranking_all_have => k_is)
    (case i_Ranking_all_have => k_is)
    (case l_Ranking_all_have => k_is)
    (case c_Ranking_all_have => k_is)
    (case k_Ranking_all_have => k_is)
    (case a_Ranking_always_holds => k_is)
    (case i_Ranking_always_holds => k_is)
    (case l_Ranking_always_holds => k_is)
    (case c_Ranking_always_holds => k_is)
    (case k_Ranking_always_holds => k_is)
    (case a_Ranking_normally_holds => k_is)
    (case i_Ranking_normally_holds => k_is)
    (case l_Ranking_normally_holds => k_is)
    (case c_Ranking_normally_holds => k_is)
    (case k_Ranking_normally_holds => k_is)
    (case a_Ranking_ranks_with => k_is)
    (case i_Ranking_ranks_with => k_is)
    (case l_Ranking_ranks_with => k_is)
    (case c_Ranking_ranks_with => k_is)
    (case k_Ranking_ranks_with => k_is)
    (case a_Ranking___init__ => k_is)
    (case i_Ranking___init__ => k_is)
    (case l_Ranking___init__ => k_is)
    (case c_Ranking___init__ => k_is)
    (case k_Ranking___init__ => k_is)
    (case a_Service_atoms_with => k_is)
    (case i_Service_atoms_with => k_is)
    (case l_Service_atoms_with => k_is)
    (case c_Service_atoms_with => k_is)
    (case k_Service_atoms_with => k_is)
    (case a_Service_has_too_many_atoms => k_is)
    (case i_Service_has_too_many_atoms => k_is)
    (case l_Service_has_too_many_atoms => k_is)
    (case c_Service_has_too_many_atoms => k_is)
    (case k_Service_has_too_many_atoms => k_is)
    (case a_Service_ranking_with => k_is)
    (case i_Service_ranking_with => k_is)
    (case l_Service_ranking_with => k_is)
    (case c_Service_ranking_with => k_is)
    (case k_Service_ranking_with => k_is)
    (case a_Service_line => k_is)
    (case i_Service_line => k_is)
    (case l_Service_line => k_is)
    (case c_Service_line => k_is)
    (case k_Service_line => k_is)
    (case a_Service_rule => k_is)
    (case i_Service_rule => k_is)
    (case l_Service_rule => k_is)
    (case c_Service_rule => k_is)
    (case k_Service_rule => k_is)
    (case a_Service_normally => k_is)
    (case i_Service_normally => k_is)
    (case l_Service_normally => k_is)
    (case c_Service_normally => k_is)
    (case k_Service_normally => k_is)
    (case a_Service_always => k_is)
    (case i_Service_always => k_is)
    (case l_Service_always => k_is)
    (case c_Service_always => k_is)
    (case k_Service_always => k_is)
    (case a_Service_rank => k_is)
    (case i_Service_rank => k_is)
    (case l_Service_rank => k_is)
    (case c_Service_rank => k_is)
    (case k_Service_rank => k_is)
    (case a_Service_ranks => k_is)
    (case i_Service_ranks => k_is)
    (case l_Service_ranks => k_is)
    (case c_Service_ranks => k_is)
    (case k_Service_ranks => k_is)
    (case a_Service_drop => k_is)
    (case i_Service_drop => k_is)
    (case l_Service_drop => k_is)
    (case c_Service_drop => k_is)
    (case k_Service_drop => k_is)
    (case a_Service_begins => k_is)
    (case i_Service_begins => k_is)
    (case l_Service_begins => k_is)
    (case c_Service_begins => k_is)
    (case k_Service_begins => k_is)
    (case a_Service___init__ => k_is)
    (case i_Service___init__ => k_is)
    (case l_Service___init__ => k_is)
    (case c_Service___init__ => k_is)
    (case k_Service___init__ => k_is)
    (case a_call_end => k_is)
    (case l_call_end => k_is)
    (case c_call_end => k_is)
    (case k_call_end => k_is)
    (case a_answer_with_concepts => k_is)
    (case l_answer_with_concepts => k_is)
    (case c_answer_with_concepts => k_is)
    (case k_answer_with_concepts => k_is)
    (case a_answer_to => k_is)
    (case l_answer_to => k_is)
    (case c_answer_to => k_is)
    (case k_answer_to => k_is)
    (case a_answers => k_is)
    (case l_answers => k_is)
    (case c_answers => k_is)
    (case k_answers => k_is)
    (case pg_Kinds => k_is)
    (case hd_Kinds => k_is)
    (case po_Kinds => k_is)
    (case sa_Kinds => k_is)
    (case mk_Kinds => k_is)
    (case kc_Kinds => k_is)
    (case n_Kinds_amount => k_is)
    (case n_Kinds_every => k_is)
    (case n_Kinds_columns => k_is)
    (case n_Kinds_links => k_is)
    (case pg_Ranking => k_is)
    (case hd_Ranking => k_is)
    (case po_Ranking => k_is)
    (case sa_Ranking => k_is)
    (case mk_Ranking => k_is)
    (case kc_Ranking => k_is)
    (case n_Ranking_kinds => k_is)
    (case n_Ranking_possible => k_is)
    (case n_Ranking_levels => k_is)
    (case pg_Service => k_is)
    (case hd_Service => k_is)
    (case po_Service => k_is)
    (case sa_Service => k_is)
    (case mk_Service => k_is)
    (case kc_Service => k_is)
    (case n_Service_axioms => k_is)
    (case n_Service_rules => k_is)
    (case g_EVERYTHING => k_is)
    (case g_NOTHING => k_is)
    (case g_NAME => k_is)
    (case g_BOTH => k_is)
    (case g_EITHER => k_is)
    (case g_LACKING => k_is)
    (case g_TO_SOME => k_is)
    (case g_TO_ALL => k_is)
    (case g_MOST_AXIOMS => k_is)
    (case g_MOST_RULES => k_is)
    (case g_MOST_ATOMS => k_is)
    (case g_BEGINS => k_is)
    (case g_LINE => k_is)
    (case g_RULE => k_is)
    (case g_NORMALLY => k_is)
    (case g_ALWAYS => k_is)
    (case g_RANK => k_is)
    (case g_RANKS => k_is)
    (case g_DROP => k_is)
    (case z_len => k_is)
    (case z_range => k_is)
    (case z_enumerate => k_is)
    (case z_reversed => k_is)
    (case z_tuple => k_is)
    (case z_list => k_is)
  case S =>
    intro K H xs a hO hwi hask hx
    cases hx with
    | cons h1 h2 =>
      cases h2
      cases h1 with
      | lst hs ha =>
        have e := L2.ints_dw a.1 _ ha
        subst e
        exact ⟨_, a.1, rfl, hs, hask, fun H' p hp => .lst (L2.SqL.of hp) (L2.dw_ints _)⟩

